import PyProof.Rows.All
import Wide.All
import OpenK.AllK
import Wide.FinOn
import PyProof.EqAt
import PyProof.EqKinds
import PyProof.TupleCall
import KE.BitLaws
import Open.SpecLaws
import KE.OsHead
import KE.OsGo
import KE.KMinKey
import KE.KNestM
import PyKh352
import PySem.Challenge.RW_seamsdoors_s01_answers
section
set_option Elab.async false
set_option linter.all false
set_option maxRecDepth 100000
/-! THE HAND LAYER, for ints, bools, texts, own classes, lists, tuples, dicts, comprehensions, walks over dicts, enumerate, zip, reversed, texts, calls, loops. Paste it whole ahead of your own text; what your proof does not reach may be deleted. -/
namespace L2
open PySem PySem.Spec PyProof.Rows

/-- a key: an int or a str -/
abbrev Key := Sum Int Str
def keyIs : Key → Value → Bool
  | .inl k, v => Value.isInt k v
  | .inr x, v => Value.isStrOf x v
def keyH (w : World) : Key → Int
  | .inl k => hashInt k
  | .inr x => hashStr w x
theorem keyIs_shape : ∀ {k : Key} {v : Value}, keyIs k v = true → (∃ i t, k = Sum.inl i ∧ v = Value.int i t) ∨ (∃ x t, k = Sum.inr x ∧ v = Value.str x t)
  | .inl i, v, h => by
    obtain ⟨t, e⟩ := Value.isInt_shape (k := i) (v := v) h
    exact .inl ⟨i, t, rfl, e⟩
  | .inr x, v, h => by
    obtain ⟨t, e⟩ := Value.isStrOf_shape (x := x) (v := v) h
    exact .inr ⟨x, t, rfl, e⟩
theorem key_ll (a b : Int) : decide ((Sum.inl a : Key) = Sum.inl b) = (a == b) := by
  by_cases e : a = b
  · subst e; simp
  · have h : ¬ (Sum.inl a : Key) = Sum.inl b := fun q => e (Sum.inl.inj q)
    rw [decide_eq_false h]
    exact (beq_eq_false_iff_ne.mpr e).symm
theorem key_rr (a b : Str) : decide ((Sum.inr a : Key) = Sum.inr b) = decide (a = b) := by
  by_cases e : a = b
  · subst e; simp
  · have h : ¬ (Sum.inr a : Key) = Sum.inr b := fun q => e (Sum.inr.inj q)
    rw [decide_eq_false h, decide_eq_false e]
theorem key_lr (a : Int) (b : Str) : decide ((Sum.inl a : Key) = Sum.inr b) = false := decide_eq_false (fun q => nomatch q)
theorem key_rl (a : Str) (b : Int) : decide ((Sum.inr a : Key) = Sum.inl b) = false := decide_eq_false (fun q => nomatch q)

def mixKind (prog : Program) (w : World) : PySem.KeyKind prog w Key where
  is := keyIs
  hash := keyH w
  inj := fun v a b ha hb => by
    rcases keyIs_shape ha with ⟨i, t, rfl, rfl⟩ | ⟨x, t, rfl, rfl⟩
    · rcases keyIs_shape hb with ⟨j, u, rfl, e⟩ | ⟨y, u, rfl, e⟩
      · injection e with e1 _; rw [e1]
      · exact nomatch e
    · rcases keyIs_shape hb with ⟨j, u, rfl, e⟩ | ⟨y, u, rfl, e⟩
      · exact nomatch e
      · injection e with e1 _; rw [e1]
  byValue := fun k v h => by
    rcases keyIs_shape h with ⟨i, t, rfl, rfl⟩ | ⟨x, t, rfl, rfl⟩ <;> rfl
  pyHash := fun hv h => by
    rcases keyIs_shape hv with ⟨i, t, rfl, rfl⟩ | ⟨x, t, rfl, rfl⟩
    · exact wpAny_pyHash_int h
    · exact wpAny_pyHash_str h
  eqBool := fun hu hv h => by
    rcases keyIs_shape hu with ⟨i, t, rfl, rfl⟩ | ⟨x, t, rfl, rfl⟩
    · rcases keyIs_shape hv with ⟨j, u, rfl, rfl⟩ | ⟨y, u, rfl, rfl⟩
      · rw [key_ll] at h; exact wpAny_eqBool_int h
      · rw [key_lr] at h; exact SeqAt.EqAt.int_str i t y u _ _ _ _ h
    · rcases keyIs_shape hv with ⟨j, u, rfl, rfl⟩ | ⟨y, u, rfl, rfl⟩
      · rw [key_rl] at h; exact SeqAt.EqAt.str_int x t j u _ _ _ _ h
      · rw [key_rr] at h; exact wpAny_eqBool_str h
  «strs» := fun k x t v h => by
    rcases keyIs_shape h with ⟨i, u, rfl, e⟩ | ⟨y, u, rfl, e⟩
    · exact nomatch e
    · injection e with e1 _
      subst e1
      cases v <;> rfl

end L2

namespace L2
open PySem PySem.Spec PyProof.Rows

/-- a value, without the heap -/
inductive V where
  | non | bl (b : Bool) | int (i : Int) | str (x : Str) | byt (b : Array UInt8) | flt (b : UInt64) | ref (a : Addr) | ty (n : String)
  deriving DecidableEq

def RelV : V → Value → Prop
  | .non, u => u = Value.none
  | .bl b, u => u = Value.bool b
  | .int i, u => ∃ t, u = Value.int i t
  | .str x, u => ∃ t, u = Value.str x t
  | .byt b, u => ∃ t, u = Value.bytes b t
  | .flt b, u => ∃ t, u = Value.float b t
  | .ref a, u => u = Value.ref a
  | .ty n, u => u = Value.type n

abbrev Vals : List V → List Value → Prop := Paired RelV
theorem Vals.length {xs : List V} {us : List Value} (r : Vals xs us) : xs.length = us.length := Paired.length r
theorem Vals.get : ∀ {xs : List V} {us : List Value} {i : Nat} {x : V}, Vals xs us → xs[i]? = some x → ∃ u, us[i]? = some u ∧ RelV x u
  | _, _, _, _, .nil, e => by simp at e
  | _, _, 0, _, .cons r _, e => by simp at e; subst e; exact ⟨_, rfl, r⟩
  | _, _, i + 1, x, .cons _ t, e => by
    obtain ⟨u, h1, h2⟩ := Vals.get (i := i) (x := x) t (by simpa using e)
    exact ⟨u, by simpa using h1, h2⟩
theorem Vals.append : ∀ {xs ys : List V} {us ws : List Value}, Vals xs us → Vals ys ws → Vals (xs ++ ys) (us ++ ws)
  | _, _, _, _, .nil, s => s
  | _, _, _, _, .cons r t, s => .cons r (Vals.append t s)
theorem Vals.take : ∀ {xs : List V} {us : List Value} (n : Nat), Vals xs us → Vals (xs.take n) (us.take n)
  | _, _, 0, _ => .nil
  | _, _, _ + 1, .nil => .nil
  | _, _, n + 1, .cons r t => .cons r (Vals.take n t)
theorem Vals.drop : ∀ {xs : List V} {us : List Value} (n : Nat), Vals xs us → Vals (xs.drop n) (us.drop n)
  | _, _, 0, r => r
  | _, _, _ + 1, .nil => .nil
  | _, _, n + 1, .cons _ t => Vals.drop n t
def RelO : Option V → Option Value → Prop
  | some v, some u => RelV v u
  | none, none => True
  | _, _ => False
def KV {κ : Type} : List (κ × V) → List (κ × Value) → Prop := Paired fun (p : κ × V) (q : κ × Value) => p.1 = q.1 ∧ RelV p.2 q.2

/-- a key of a dict (00_mix): an int or a text -/
def kV : Key → V
  | .inl i => .int i
  | .inr x => .str x

/-- what stands at a tracked address -/
inductive HO where
  /-- a list -/
  | lst (xs : List V)
  /-- a tuple (never changes) -/
  | tup (xs : List V)
  /-- a dict whose keys are ints and texts; one whose keys are tuples of ints and texts (the empty one is both) -/
  | dK (kvs : List (Key × V)) | dT (kvs : List (List Key × V))
  /-- a set of ints: its members, its size -/
  | set (S : Int → Bool) (n : Nat)
  /-- an instance of the class at C, its dict at dx, its attributes -/
  | ins (C dx : Addr) (fs : List (Str × V))
  /-- the dict of the instance at x -/
  | own (x : Addr)
  /-- the dict of an exception -/
  | xd (fs : List (Str × V))
  /-- a bound method, f of x -/
  | met (f x : Addr)
  /-- a range object lo, lo + 1, .. below hi -/
  | rng (lo hi : Int)
  /-- a thing that is known to the object (the script; a dict while a loop walks it): read, never written while it is so -/
  | frz (o : Obj) (u : HO)
  /-- a code object's table -/
  | tbl (ps : Array Value)
  /-- any other thing, by what is true of its one object (a def of one's own: SetO a S n := HO.ext fun h => ..) -/
  | ext (φ : Heap → Prop)

abbrev Hp := Addr → Option HO
def upd (H : Hp) (a : Addr) (o : HO) : Hp := fun b => if b = a then some o else H b
theorem upd_same {H : Hp} {a : Addr} {o : HO} : upd H a o a = some o := by unfold upd; rw [if_pos rfl]
theorem upd_ne {H : Hp} {a b : Addr} {o : HO} (h : b ≠ a) : upd H a o b = H b := by unfold upd; rw [if_neg h]
/-- two objects of different content stand apart -/
theorem ne_of {H : Hp} {a b : Addr} {o u : HO} (h : H a = some o) (h' : H b = some u) (d : o ≠ u) : a ≠ b := by
  intro e; subst e; rw [h] at h'; exact d (Option.some.inj h')
theorem ne_of_none {H : Hp} {a b : Addr} {o : HO} (h : H a = some o) (h' : H b = none) : a ≠ b := by
  intro e; subst e; rw [h] at h'; cases h'

section
variable (P : Program) (w : World)
def ObjOk (H : Hp) (h : Heap) (a : Addr) : HO → Prop
  | .lst xs => xs.length ≤ sizeLine ∧ ∃ (its : List Value) (n : Nat), Vals xs its ∧ h.get? a = some { cls := .type "list", data := .seq its.toArray n }
  | .tup xs => xs.length ≤ sizeLine ∧ ∃ its : List Value, Vals xs its ∧ IsTup h a its.toArray
  | .dK kvs => kvs.length ≤ sizeLine ∧ (a == sysModules) = false ∧ ∃ vs, KV kvs vs ∧ h.DictOf (mixKind P w) a vs
  | .dT kvs => kvs.length ≤ sizeLine ∧ (a == sysModules) = false ∧ ∃ xs : List (List Key × Addr × Value),
      Paired (fun (p : List Key × V) (q : List Key × Addr × Value) => p.1 = q.1 ∧ H q.2.1 = some (.tup (p.1.map kV)) ∧ RelV p.2 q.2.2) kvs xs ∧
      ∃ o es ep, h.get? a = some o ∧ o.ExactDict ∧ o.data = .dict es ep ∧ es.toList = xs.map (entryOfKey (tupleKind (mixKind P w))) ∧ (xs.map (·.1)).Nodup
  | .set S n => h.SetOf (intKind P w) a S n
  | .ins C dx fs => H dx = some (.own a) ∧ fs.length ≤ 1000 ∧ dx ≠ a ∧ h.get? a = some (PySem.W.instObj C dx) ∧
      ∃ mA, h.Ns1 dx mA ∧ (∀ f, RelO (fs.lookup f) (mA f)) ∧ PySem.Within mA (fs.map (·.1))
  | .own _ => ∃ o, h.get? a = some o
  | .xd fs => ∃ mA, h.Ns1 a mA ∧ ∀ f, RelO (fs.lookup f) (mA f)
  | .rng lo hi => ∃ t u v, h.get? a = some { cls := .type "range", data := .fields #[.int lo t, .int hi u, .int 1 v] }
  | .frz o u => h.get? a = some o ∧ ObjOk H h a u
  | .tbl ps => h.get? a = some { cls := .none, data := .fields ps }
  | .met f x => h.get? a = some (PySem.W.methodObj (.ref f) (.ref x))
  | .ext φ => φ h ∧ (∃ o, h.get? a = some o) ∧ ∀ h1 h2 : Heap, φ h1 → (∀ o, h1.get? a = some o → h2.get? a = some o) → φ h2
/-- the abstract heap is held -/
def HOk (H : Hp) (h : Heap) : Prop := ∀ a o, H a = some o → ObjOk P w H h a o
end

section
variable {P : Program} {w : World} {H H' : Hp} {h h' : Heap} {a : Addr} {o : HO}
theorem ObjOk.lt (x : ObjOk P w H h a o) : a < h.objs.size := by
  cases o with
  | lst xs => obtain ⟨_, _, _, _, e⟩ := x; exact Heap.lt_size e
  | tup xs => obtain ⟨_, _, _, p⟩ := x; exact p.lt
  | dK kvs => obtain ⟨_, _, _, _, o, _, _, e, _⟩ := x; exact Heap.lt_size e
  | dT kvs => obtain ⟨_, _, _, _, o, _, _, e, _⟩ := x; exact Heap.lt_size e
  | set S n => obtain ⟨o, _, _, _, e, _⟩ := x; exact Heap.lt_size e
  | ins C dx fs => obtain ⟨_, _, _, e, _⟩ := x; exact Heap.lt_size e
  | own y => obtain ⟨_, e⟩ := x; exact Heap.lt_size e
  | xd fs => obtain ⟨_, ⟨_, _, _, e, _⟩, _⟩ := x; exact Heap.lt_size e
  | rng lo hi => obtain ⟨_, _, _, e⟩ := x; exact Heap.lt_size e
  | frz ob u => obtain ⟨e, _⟩ := x; exact Heap.lt_size e
  | tbl ps => exact Heap.lt_size (show h.get? a = some _ from x)
  | met f y => exact Heap.lt_size (show h.get? a = some _ from x)
  | ext φ => obtain ⟨_, ⟨_, e⟩, _⟩ := x; exact Heap.lt_size e
theorem Paired.mapP {α β : Type} {F G : α → β → Prop} : ∀ {l₁ : List α} {l₂ : List β}, Paired F l₁ l₂ → (∀ a b, F a b → G a b) → Paired G l₁ l₂
  | _, _, .nil, _ => .nil
  | _, _, .cons r t, f => .cons (f _ _ r) (Paired.mapP t f)
/-- what an object's description leans on: its own object, its own dict, the tuples -/
theorem ObjOk.stay (x : ObjOk P w H h a o) (k : ∀ b u, (b = a ∨ H b = some (.own a)) → h.get? b = some u → h'.get? b = some u)
    (ho : ∀ b, H b = some (.own a) → H' b = some (.own a)) (ht : ∀ b xs, H b = some (.tup xs) → H' b = some (.tup xs)) : ObjOk P w H' h' a o := by
  induction o with
  | lst xs => obtain ⟨z, its, n, r, e⟩ := x; exact ⟨z, its, n, r, k _ _ (.inl rfl) e⟩
  | tup xs => obtain ⟨z, its, r, ob, e, c⟩ := x; exact ⟨z, its, r, ob, k _ _ (.inl rfl) e, c⟩
  | dK kvs => obtain ⟨z, y, vs, r, ob, es, ep, e, c⟩ := x; exact ⟨z, y, vs, r, ob, es, ep, k _ _ (.inl rfl) e, c⟩
  | dT kvs =>
    obtain ⟨z, y, xs, r, ob, es, ep, e, c⟩ := x
    exact ⟨z, y, xs, Paired.mapP r fun p q z => ⟨z.1, ht _ _ z.2.1, z.2.2⟩, ob, es, ep, k _ _ (.inl rfl) e, c⟩
  | set S n => obtain ⟨ob, es, ep, t, e, c⟩ := x; exact ⟨ob, es, ep, t, k _ _ (.inl rfl) e, c⟩
  | ins C dx fs =>
    obtain ⟨d, z, ne, e, mA, ⟨od, es, ep, e2, c⟩, r⟩ := x
    exact ⟨ho _ d, z, ne, k _ _ (.inl rfl) e, mA, ⟨od, es, ep, k _ _ (.inr d) e2, c⟩, r⟩
  | own y => obtain ⟨ob, e⟩ := x; exact ⟨ob, k _ _ (.inl rfl) e⟩
  | xd fs => obtain ⟨mA, ⟨od, es, ep, e, c⟩, r⟩ := x; exact ⟨mA, ⟨od, es, ep, k _ _ (.inl rfl) e, c⟩, r⟩
  | rng lo hi => obtain ⟨t, u, v, e⟩ := x; exact ⟨t, u, v, k _ _ (.inl rfl) e⟩
  | frz ob u ih => obtain ⟨e, q⟩ := x; exact ⟨k _ _ (.inl rfl) e, ih q⟩
  | tbl ps =>
    have e : h.get? a = some { cls := .none, data := .fields ps } := x
    show h'.get? a = some { cls := .none, data := .fields ps }
    exact k a _ (.inl rfl) e
  | met f y =>
    have e : h.get? a = some (PySem.W.methodObj (.ref f) (.ref y)) := x
    show h'.get? a = some (PySem.W.methodObj (.ref f) (.ref y))
    exact k a _ (.inl rfl) e
  | ext φ => obtain ⟨p, ⟨o, e⟩, st⟩ := x; exact ⟨st _ _ p fun o q => k _ _ (.inl rfl) q, ⟨o, k _ _ (.inl rfl) e⟩, st⟩
theorem HOk.lt (x : HOk P w H h) (e : H a = some o) : a < h.objs.size := (x a o e).lt
theorem HOk.fresh (x : HOk P w H h) (e : h.objs.size ≤ a) : H a = none := by
  cases q : H a with
  | none => rfl
  | some u => exact absurd (Nat.lt_of_lt_of_le (x.lt q) e) (Nat.lt_irrefl _)
/-- every object of the heap is kept -/
theorem HOk.kept (x : HOk P w H h) (k : ∀ b u, h.get? b = some u → h'.get? b = some u) : HOk P w H h' := fun a o e =>
  (x a o e).stay (fun b u _ q => k b u q) (fun _ q => q) fun _ _ q => q
/-- a new object is laid and tracked -/
theorem HOk.laid (x : HOk P w H h) (k : ∀ b u, h.get? b = some u → h'.get? b = some u) (hp : h.objs.size ≤ a) (new : ObjOk P w (upd H a o) h' a o) : HOk P w (upd H a o) h' := fun b u e => by
  have hn := x.fresh hp
  by_cases hb : b = a
  · subst hb; rw [upd_same] at e; cases e; exact new
  · rw [upd_ne hb] at e
    exact (x b u e).stay (fun c v _ q => k c v q) (fun c q => by rw [upd_ne (ne_of_none q hn)]; exact q) fun c xs q => by rw [upd_ne (ne_of_none q hn)]; exact q
end

/-- what may be read as u: it is u, or a known u -/
def Rd (H : Hp) (a : Addr) (u : HO) : Prop := H a = some u ∨ ∃ o, H a = some (.frz o u)
theorem Rd.ok {P : Program} {w : World} {H : Hp} {h : Heap} {a : Addr} {u : HO} (r : Rd H a u) (x : HOk P w H h) : ObjOk P w H h a u := by
  rcases r with r | ⟨o, r⟩
  · exact x a u r
  · obtain ⟨_, q⟩ := x a _ r
    exact q
/-- what may be written -/
def Mut : Option HO → Prop
  | some (.lst _) => True
  | some (.dK _) => True
  | some (.dT _) => True
  | some (.set _ _) => True
  | some (.ins _ _ _) => True
  | some (.ext _) => True
  | _ => False
section
variable {P : Program} {w : World} {H : Hp} {h h' : Heap} {x e : Addr} {o' : HO}
/-- the object at e is changed: x itself, or the dict of the instance x -/
theorem HOk.write (ok : HOk P w H h) (mu : Mut (H x)) (he : e = x ∨ H e = some (.own x)) (k : ∀ b u, b ≠ e → h.get? b = some u → h'.get? b = some u) (heo : ∃ u, h'.get? e = some u)
    (new : ObjOk P w (upd H x o') h' x o') : HOk P w (upd H x o') h' := fun b u q => by
  have nown : ∀ c y, H c = some (.own y) → c ≠ x := fun c y r z => by subst z; rw [r] at mu; exact mu
  have ntup : ∀ c xs, H c = some (.tup xs) → c ≠ x := fun c xs r z => by subst z; rw [r] at mu; exact mu
  by_cases hb : b = x
  · subst hb; rw [upd_same] at q; cases q; exact new
  · rw [upd_ne hb] at q
    by_cases hbe : b = e
    · have q' : H b = some (.own x) := by
        rcases he with z | z
        · exact absurd (hbe.trans z) hb
        · rw [hbe]; exact z
      rw [q] at q'; cases q'
      obtain ⟨v, hv⟩ := heo
      exact ⟨v, by rw [hbe]; exact hv⟩
    · refine (ok b u q).stay (fun c v hc r => k c v ?_ r) (fun c r => by rw [upd_ne (nown c b r)]; exact r) fun c xs r => by rw [upd_ne (ntup c xs r)]; exact r
      rcases hc with rfl | hc
      · exact hbe
      · rintro rfl
        rcases he with z | z
        · exact nown c b hc z
        · rw [hc] at z; cases z; exact hb rfl
end

/-! ### kept unless tracked; of the frames at fs (the callers') the slots may change (an exception that passes writes there); of the records at ex (iterators) nothing is said -/
structure Un (fs ex : List Addr) (H H' : Hp) (h h' : Heap) : Prop where
  keep : ∀ b o, h.get? b = some o → H b = none → b ∉ fs → b ∉ ex → h'.get? b = some o
  slot : ∀ b o, h.get? b = some o → H b = none → b ∈ fs → b ∉ ex → ∃ sl, h'.get? b = some { o with slots := sl }
  free : ∀ b o, h.get? b = some o → H b = none → b ∉ ex → H' b = none
  there : ∀ b o, h.get? b = some o → b ∉ ex → ∃ o', h'.get? b = some o'
  tups : ∀ b xs, H b = some (.tup xs) → H' b = some (.tup xs)
  frzs : ∀ b o u, H b = some (.frz o u) → H' b = some (.frz o u)
  tbls : ∀ b ps, H b = some (.tbl ps) → ∃ more, H' b = some (.tbl (ps ++ more))
section
variable {fs fs' ex ex' : List Addr} {H H1 H2 : Hp} {h h1 h2 h' : Heap} {a x e : Addr} {o : HO}
theorem Un.any (u : Un fs ex H H1 h h1) {b : Addr} {ob : Obj} (q : h.get? b = some ob) (n : H b = none) (hx : b ∉ ex) : ∃ sl, h1.get? b = some { ob with slots := sl } := by
  by_cases hb : b ∈ fs
  · exact u.slot b ob q n hb hx
  · exact ⟨ob.slots, u.keep b ob q n hb hx⟩
theorem Un.kept (k : ∀ b u, h.get? b = some u → h'.get? b = some u) : Un fs ex H H h h' :=
  ⟨fun b ob q _ _ _ => k b ob q, fun b ob q _ _ _ => ⟨ob.slots, k b ob q⟩, fun _ _ _ n _ => n, fun b ob q _ => ⟨ob, k b ob q⟩, fun _ _ q => q, fun _ _ _ q => q, fun _ ps q => ⟨#[], by rw [q]; simp⟩⟩
theorem Un.refl : Un fs ex H H h h := Un.kept fun _ _ q => q
theorem Un.laid (k : ∀ b u, h.get? b = some u → h'.get? b = some u) (hp : h.objs.size ≤ a) (hn : H a = none) : Un fs ex H (upd H a o) h h' where
  keep := fun b u q _ _ _ => k b u q
  slot := fun b u q _ _ _ => ⟨u.slots, k b u q⟩
  free := fun b u q n _ => by rw [upd_ne (Nat.ne_of_lt (Nat.lt_of_lt_of_le (Heap.lt_size q) hp))]; exact n
  there := fun b u q _ => ⟨u, k b u q⟩
  tups := fun b xs q => by rw [upd_ne (ne_of_none q hn)]; exact q
  frzs := fun b u xs q => by rw [upd_ne (ne_of_none q hn)]; exact q
  tbls := fun b ps q => ⟨#[], by rw [upd_ne (ne_of_none q hn), q]; simp⟩
theorem Un.write (mu : Mut (H x)) (he : e = x ∨ H e = some (.own x)) (k : ∀ b u, b ≠ e → h.get? b = some u → h'.get? b = some u) (heo : ∃ u, h'.get? e = some u) : Un fs ex H (upd H x o) h h' := by
  have hx : ∀ b, H b = none → b ≠ x := fun b n z => by subst z; rw [n] at mu; exact mu
  have hb : ∀ b, H b = none → b ≠ e := fun b n z => by
    subst z
    rcases he with r | r
    · exact hx b n r
    · rw [n] at r; cases r
  have hm : ∀ b u, H b = some u → ¬ Mut (some u) → b ≠ x := fun b u q nm z => by subst z; rw [q] at mu; exact nm mu
  refine ⟨fun b u q n _ _ => k b u (hb b n) q, fun b u q n _ _ => ⟨u.slots, k b u (hb b n) q⟩, fun b u q n _ => by rw [upd_ne (hx b n)]; exact n, fun b u q _ => ?_,
    fun b xs q => by rw [upd_ne (hm b _ q fun z => z)]; exact q, fun b u xs q => by rw [upd_ne (hm b _ q fun z => z)]; exact q, fun b ps q => ⟨#[], by rw [upd_ne (hm b _ q fun z => z), q]; simp⟩⟩
  by_cases hbe : b = e
  · subst hbe; exact heo
  · exact ⟨u, k b u hbe q⟩
end

/-! ### the heap without what is tracked -/
def trk (h : Heap) (H : Hp) : List Addr := (List.range h.objs.size).filter fun a => (H a).isSome
def hidT (h : Heap) (H : Hp) : Heap := PySem.W.hideAll h (trk h H)
theorem hidT_size (h : Heap) (H : Hp) : (hidT h H).objs.size = h.objs.size := PySem.W.hideAll_size _ _
theorem hidT_get {h : Heap} {H : Hp} {b : Addr} {o : Obj} (e : h.get? b = some o) (n : H b = none) : (hidT h H).get? b = some o :=
  PySem.W.hideAll_get _ e fun hm => by
    have q : (H b).isSome = true := (List.mem_filter.mp hm).2
    rw [n] at q; simp at q
theorem of_hidT {h : Heap} {H : Hp} {b : Addr} {o : Obj} (e : (hidT h H).get? b = some o) : h.get? b = some o ∧ H b = none := by
  have e' : h.get? b = some o := PySem.W.of_hideAll (trk h H) e
  refine ⟨e', ?_⟩
  cases q : H b with
  | none => rfl
  | some x =>
    have hm : b ∈ trk h H := List.mem_filter.mpr ⟨List.mem_range.mpr (Heap.lt_size e'), by simp [q]⟩
    have z : (hidT h H).get? b = none := PySem.W.hideAll_none (trk h H) hm
    rw [z] at e; cases e

/-! ### OpenK's ledger, filled with every new object but one -/
end L2

namespace L2
open PySem PySem.Spec PyProof.Rows

/-- the module's facts, over the base: the heap at the law's entry without what is tracked there -/
structure Mod (K : PySem.W.Frag) (mg : Str → Option Value) (base : Heap) : Prop where
  kin : K.In base
  glob : base.Ns mainGlobals mg
  blt : ∃ mb, base.Ns builtinsNs mb ∧ ∀ x : Str, x ≠ "__name__" → mb x = bootBuiltins x
  nolimit : base.NoLimit

/-- the context: a def's body (or a comprehension's block) running. base: fixed through the whole law; s₀, H₀: the entry; outer: the frames whose slots others may change (a def's callers); stack: all frames that run;
   ex: iterators that were made ahead of the entry and are walked here (a comprehension's); fn: the names whose cells were made at the entry (a def: all; a comprehension's block: its own); calm: not within an except suite; pn: pins that every state bears; xe: what is wanted of an exception that leaves the code -/
structure Cx where
  prog : Program
  w : World
  K : PySem.W.Frag
  mg : Str → Option Value
  base : Heap
  A : Around
  N : List Str
  s_0 : Shared
  H_0 : Hp
  env : Env
  outer : List Env
  stack : List Env
  ex : List Addr
  fn : Str → Bool
  calm : Bool
  pn : List (Addr × Obj)
  xe : Value → Shared → Prop
/-- the callers' frames -/
def frs (l : List Env) : List Addr := l.filterMap (·.frame)
abbrev Cx.fs (X : Cx) : List Addr := frs X.outer

def Vis (sc : Scope) (x : Str) : Prop := sc.names.lookup x = some .local ∨ sc.names.lookup x = some .cell ∨ sc.names.lookup x = some .free
def Loc (sc : Scope) (x : Str) : Prop := sc.names.lookup x = some .local ∨ sc.names.lookup x = some .cell
def Look (env : Env) (h : Heap) (m : Str → Option Value) (x : Str) (u : Value) : Prop :=
  (env.kindOf x = some .local ∧ m x = some u) ∨ ((env.kindOf x = some .cell ∨ env.kindOf x = some .free) ∧ ∃ c, env.cells.lookup x = some c ∧ h.IsCell c (some u))

structure Cx.Ok (X : Cx) : Prop where
  mod : Mod X.K X.mg X.base
  kind : X.env.scope.kind = .function
  glob : X.env.globals = mainGlobals
  blt : X.env.builtins = builtinsNs
  above : X.s_0.heap.objs.size ≤ X.env.locals
  inj : ∀ x y c, X.env.cells.lookup x = some c → X.env.cells.lookup y = some c → x = y
  has : ∀ x, (X.env.kindOf x = some .cell ∨ X.env.kindOf x = some .free) → ∃ c, X.env.cells.lookup x = some c
  cab : ∀ x c, X.fn x = true → X.env.cells.lookup x = some c → X.s_0.heap.objs.size ≤ c
  hd : X.calm = true → X.A.handled = none
  frames : X.A.frames = some X.stack
  stk : X.stack = X.outer ∨ (X.stack = X.env :: X.outer ∧ X.env.frame = some X.env.locals)
  exf : ∀ b ∈ X.ex, b ≠ X.env.locals ∧ ∀ x c, X.env.cells.lookup x = some c → c ≠ b
  bs : ∀ b o, X.base.get? b = some o → X.s_0.heap.get? b = some o ∧ X.H_0 b = none
  bsz : X.base.objs.size ≤ X.s_0.heap.objs.size
  noex : ∀ b o, X.base.get? b = some o → b ∉ X.ex
  exfs : ∀ b ∈ X.ex, b ∉ X.fs
  funs : X.s_0.heap.FunFrames X.base X.outer
  frf : ∀ b ∈ X.fs, X.H_0 b = none

structure Inv (X : Cx) (pins : List (Addr × Obj)) (σ : List (Option V)) (H : Hp) (s : Shared) : Prop where
  ok : X.Ok
  os : s.os = X.s_0.os
  bare : AllBare s.gens
  base : Un X.fs X.ex X.H_0 H X.s_0.heap s.heap
  loc : ∃ m, s.heap.Ns X.env.locals m ∧ ∀ (i : Nat) (x : Str) (v : V), X.N[i]? = some x → σ[i]? = some (some v) → Vis X.env.scope x → ∃ u, RelV v u ∧ Look X.env s.heap m x u
  cell : ∀ x c, X.env.cells.lookup x = some c → ∃ v, s.heap.IsCell c v
  free : H X.env.locals = none
  freeC : ∀ x c, X.env.cells.lookup x = some c → H c = none
  pin : ∀ p ∈ X.pn ++ pins, s.heap.get? p.1 = some p.2 ∧ H p.1 = none ∧ p.1 ≠ X.env.locals ∧ p.1 ∉ X.fs ∧ ∀ v, p.2.data ≠ .cell v
  hok : HOk X.prog X.w H s.heap
  len : σ.length = X.N.length

section
variable {X : Cx} {pins : List (Addr × Obj)} {σ : List (Option V)} {H H' : Hp} {s : Shared} {h' : Heap}

theorem Cx.Ok.nofr (ok : X.Ok) {b : Addr} {o : Obj} (e : X.base.get? b = some o) : b ∉ X.fs := fun hb => by
  have := (ok.funs.mem hb).1
  rw [e] at this; cases this
theorem Inv.bs (I : Inv X pins σ H s) : ∀ b o, X.base.get? b = some o → s.heap.get? b = some o ∧ H b = none := fun b o e =>
  ⟨I.base.keep b o (I.ok.bs b o e).1 (I.ok.bs b o e).2 (I.ok.nofr e) (I.ok.noex b o e), I.base.free b o (I.ok.bs b o e).1 (I.ok.bs b o e).2 (I.ok.noex b o e)⟩
theorem Inv.bk (I : Inv X pins σ H s) : ∀ b o, X.base.get? b = some o → s.heap.get? b = some o := fun b o e => (I.bs b o e).1
theorem Inv.mod (I : Inv X pins σ H s) : Mod X.K X.mg X.base := I.ok.mod
theorem Inv.kIn (I : Inv X pins σ H s) : X.K.In s.heap := I.ok.mod.kin.keeps I.bk
theorem Inv.nolimit (I : Inv X pins σ H s) : s.heap.NoLimit := I.ok.mod.nolimit.keeps I.bk
theorem Inv.lt (I : Inv X pins σ H s) : X.env.locals < s.heap.objs.size := let ⟨_, hn, _⟩ := I.loc; hn.lt
theorem Inv.sz (I : Inv X pins σ H s) : X.s_0.heap.objs.size ≤ s.heap.objs.size := Nat.le_trans I.ok.above (Nat.le_of_lt I.lt)
theorem Inv.nofs (I : Inv X pins σ H s) {a : Addr} (h : s.heap.objs.size ≤ a) : a ∉ X.fs := fun hb => by
  obtain ⟨_, o, ho, _⟩ := I.ok.funs.mem hb
  exact absurd (Nat.lt_of_lt_of_le (Heap.lt_size ho) (Nat.le_trans I.sz h)) (Nat.lt_irrefl _)
theorem Inv.cne (I : Inv X pins σ H s) : ∀ x c, X.env.cells.lookup x = some c → c ≠ X.env.locals := fun x c e z => by
  obtain ⟨v, o, ho, hd⟩ := I.cell x c e
  obtain ⟨m, ⟨o', es, ep, ho', hd', _⟩, _⟩ := I.loc
  rw [z, ho'] at ho; cases ho; rw [hd'] at hd; cases hd
theorem Inv.funs (I : Inv X pins σ H s) : s.heap.FunFrames X.base X.outer := by
  have all : ∀ (l : List Env), (∀ b ∈ frs l, b ∈ X.fs) → X.s_0.heap.FunFrames X.base l → s.heap.FunFrames X.base l := by
    intro l
    induction l with
    | nil => intro _ _; trivial
    | cons env r ih =>
      intro hs hl
      obtain ⟨hk, ⟨L, o, hf, hn, ho, hd⟩, hr⟩ := hl
      have hL : L ∈ X.fs := hs L (by unfold frs; rw [List.filterMap_cons, hf]; exact List.mem_cons_self)
      obtain ⟨sl, e⟩ := I.base.slot L o ho (I.ok.frf L hL) hL fun z => I.ok.exfs L z hL
      exact ⟨hk, ⟨L, _, hf, hn, e, hd⟩, ih (fun b hb => hs b (by unfold frs; rw [List.filterMap_cons, hf]; exact List.mem_cons_of_mem _ hb)) hr⟩
  exact all X.outer (fun _ hb => hb) I.ok.funs

/-- the frames that run, for a call -/
theorem Inv.stack (I : Inv X pins σ H s) : s.heap.FunFrames X.base X.stack := by
  rcases I.ok.stk with e | ⟨e, hf⟩
  · rw [e]; exact I.funs
  · rw [e]
    obtain ⟨m, hn, _⟩ := I.loc
    refine .cons (by rw [I.ok.kind]; decide) hf hn ?_ I.funs
    exact Heap.get?_none_of_le (Nat.le_trans I.ok.bsz I.ok.above)
theorem Inv.stkSub (I : Inv X pins σ H s) : ∀ b ∈ frs X.stack, b ∈ X.env.locals :: X.fs := fun b hb => by
  rcases I.ok.stk with e | ⟨e, hf⟩
  · rw [e] at hb; exact List.mem_cons_of_mem _ hb
  · rw [e] at hb
    unfold frs at hb
    rw [List.filterMap_cons, hf] at hb
    exact hb
theorem Inv.stkFree (I : Inv X pins σ H s) : ∀ b ∈ frs X.stack, H b = none := fun b hb => by
  rcases List.mem_cons.mp (I.stkSub b hb) with e | hb
  · rw [e]; exact I.free
  · obtain ⟨_, o, ho, _⟩ := I.ok.funs.mem hb
    exact I.base.free b o ho (I.ok.frf b hb) fun z => I.ok.exfs b z hb

/-- THE STEP: the untracked objects but the frame and the records at ch are kept (the callers' frames up to slots), the frame's map is kept, the new abstract heap is held -/
theorem Inv.step {g' : Array GenState} {t' : Nat} {d' : Drawn} {ch : List Addr} (I : Inv X pins σ H s)
    (hch : ∀ b ∈ ch, (b ∈ X.ex ∨ X.s_0.heap.objs.size ≤ b) ∧ b ≠ X.env.locals ∧ (∀ x c, X.env.cells.lookup x = some c → c ≠ b) ∧ ∀ p ∈ X.pn ++ pins, p.1 ≠ b)
    (keep : ∀ b o, b ≠ X.env.locals → b ∉ X.fs → b ∉ ch → s.heap.get? b = some o → H b = none → h'.get? b = some o)
    (slot : ∀ b o, b ≠ X.env.locals → b ∈ X.fs → b ∉ ch → s.heap.get? b = some o → H b = none → ∃ sl, h'.get? b = some { o with slots := sl }) (free : ∀ b o, b ∉ ch → s.heap.get? b = some o → H b = none → H' b = none)
    (there : ∀ b o, b ∉ ch → s.heap.get? b = some o → ∃ o', h'.get? b = some o')
    (tups : ∀ b xs, H b = some (.tup xs) → H' b = some (.tup xs)) (frzs : ∀ b o u, H b = some (.frz o u) → H' b = some (.frz o u)) (tbls : ∀ b ps, H b = some (.tbl ps) → ∃ more, H' b = some (.tbl (ps ++ more)))
    (ns : ∀ m, s.heap.Ns X.env.locals m → h'.Ns X.env.locals m) (hok : HOk X.prog X.w H' h') (hg : AllBare g') :
    Inv X pins σ H' { s with heap := h', gens := g', drawn := d', toks := t' } := by
  have neL : ∀ b o, X.s_0.heap.get? b = some o → b ≠ X.env.locals := fun b o e => Nat.ne_of_lt (Nat.lt_of_lt_of_le (Heap.lt_size e) I.ok.above)
  have neC : ∀ b o, X.s_0.heap.get? b = some o → b ∉ X.ex → b ∉ ch := fun b o e hx hb => by
    rcases (hch b hb).1 with z | z
    · exact hx z
    · exact absurd (Nat.lt_of_lt_of_le (Heap.lt_size e) z) (Nat.lt_irrefl _)
  have cellK : ∀ x c, X.env.cells.lookup x = some c → ∀ v, s.heap.IsCell c v → h'.IsCell c v := fun x c e v ⟨o, ho, hd⟩ => by
    have nch : c ∉ ch := fun z => (hch c z).2.2.1 x c e rfl
    by_cases hc : c ∈ X.fs
    · obtain ⟨sl, q⟩ := slot c o (I.cne x c e) hc nch ho (I.freeC x c e)
      exact ⟨_, q, hd⟩
    · exact ⟨o, keep c o (I.cne x c e) hc nch ho (I.freeC x c e), hd⟩
  refine ⟨I.ok, I.os, hg, ⟨fun b o e n hb hx => ?_, fun b o e n hb hx => ?_, fun b o e n hx => ?_, fun b o e hx => ?_, fun b xs e => tups b xs (I.base.tups b xs e), fun b o xs e => frzs b o xs (I.base.frzs b o xs e), fun b ps e => ?_⟩, ?_, fun x c e => ?_, ?_, fun x c e => ?_, fun p hp => ?_, hok, I.len⟩
  · exact keep b o (neL b o e) hb (neC b o e hx) (I.base.keep b o e n hb hx) (I.base.free b o e n hx)
  · obtain ⟨sl, e1⟩ := I.base.slot b o e n hb hx
    obtain ⟨sl', e2⟩ := slot b _ (neL b o e) hb (neC b o e hx) e1 (I.base.free b o e n hx)
    exact ⟨sl', e2⟩
  · obtain ⟨o', e1⟩ := I.base.there b o e hx
    exact free b o' (neC b o e hx) e1 (I.base.free b o e n hx)
  · obtain ⟨o', e1⟩ := I.base.there b o e hx
    exact there b o' (neC b o e hx) e1
  · obtain ⟨m1, e1⟩ := I.base.tbls b ps e
    obtain ⟨m2, e2⟩ := tbls b _ e1
    exact ⟨m1 ++ m2, by rw [e2, Array.append_assoc]⟩
  · obtain ⟨m, hn, hl⟩ := I.loc
    refine ⟨m, ns m hn, fun i x v e1 e2 e3 => ?_⟩
    obtain ⟨u, r, l⟩ := hl i x v e1 e2 e3
    refine ⟨u, r, ?_⟩
    rcases l with l | ⟨k, c, e, z⟩
    · exact .inl l
    · exact .inr ⟨k, c, e, cellK x c e _ z⟩
  · obtain ⟨v, z⟩ := I.cell x c e
    exact ⟨v, cellK x c e v z⟩
  · obtain ⟨m, ⟨o, _, _, ho, _⟩, _⟩ := I.loc
    exact free _ o (fun z => (hch _ z).2.1 rfl) ho I.free
  · obtain ⟨v, o, ho, hd⟩ := I.cell x c e
    exact free c o (fun z => (hch c z).2.2.1 x c e rfl) ho (I.freeC x c e)
  · obtain ⟨e, n, ne, nf, d⟩ := I.pin p hp
    have nch : p.1 ∉ ch := fun z => (hch p.1 z).2.2.2 p hp rfl
    exact ⟨keep p.1 p.2 ne nf nch e n, free p.1 p.2 nch e n, ne, nf, d⟩
/-- .. where the frame's own object is kept too -/
theorem Inv.un {t' : Nat} (I : Inv X pins σ H s) (u : Un X.fs [] H H' s.heap h') (hok : HOk X.prog X.w H' h') : Inv X pins σ H' { s with heap := h', toks := t' } := by
  obtain ⟨m, ⟨o, es, ep, ho, r⟩, _⟩ := id I.loc
  obtain ⟨sl, hL⟩ := u.any ho I.free (by simp)
  exact I.step (g' := s.gens) (d' := s.drawn) (ch := []) (fun _ z => nomatch z) (fun b o _ hb _ e n => u.keep b o e n hb (by simp)) (fun b o _ hb _ e n => u.slot b o e n hb (by simp)) (fun b o _ e n => u.free b o e n (by simp)) (fun b o _ e => u.there b o e (by simp)) u.tups u.frzs u.tbls (fun m' hm => by
    obtain ⟨o', es', ep', ho', r'⟩ := hm
    rw [ho] at ho'; cases ho'
    exact ⟨_, es', ep', hL, r'⟩) hok I.bare
/-- behind a call (or a comprehension's block): the slots of this frame may have changed too, the records at ch may have turned -/
theorem Inv.call {g' : Array GenState} {t' : Nat} {d' : Drawn} {ch : List Addr} (I : Inv X pins σ H s) (u : Un (frs X.stack) ch H H' s.heap h') (hok : HOk X.prog X.w H' h') (hg : AllBare g')
    (hch : ∀ b ∈ ch, (b ∈ X.ex ∨ X.s_0.heap.objs.size ≤ b) ∧ b ≠ X.env.locals ∧ (∀ x c, X.env.cells.lookup x = some c → c ≠ b) ∧ ∀ p ∈ X.pn ++ pins, p.1 ≠ b) :
    Inv X pins σ H' { s with heap := h', gens := g', drawn := d', toks := t' } := by
  obtain ⟨m, ⟨o, es, ep, ho, r⟩, _⟩ := id I.loc
  obtain ⟨sl, hL⟩ := u.any ho I.free fun z => (hch _ z).2.1 rfl
  exact I.step (ch := ch) hch (fun b o hL hb hc e n => u.keep b o e n (fun z => (List.mem_cons.mp (I.stkSub b z)).elim hL hb) hc) (fun b o _ _ hc e n => u.any e n hc) (fun b o hc e n => u.free b o e n hc) (fun b o hc e => u.there b o e hc) u.tups u.frzs u.tbls (fun m' hm => by
    obtain ⟨o', es', ep', ho', r'⟩ := hm
    rw [ho] at ho'; cases ho'
    exact ⟨_, es', ep', hL, r'⟩) hok hg
/-- an untracked record of ours (an iterator) has turned -/
theorem Inv.turned {t' : Nat} {it : Addr} (I : Inv X pins σ H s) (k : ∀ b o, b ≠ it → s.heap.get? b = some o → h'.get? b = some o) (hn : H it = none) (hL : it ≠ X.env.locals)
    (h1 : it ∈ X.ex ∨ X.s_0.heap.objs.size ≤ it) (h2 : ∀ x c, X.env.cells.lookup x = some c → c ≠ it) (h3 : ∀ p ∈ X.pn ++ pins, p.1 ≠ it) : Inv X pins σ H { s with heap := h', toks := t' } := by
  have nit : ∀ b u, H b = some u → b ≠ it := fun b u e z => by rw [z, hn] at e; cases e
  refine I.step (g' := s.gens) (d' := s.drawn) (ch := [it]) (fun b hb => ?_) (fun b o _ _ hc e _ => k b o (fun z => hc (by simp [z])) e) (fun b o _ _ hc e _ => ⟨o.slots, k b o (fun z => hc (by simp [z])) e⟩) (fun _ _ _ _ n => n)
    (fun b o hc e => ⟨o, k b o (fun z => hc (by simp [z])) e⟩) (fun _ _ e => e) (fun _ _ _ e => e) (fun b ps e => ⟨#[], by rw [e]; simp⟩) (fun m hm => ?_) (fun b u e => ?_) I.bare
  · have e : b = it := by simpa using hb
    subst e
    exact ⟨h1, hL, h2, h3⟩
  · obtain ⟨o, es, ep, ho, r⟩ := hm
    exact ⟨o, es, ep, k _ o (Ne.symm hL) ho, r⟩
  · refine (I.hok b u e).stay (fun c v hc q => k c v ?_ q) (fun _ q => q) fun _ _ q => q
    rcases hc with z | z
    · rw [z]; exact nit b u e
    · exact nit c _ z
theorem Inv.tok (I : Inv X pins σ H s) (t : Nat) : Inv X pins σ H { s with toks := t } := I.un (h' := s.heap) (t' := t) Un.refl I.hok
/-- all objects kept -/
theorem Inv.kept {t' : Nat} (I : Inv X pins σ H s) (k : ∀ b u, s.heap.get? b = some u → h'.get? b = some u) : Inv X pins σ H { s with heap := h', toks := t' } := I.un (Un.kept k) (I.hok.kept k)
/-- a new object laid and tracked -/
theorem Inv.laid {a : Addr} {o : HO} {t' : Nat} (I : Inv X pins σ H s) (k : ∀ b u, s.heap.get? b = some u → h'.get? b = some u) (hp : s.heap.objs.size ≤ a) (new : ObjOk X.prog X.w (upd H a o) h' a o) :
    Inv X pins σ (upd H a o) { s with heap := h', toks := t' } := I.un (Un.laid k hp (I.hok.fresh hp)) (I.hok.laid k hp new)
/-- an object written -/
theorem Inv.write {x e : Addr} {o : HO} {t' : Nat} (I : Inv X pins σ H s) (mu : Mut (H x)) (he : e = x ∨ H e = some (.own x)) (k : ∀ b u, b ≠ e → s.heap.get? b = some u → h'.get? b = some u) (heo : ∃ u, h'.get? e = some u)
    (new : ObjOk X.prog X.w (upd H x o) h' x o) : Inv X pins σ (upd H x o) { s with heap := h', toks := t' } := I.un (Un.write mu he k heo) (I.hok.write mu he k heo new)
/-- forgetting slots, pins -/
theorem Inv.weak {σ' : List (Option V)} (I : Inv X pins σ H s) (hl : σ'.length = σ.length) (w : ∀ (i : Nat) v, σ'[i]? = some (some v) → σ[i]? = some (some v)) : Inv X pins σ' H s :=
  ⟨I.ok, I.os, I.bare, I.base, let ⟨m, hn, hl'⟩ := I.loc; ⟨m, hn, fun i x v e1 e2 e3 => hl' i x v e1 (w i v e2) e3⟩, I.cell, I.free, I.freeC, I.pin, I.hok, hl.trans I.len⟩
theorem Inv.pins_of {pins' : List (Addr × Obj)} (I : Inv X pins σ H s) (h : ∀ p ∈ pins', s.heap.get? p.1 = some p.2 ∧ H p.1 = none ∧ p.1 ≠ X.env.locals ∧ p.1 ∉ X.fs ∧ ∀ v, p.2.data ≠ .cell v) : Inv X pins' σ H s :=
  ⟨I.ok, I.os, I.bare, I.base, I.loc, I.cell, I.free, I.freeC, fun p hp => (List.mem_append.mp hp).elim (fun z => I.pin p (List.mem_append_left _ z)) (h p), I.hok, I.len⟩

theorem nodup_ix {N : List Str} (hN : N.Nodup) {i j : Nat} {x : Str} (a : N[i]? = some x) (b : N[j]? = some x) : i = j := by
  obtain ⟨h1, e1⟩ := List.getElem?_eq_some_iff.mp a
  obtain ⟨h2, e2⟩ := List.getElem?_eq_some_iff.mp b
  exact (List.getElem_inj hN).mp (e1.trans e2.symm)

/-- a name is stored; what changed -/
theorem store_ok2 {M : Model} {A : Around} {E : Value → Shared → Prop} {i : Nat} {x : Str} {v : V} {u : Value} {Q : Unit → Shared → Prop} (I : Inv X pins σ H s) (hN : X.N.Nodup) (hi : X.N[i]? = some x) (hx : Loc X.env.scope x) (r : RelV v u)
    (h : ∀ s', Inv X pins (σ.set i (some v)) H s' → (∃ a, Heap.SameBut a s.heap s'.heap ∧ (a = X.env.locals ∨ X.env.cells.lookup x = some a)) → Q () s') (hf : X.fn x = true ∨ X.env.scope.names.lookup x = some .local := by first | exact .inl rfl | exact .inr rfl | assumption) : wpAny M A (storeName X.env x u) Q E s := by
  obtain ⟨m, hn, hl⟩ := id I.loc
  have hcls : (X.env.scope.kind == .class || (X.env.scope.kind == .module && X.env.locals != X.env.globals)) = false := by rw [I.ok.kind]; rfl
  have hiσ : i < σ.length := by rw [I.len]; exact (List.getElem?_eq_some_iff.mp hi).1
  have cne := I.cne
  have tracked : ∀ {a : Addr} {h' : Heap}, (∃ o, s.heap.get? a = some o ∧ H a = none) → Heap.SameBut a s.heap h' → HOk X.prog X.w H h' := fun {a h'} ha hs b ob e => by
    obtain ⟨_, _, hfree⟩ := ha
    refine (I.hok b ob e).stay (fun c w' hc q => (hs.2 c ?_).trans q) (fun _ q => q) fun _ _ q => q
    rintro rfl
    rcases hc with rfl | hc
    · rw [hfree] at e; cases e
    · rw [hfree] at hc; cases hc
  rcases hx with hk | hk
  · refine wpAny_storeName_local hk hn (fun h' hn' hs => ?_) hcls
    obtain ⟨oL, _, _, hoL, _⟩ := id hn
    refine h _ ⟨I.ok, I.os, I.bare, ⟨fun b o e n hb hx => ?_, fun b o e n hb hx => ?_, I.base.free, fun b o e hx => ?_, I.base.tups, I.base.frzs, I.base.tbls⟩, ⟨_, hn', fun j y v' e1 e2 e3 => ?_⟩, fun y c e => ?_, I.free, I.freeC, fun p hp => ?_, tracked ⟨oL, hoL, I.free⟩ hs, by simpa using I.len⟩ ⟨_, hs, .inl rfl⟩
    · exact (hs.2 b (Nat.ne_of_lt (Nat.lt_of_lt_of_le (Heap.lt_size e) I.ok.above))).trans (I.base.keep b o e n hb hx)
    · obtain ⟨sl, e1⟩ := I.base.slot b o e n hb hx
      exact ⟨sl, (hs.2 b (Nat.ne_of_lt (Nat.lt_of_lt_of_le (Heap.lt_size e) I.ok.above))).trans e1⟩
    · obtain ⟨o', e1⟩ := I.base.there b o e hx
      exact ⟨o', (hs.2 b (Nat.ne_of_lt (Nat.lt_of_lt_of_le (Heap.lt_size e) I.ok.above))).trans e1⟩
    · by_cases hj : j = i
      · subst hj
        rw [hi] at e1; cases e1
        rw [List.getElem?_set_self hiσ] at e2
        cases e2
        exact ⟨u, r, .inl ⟨hk, by simp⟩⟩
      · rw [List.getElem?_set_ne (Ne.symm hj)] at e2
        obtain ⟨u', r', q⟩ := hl j y v' e1 e2 e3
        refine ⟨u', r', ?_⟩
        rcases q with ⟨k, e⟩ | ⟨k, c, e, z⟩
        · refine .inl ⟨k, ?_⟩
          have : y ≠ x := fun e => hj (nodup_ix hN e1 (e ▸ hi))
          simp [this, e]
        · exact .inr ⟨k, c, e, z.sameBut hs (cne y c e)⟩
    · obtain ⟨w', z⟩ := I.cell y c e
      exact ⟨w', z.sameBut hs (cne y c e)⟩
    · obtain ⟨e, n, ne, nf, d⟩ := I.pin p hp
      exact ⟨(hs.2 p.1 ne).trans e, n, ne, nf, d⟩
  · have hfn : X.fn x = true := by
      rcases hf with z | z
      · exact z
      · rw [z] at hk; cases hk
    obtain ⟨c, hc⟩ := I.ok.has x (.inl hk)
    obtain ⟨w', z⟩ := I.cell x c hc
    refine wpAny_storeName_cell I.ok.kind hk hc z (fun h' hc' hs => ?_)
    obtain ⟨oc, hoc, hocd⟩ := id z
    refine h { s with heap := h' } ⟨I.ok, I.os, I.bare, ⟨fun b o e n hb hx => ?_, fun b o e n hb hx => ?_, I.base.free, fun b o e hx => ?_, I.base.tups, I.base.frzs, I.base.tbls⟩, ⟨m, hn.sameBut hs (Ne.symm (cne x c hc)), fun j y v' e1 e2 e3 => ?_⟩, fun y c' e => ?_, I.free, I.freeC, fun p hp => ?_, tracked ⟨oc, hoc, I.freeC x c hc⟩ hs, by simpa using I.len⟩ ⟨c, hs, .inr hc⟩
    · exact (hs.2 b (Nat.ne_of_lt (Nat.lt_of_lt_of_le (Heap.lt_size e) (I.ok.cab x c hfn hc)))).trans (I.base.keep b o e n hb hx)
    · obtain ⟨sl, e1⟩ := I.base.slot b o e n hb hx
      exact ⟨sl, (hs.2 b (Nat.ne_of_lt (Nat.lt_of_lt_of_le (Heap.lt_size e) (I.ok.cab x c hfn hc)))).trans e1⟩
    · obtain ⟨o', e1⟩ := I.base.there b o e hx
      exact ⟨o', (hs.2 b (Nat.ne_of_lt (Nat.lt_of_lt_of_le (Heap.lt_size e) (I.ok.cab x c hfn hc)))).trans e1⟩
    · by_cases hj : j = i
      · subst hj
        rw [hi] at e1; cases e1
        rw [List.getElem?_set_self hiσ] at e2
        cases e2
        exact ⟨u, r, .inr ⟨.inl hk, c, hc, hc'⟩⟩
      · rw [List.getElem?_set_ne (Ne.symm hj)] at e2
        obtain ⟨u', r', q⟩ := hl j y v' e1 e2 e3
        refine ⟨u', r', ?_⟩
        rcases q with q | ⟨k, c', e, z'⟩
        · exact .inl q
        · refine .inr ⟨k, c', e, z'.sameBut hs ?_⟩
          rintro rfl
          exact hj (nodup_ix hN e1 (I.ok.inj _ _ _ e hc ▸ hi))
    · by_cases hcc : c' = c
      · subst hcc; exact ⟨_, hc'⟩
      · obtain ⟨w2, z2⟩ := I.cell y c' e
        exact ⟨w2, z2.sameBut hs hcc⟩
    · obtain ⟨e, n, ne, nf, d⟩ := I.pin p hp
      refine ⟨(hs.2 p.1 ?_).trans e, n, ne, nf, d⟩
      intro q
      rw [q, hoc] at e
      have q' : oc = p.2 := Option.some.inj e
      exact d w' (by rw [← q']; exact hocd)
theorem store_ok {M : Model} {A : Around} {E : Value → Shared → Prop} {i : Nat} {x : Str} {v : V} {u : Value} {Q : Unit → Shared → Prop} (I : Inv X pins σ H s) (hN : X.N.Nodup) (hi : X.N[i]? = some x) (hx : Loc X.env.scope x) (r : RelV v u)
    (h : ∀ s', Inv X pins (σ.set i (some v)) H s' → Q () s') (hf : X.fn x = true ∨ X.env.scope.names.lookup x = some .local := by first | exact .inl rfl | exact .inr rfl | assumption) : wpAny M A (storeName X.env x u) Q E s :=
  store_ok2 I hN hi hx r (fun s' I' _ => h s' I') hf
/-- behind a call or a block, the state as it is -/
theorem Inv.call' {s' : Shared} {ch : List Addr} (I : Inv X pins σ H s) (ho : s'.os = s.os) (u : Un (frs X.stack) ch H H' s.heap s'.heap) (hok : HOk X.prog X.w H' s'.heap) (hg : AllBare s'.gens)
    (hch : ∀ b ∈ ch, (b ∈ X.ex ∨ X.s_0.heap.objs.size ≤ b) ∧ b ≠ X.env.locals ∧ (∀ x c, X.env.cells.lookup x = some c → c ≠ b) ∧ ∀ p ∈ X.pn ++ pins, p.1 ≠ b) : Inv X pins σ H' s' := by
  obtain ⟨h', g', d', t', o'⟩ := s'
  have e : o' = s.os := ho
  subst e
  exact I.call (g' := g') (t' := t') (d' := d') u hok hg hch
end

/-! ### the judgements -/
/-- an exception: its class, its own dict's address (where it has one), the abstract heap behind it -/
abbrev XK := Value → Option Addr → Hp → Prop
abbrev St := List (Option V)
abbrev VK := V → Hp → Prop
/-- an expression's reading; a test's; an argument list's -/
abbrev TE := St → Hp → VK → Prop
abbrev TT := St → Hp → (Bool → Hp → Prop) → Prop
abbrev TA := St → Hp → (List V → Hp → Prop) → Prop
/-- what is wanted behind a statement -/
structure Ends where
  nx : St → Hp → Prop
  rt : VK
  bk : St → Hp → Prop := fun _ _ => False
  ct : St → Hp → Prop := fun _ _ => False
abbrev TS := Ends → St → Hp → Prop

def EP (X : Cx) (pins : List (Addr × Obj)) (σ : St) (Q : VK) (u : Value) (s' : Shared) : Prop := ∃ v H', Inv X pins σ H' s' ∧ RelV v u ∧ Q v H'
def TP (X : Cx) (pins : List (Addr × Obj)) (σ : St) (Q : Bool → Hp → Prop) (b : Bool) (s' : Shared) : Prop := ∃ H', Inv X pins σ H' s' ∧ Q b H'
def AP (X : Cx) (pins : List (Addr × Obj)) (σ : St) (Q : List V → Hp → Prop) (us : List Value) (s' : Shared) : Prop := ∃ vs H', Inv X pins σ H' s' ∧ Vals vs us ∧ Q vs H'
def SP (X : Cx) (pins : List (Addr × Obj)) (D : Ends) (f : Flow) (s' : Shared) : Prop :=
  match f with
  | .next => ∃ σ' H', Inv X pins σ' H' s' ∧ D.nx σ' H'
  | .brk => ∃ σ' H', Inv X pins σ' H' s' ∧ D.bk σ' H'
  | .cont => ∃ σ' H', Inv X pins σ' H' s' ∧ D.ct σ' H'
  | .ret u => ∃ v σ' H', Inv X pins σ' H' s' ∧ RelV v u ∧ D.rt v H'

def PE (X : Cx) (e : Expr) (t : TE) : Prop :=
  ∀ (pins : List (Addr × Obj)) (s : Shared) (σ : St) (H : Hp) (Q : VK), Inv X pins σ H s → t σ H Q → wpAny (model X.prog X.w) X.A (eval e X.env) (EP X pins σ Q) X.xe s
def PT (X : Cx) (e : Expr) (t : TT) : Prop :=
  ∀ (pins : List (Addr × Obj)) (s : Shared) (σ : St) (H : Hp) (Q : Bool → Hp → Prop), Inv X pins σ H s → t σ H Q → wpAny (model X.prog X.w) X.A (isTrue e X.env (eval e X.env)) (TP X pins σ Q) X.xe s
/-- a test whatever its 'whole' is (and, or) -/
def PW (X : Cx) (e : Expr) (t : TT) : Prop :=
  ∀ (whole : Sem Value) (pins : List (Addr × Obj)) (s : Shared) (σ : St) (H : Hp) (Q : Bool → Hp → Prop), Inv X pins σ H s → t σ H Q → wpAny (model X.prog X.w) X.A (isTrue e X.env whole) (TP X pins σ Q) X.xe s
theorem PW.pt {X : Cx} {e : Expr} {t : TT} (h : PW X e t) : PT X e t := h _
/-- an argument list (no star), from the left -/
def PA (X : Cx) (es : List Expr) (t : TA) : Prop :=
  ∀ (pos : Pos) (pins : List (Addr × Obj)) (s : Shared) (σ : St) (H : Hp) (Q : List V → Hp → Prop), Inv X pins σ H s → t σ H Q → wpAny (model X.prog X.w) X.A (spliced (backTo pos (starEach es X.env))) (AP X pins σ Q) X.xe s
def PS (X : Cx) (st : Stmt) (t : TS) : Prop :=
  ∀ (pins : List (Addr × Obj)) (s : Shared) (σ : St) (H : Hp) (D : Ends), Inv X pins σ H s → t D σ H → wpAny (model X.prog X.w) X.A (exec st X.env) (SP X pins D) X.xe s
def PSs (X : Cx) (st : List Stmt) (t : TS) : Prop :=
  ∀ (pins : List (Addr × Obj)) (s : Shared) (σ : St) (H : Hp) (D : Ends), Inv X pins σ H s → t D σ H → wpAny (model X.prog X.w) X.A (execs st X.env) (SP X pins D) X.xe s
/-- weaken the end -/
theorem thn {α : Type} {t : Sem α} {Q Q' : α → Shared → Prop} {M : Model} {A : Around} {E : Value → Shared → Prop} {s : Shared} (h : wpAny M A t Q E s) (hQ : ∀ a s, Q a s → Q' a s) : wpAny M A t Q' E s := wpAny_mono h hQ fun _ _ x => x
end L2

namespace L2
open PySem PySem.Spec PyProof.Rows
section
variable {X : Cx}

/-! ### names and constants -/
def tVar (i : Nat) : TE := fun σ H Q => ∃ v, σ[i]? = some (some v) ∧ Q v H
def tC (v : V) : TE := fun _ H Q => Q v H
theorem pe_var {i : Nat} {x : Str} {pos : Pos} (hN : X.N[i]? = some x) (hv : Vis X.env.scope x) (hd : (x == ("__debug__" : Str)) = false := by decide) (hcd : (x == ("__classdict__" : Str)) = false := by decide) : PE X (.Name x pos) (tVar i) := by
  intro pins s σ H Q I h
  obtain ⟨v, e, h⟩ := h
  obtain ⟨m, hn, hl⟩ := I.loc
  obtain ⟨u, r, l⟩ := hl i x v hN e hv
  have fin : EP X pins σ Q u s := ⟨v, H, I, r, h⟩
  rcases l with ⟨hk, hm⟩ | ⟨hk, c, hc, hcell⟩
  · exact wpAny_Name (wpAny_loadName_local I.ok.kind hk hn hm fin) hd
  · rcases hk with hk | hk
    · exact wpAny_Name (wpAny_loadName_cell I.ok.kind hk hc hcell fin) hd
    · exact wpAny_Name (wpAny_loadName_free I.ok.kind hk hc hcell fin hcd) hd
theorem pe_int {i j pos} : PE X (.Constant (.int i) j pos) (tC (.int i)) := fun _ _ _ H _ I h => wpAny_Constant_int ⟨.int i, H, I.tok _, ⟨_, rfl⟩, h⟩
theorem pe_non {j pos} : PE X (.Constant .none j pos) (tC .non) := fun _ _ _ H _ I h => Constant_none ⟨.non, H, I, rfl, h⟩
/-- a global name of the def -/
def Gl (X : Cx) (x : Str) : Prop := X.env.kindOf x = some .globalImplicit
theorem ld_glob {E : Value → Shared → Prop} {pins : List (Addr × Obj)} {s : Shared} {σ : St} {H : Hp} {x : Str} {u : Value} {pos : Pos} {Q : Value → Shared → Prop} (I : Inv X pins σ H s) (hg : Gl X x) (hm : X.mg x = some u) (h : Q u s)
    (hd : (x == ("__debug__" : Str)) = false := by decide) : wpAny (model X.prog X.w) X.A (eval (.Name x pos) X.env) Q E s :=
  Calls.Name_function_global I.ok.kind hg (Calls.loadGlobal_global (by rw [I.ok.glob]; exact I.mod.glob.keeps I.bk) hm h) hd
theorem ld_blt {E : Value → Shared → Prop} {pins : List (Addr × Obj)} {s : Shared} {σ : St} {H : Hp} {x : Str} {u : Value} {pos : Pos} {Q : Value → Shared → Prop} (I : Inv X pins σ H s) (hg : Gl X x) (hm : X.mg x = none) (hv : bootBuiltins x = some u) (h : Q u s)
    (hn : x ≠ "__name__" := by decide) (hd : (x == ("__debug__" : Str)) = false := by decide) : wpAny (model X.prog X.w) X.A (eval (.Name x pos) X.env) Q E s := by
  obtain ⟨mb, h1, h2⟩ := I.mod.blt
  exact Calls.Name_function_global I.ok.kind hg (Calls.loadGlobal_builtin (by rw [I.ok.glob]; exact I.mod.glob.keeps I.bk) hm (by rw [I.ok.blt]; exact h1.keeps I.bk) ((h2 x hn).trans hv) h) hd
/-- a module's constant, a class, a function, as a value -/
theorem pe_glob {x : Str} {v : V} {u : Value} {pos : Pos} (hg : Gl X x) (hm : X.mg x = some u) (r : RelV v u) (hd : (x == ("__debug__" : Str)) = false := by decide) : PE X (.Name x pos) (tC v) :=
  fun _ _ _ H _ I h => ld_glob I hg hm ⟨v, H, I, r, h⟩ hd
/-! ### arithmetic -/
variable {a b : Expr} {ta tb : TE} {pos : Pos}
/-! ### comparisons -/
/-- a comparison as a value, as a test -/
def tB (t : TE) : TT := fun σ H Q => t σ H fun x H1 => ∃ c, x = .bl c ∧ Q c H1
/-- an expression whose value is a bool, as a test -/
theorem pt_val {e : Expr} {t : TE} (h : PE X e t) (he : ∀ whole, isTrue e X.env whole = (do let v ← whole; standAt e.pos; holding [v] (truthy v)) := by intro _; rfl) : PT X e (tB t) := by
  intro pins s σ H Q I hw
  refine isTrue_plain (thn (h pins s σ H _ I hw) fun v s1 ⟨x, H1, I1, r1, q1⟩ => ?_) (he _)
  obtain ⟨d, rfl, q⟩ := q1
  cases r1
  exact wpAny_truthy_bool ⟨H1, I1, q⟩

/-! ### and, or, not -/
variable {tA tB' : TT} {rest : List Expr}
def tAnd (t u : TT) : TT := fun σ H Q => t σ H fun c H1 => if c = true then u σ H1 Q else Q false H1
def tNot (t : TT) : TT := fun σ H Q => t σ H fun c H1 => Q (!c) H1
theorem pw_and1 (ha : PT X a tA) : PW X (.BoolOp .And [a] pos) tA := by
  intro wh pins s σ H Q I h
  refine isTrue_and (thn (ha pins s σ H Q I h) fun c s1 e => ?_)
  cases c with
  | true => exact isTrue_and_nil e
  | false => exact e
theorem pw_and (ha : PT X a tA) (hb : PW X (.BoolOp .And (b :: rest) pos) tB') : PW X (.BoolOp .And (a :: b :: rest) pos) (tAnd tA tB') := by
  intro wh pins s σ H Q I h
  refine isTrue_and (thn (ha pins s σ H _ I h) fun c s1 ⟨H1, I1, q1⟩ => ?_)
  cases c with
  | true => exact hb wh pins s1 σ H1 Q I1 q1
  | false => exact ⟨H1, I1, q1⟩
theorem pt_not (ha : PT X a tA) : PT X (.UnaryOp .Not a pos) (tNot tA) := by
  intro pins s σ H Q I h
  exact isTrue_not (ha pins s σ H (fun c H1 => Q (!c) H1) I h)
/-- .. as values (bools) -/
def tAndV (ta tb : TE) : TE := fun σ H Q => ta σ H fun x H1 => ∃ c, x = .bl c ∧ if c = true then tb σ H1 Q else Q (.bl false) H1
theorem pe_one {op} {t : TE} (h : PE X a t) : PE X (.BoolOp op [a] pos) t := fun pins s σ H Q I hw => BoolOp_one (h pins s σ H Q I hw)
theorem pe_and (ha : PE X a ta) (hb : PE X (.BoolOp .And (b :: rest) pos) tb) : PE X (.BoolOp .And (a :: b :: rest) pos) (tAndV ta tb) := by
  intro pins s σ H Q I h
  refine BoolOp_and (thn (ha pins s σ H _ I h) fun v s1 ⟨x, H1, I1, r1, q1⟩ => ?_)
  obtain ⟨c, rfl, q1⟩ := q1
  cases r1
  refine wpAny_truthy_bool ?_
  cases c with
  | true => exact hb pins s1 σ H1 Q I1 q1
  | false => exact ⟨.bl false, H1, I1, rfl, q1⟩
/-- a if t else b -/
def tIf (t : TT) (ta tb : TE) : TE := fun σ H Q => t σ H fun c H1 => if c = true then ta σ H1 Q else tb σ H1 Q
theorem pe_ifExp {c : Expr} (hc : PT X c tA) (ha : PE X a ta) (hb : PE X b tb) : PE X (.IfExp c a b pos) (tIf tA ta tb) := by
  intro pins s σ H Q I h
  refine wpAny_IfExp (thn (hc pins s σ H _ I h) fun d s1 ⟨H1, I1, q1⟩ => ?_)
  cases d with
  | true => exact ha pins s1 σ H1 Q I1 q1
  | false => exact hb pins s1 σ H1 Q I1 q1
end
end L2

namespace L2
open PySem PySem.Spec PyProof.Rows

/-! ### a list, a tuple that is read: tracked, frozen, or an object of the module -/
def SqL (K : PySem.W.Frag) (H : Hp) (a : Addr) (xs : List V) : Prop :=
  Rd H a (.lst xs) ∨
    ∃ (o : Obj) (its : Array Value) (n : Nat), K.lookup a = some o ∧ o.cls = .type "list" ∧ o.dict = none ∧ o.data = .seq its n ∧ its.size ≤ sizeLine ∧ Vals xs its.toList
def SqT (K : PySem.W.Frag) (H : Hp) (a : Addr) (xs : List V) : Prop :=
  Rd H a (.tup xs) ∨
    ∃ (o : Obj) (its : Array Value) (n : Nat), K.lookup a = some o ∧ o.cls = .type "tuple" ∧ o.data = .seq its n ∧ its.size ≤ sizeLine ∧ Vals xs its.toList
def absV : Value → Option V
  | .none => some .non
  | .bool b => some (.bl b)
  | .int i _ => some (.int i)
  | .str x _ => some (.str x)
  | .bytes b _ => some (.byt b)
  | .float b _ => some (.flt b)
  | .ref a => some (.ref a)
  | .type n => some (.ty n)
  | _ => none
theorem RelV.abs {x : V} {u : Value} (r : RelV x u) : absV u = some x := by
  cases x with
  | non => cases r; rfl
  | bl _ => cases r; rfl
  | int _ => obtain ⟨t, rfl⟩ := r; rfl
  | str _ => obtain ⟨t, rfl⟩ := r; rfl
  | byt _ => obtain ⟨t, rfl⟩ := r; rfl
  | flt _ => obtain ⟨t, rfl⟩ := r; rfl
  | ref _ => cases r; rfl
  | ty _ => cases r; rfl
theorem RelV.inj {x y : V} {u : Value} (r : RelV x u) (q : RelV y u) : x = y := Option.some.inj (r.abs.symm.trans q.abs)
theorem Vals.inj : ∀ {xs ys : List V} {us : List Value}, Vals xs us → Vals ys us → xs = ys
  | _, _, _, .nil, .nil => rfl
  | _, _, _, .cons r t, .cons r' t' => by rw [r.inj r', Vals.inj t t']
section
variable {X : Cx} {pins : List (Addr × Obj)} {σ : St} {H : Hp} {s : Shared} {a : Addr} {xs ys : List V}
theorem SqL.of {K : PySem.W.Frag} (h : H a = some (.lst xs)) : SqL K H a xs := .inl (.inl h)
theorem SqT.of {K : PySem.W.Frag} (h : H a = some (.tup xs)) : SqT K H a xs := .inl (.inl h)
theorem Inv.list (I : Inv X pins σ H s) (h : SqL X.K H a xs) : ∃ its : List Value, Vals xs its ∧ PlainL s.heap a its.toArray ∧ xs.length ≤ sizeLine := by
  rcases h with h | ⟨o, its, n, hk, hc, hd, hs, hz, r⟩
  · obtain ⟨z, its, n, r, e⟩ := h.ok I.hok
    exact ⟨its, r, ⟨_, n, e, rfl, rfl, rfl⟩, z⟩
  · refine ⟨its.toList, r, ⟨o, n, I.kIn a o hk, hc, hd, by simpa using hs⟩, ?_⟩
    have e := r.length
    simp only [Array.length_toList] at e
    omega
theorem Inv.tuple (I : Inv X pins σ H s) (h : SqT X.K H a xs) : ∃ its : List Value, Vals xs its ∧ IsTup s.heap a its.toArray ∧ xs.length ≤ sizeLine := by
  rcases h with h | ⟨o, its, n, hk, hc, hs, hz, r⟩
  · obtain ⟨z, its, r, p⟩ := h.ok I.hok
    exact ⟨its, r, p, z⟩
  · refine ⟨its.toList, r, ⟨o, I.kIn a o hk, hc, n, by simpa using hs⟩, ?_⟩
    have e := r.length
    simp only [Array.length_toList] at e
    omega
theorem Inv.list_inj (I : Inv X pins σ H s) (h : SqL X.K H a xs) (h' : SqL X.K H a ys) : xs = ys := by
  obtain ⟨its, r, ⟨o, n, e, _, _, d⟩, _⟩ := I.list h
  obtain ⟨its', r', ⟨o', n', e', _, _, d'⟩, _⟩ := I.list h'
  rw [e] at e'; cases e'
  rw [d] at d'
  injection d' with d1 _
  have : its = its' := by simpa using congrArg Array.toList d1
  subst this
  exact r.inj r'
theorem Inv.tuple_inj (I : Inv X pins σ H s) (h : SqT X.K H a xs) (h' : SqT X.K H a ys) : xs = ys := by
  obtain ⟨its, r, ⟨o, e, _, n, d⟩, _⟩ := I.tuple h
  obtain ⟨its', r', ⟨o', e', _, n', d'⟩, _⟩ := I.tuple h'
  rw [e] at e'; cases e'
  rw [d] at d'
  injection d' with d1 _
  have : its = its' := by simpa using congrArg Array.toList d1
  subst this
  exact r.inj r'
end

/-! ### another wish about exceptions -/
abbrev Cx.wish (X : Cx) (E : Value → Shared → Prop) : Cx := { X with xe := E }
/-- no exception leaves -/
abbrev Cx.nox (X : Cx) : Cx := X.wish fun _ _ => False
theorem Cx.Ok.wish {X : Cx} (ok : X.Ok) (E : Value → Shared → Prop) : (X.wish E).Ok :=
  ⟨ok.mod, ok.kind, ok.glob, ok.blt, ok.above, ok.inj, ok.has, ok.cab, ok.hd, ok.frames, ok.stk, ok.exf, ok.bs, ok.bsz, ok.noex, ok.exfs, ok.funs, ok.frf⟩
theorem Cx.Ok.unwish {X : Cx} {E : Value → Shared → Prop} (ok : (X.wish E).Ok) : X.Ok :=
  ⟨ok.mod, ok.kind, ok.glob, ok.blt, ok.above, ok.inj, ok.has, ok.cab, ok.hd, ok.frames, ok.stk, ok.exf, ok.bs, ok.bsz, ok.noex, ok.exfs, ok.funs, ok.frf⟩
section
variable {X : Cx} {pins : List (Addr × Obj)} {σ : St} {H : Hp} {s : Shared} {E : Value → Shared → Prop}
theorem Inv.wish (I : Inv X pins σ H s) (E : Value → Shared → Prop) : Inv (X.wish E) pins σ H s := ⟨I.ok.wish E, I.os, I.bare, I.base, I.loc, I.cell, I.free, I.freeC, I.pin, I.hok, I.len⟩
theorem Inv.unwish (I : Inv (X.wish E) pins σ H s) : Inv X pins σ H s := ⟨I.ok.unwish, I.os, I.bare, I.base, I.loc, I.cell, I.free, I.freeC, I.pin, I.hok, I.len⟩
theorem SP.unwish {D : Ends} {f : Flow} {s' : Shared} (h : SP (X.wish E) pins D f s') : SP X pins D f s' := by
  cases f with
  | next => obtain ⟨σ', H', I, q⟩ := h; exact ⟨σ', H', I.unwish, q⟩
  | brk => obtain ⟨σ', H', I, q⟩ := h; exact ⟨σ', H', I.unwish, q⟩
  | cont => obtain ⟨σ', H', I, q⟩ := h; exact ⟨σ', H', I.unwish, q⟩
  | ret u => obtain ⟨v, σ', H', I, r, q⟩ := h; exact ⟨v, σ', H', I.unwish, r, q⟩
theorem PSs.nox {st : List Stmt} {t : TS} (h : PSs X.nox st t) : PSs X st t := fun pins s σ H D I hw =>
  wpAny_mono (h pins s σ H D (I.wish _) hw) (fun _ _ q => q.unwish) fun _ _ z => False.elim z
end

/-! ### blocks and small statements -/
section
variable {X : Cx} {st : Stmt} {rest : List Stmt} {t u : TS} {e : Expr} {te : TE} {pos : Pos}
def tNext : TS := fun D σ H => D.nx σ H
def tSeq (t u : TS) : TS := fun D σ H => t { D with nx := u D } σ H
theorem pss_nil : PSs X [] tNext := fun _ _ σ H _ I h => wpAny_execs_nil ⟨σ, H, I, h⟩
theorem pss_cons (h1 : PS X st t) (h2 : PSs X rest u) : PSs X (st :: rest) (tSeq t u) := by
  intro pins s σ H D I h
  refine wpAny_execs_cons (thn (h1 pins s σ H { D with nx := u D } I h) fun f s1 q => ?_)
  cases f with
  | next =>
    obtain ⟨σ', H', I', q⟩ := q
    exact h2 pins s1 σ' H' D I' q
  | ret v => exact q
  | brk => exact q
  | cont => exact q
theorem pss_one (h1 : PS X st t) : PSs X [st] t := by
  intro pins s σ H D I h
  refine wpAny_execs_cons (thn (h1 pins s σ H D I h) fun f s1 q => ?_)
  cases f with
  | next => exact wpAny_execs_nil q
  | ret v => exact q
  | brk => exact q
  | cont => exact q
/-- in a def's body nothing is shown -/
theorem Inv.quiet {pins : List (Addr × Obj)} {σ : St} {H : Hp} {s : Shared} (I : Inv X pins σ H s) : interactive X.env = false := by simp [interactive, I.ok.kind]
/-- an expression whose value is dropped -/
def tDrop (te : TE) : TS := fun D σ H => te σ H fun _ H1 => D.nx σ H1
theorem ps_expr (he : PE X e te) (hs : swapsWith e none pos.line X.env = pure false := by rfl) : PS X (.Expr e pos) (tDrop te) := by
  intro pins s σ H D I h
  exact wpAny_Expr_any (thn (he pins s σ H _ I h) fun v s1 ⟨x, H1, I1, r1, q1⟩ => ⟨σ, H1, I1, q1⟩) I.quiet hs
def tRet (te : TE) : TS := fun D σ H => te σ H D.rt
theorem ps_ret (he : PE X e te) : PS X (.Return (some e) pos) (tRet te) := by
  intro pins s σ H D I h
  exact wpAny_Return_some (thn (he pins s σ H _ I h) fun v s1 ⟨x, H1, I1, r1, q1⟩ => ⟨x, σ, H1, I1, r1, q1⟩)
def tIfS (c : TT) (t u : TS) : TS := fun D σ H => c σ H fun b H1 => if b = true then t D σ H1 else u D σ H1
theorem ps_if {c : Expr} {a b : List Stmt} {tc : TT} (hc : PT X c tc) (ha : PSs X a t) (hb : PSs X b u) : PS X (.If c a b pos) (tIfS tc t u) := by
  intro pins s σ H D I h
  refine wpAny_If (thn (hc pins s σ H _ I h) fun d s1 ⟨H1, I1, q1⟩ => ?_)
  cases d with
  | true => exact ha pins s1 σ H1 D I1 q1
  | false => exact hb pins s1 σ H1 D I1 q1
end

/-! ### targets -/
abbrev TG := V → St → Hp → (St → Hp → Prop) → Prop
abbrev TGs := List V → St → Hp → (St → Hp → Prop) → Prop
def PG (X : Cx) (target : Expr) (t : TG) : Prop :=
  ∀ (pins : List (Addr × Obj)) (s : Shared) (σ : St) (H : Hp) (v : V) (u : Value) (Q : St → Hp → Prop), Inv X pins σ H s → RelV v u → t v σ H Q →
    wpAny (model X.prog X.w) X.A (assign target X.env u) (fun _ s' => ∃ σ' H', Inv X pins σ' H' s' ∧ Q σ' H') X.xe s
/-- several targets, one after another -/
def PGs (X : Cx) (ts : List Expr) (t : TGs) : Prop :=
  ∀ (pins : List (Addr × Obj)) (s : Shared) (σ : St) (H : Hp) (vs : List V) (us : List Value) (Q : St → Hp → Prop), Inv X pins σ H s → Vals vs us → t vs σ H Q →
    wpAny (model X.prog X.w) X.A (assignInOrder ((assignEach ts X.env).map (·.2)) us) (fun _ s' => ∃ σ' H', Inv X pins σ' H' s' ∧ Q σ' H') X.xe s
section
variable {X : Cx} {pos : Pos}
def gName (i : Nat) : TG := fun v σ H Q => Q (σ.set i (some v)) H
theorem pg_name {i : Nat} {x : Str} (hN : X.N.Nodup) (hi : X.N[i]? = some x) (hx : Loc X.env.scope x) (hf : X.fn x = true ∨ X.env.scope.names.lookup x = some .local := by first | exact .inl rfl | exact .inr rfl | assumption) : PG X (.Name x pos) (gName i) := by
  intro pins s σ H v u Q I r h
  exact wpAny_assign_Name (store_ok I hN hi hx r (fun s' I' => ⟨_, H, I', h⟩) hf)
def gNil : TGs := fun vs σ H Q => vs = [] ∧ Q σ H
def gCons (t : TG) (u : TGs) : TGs := fun vs σ H Q => ∃ v r, vs = v :: r ∧ t v σ H fun σ' H' => u r σ' H' Q
theorem pgs_nil : PGs X [] gNil := by
  intro pins s σ H vs us Q I r h
  obtain ⟨e, h⟩ := h
  subst e
  cases r
  exact assignInOrder_nil ⟨σ, H, I, h⟩
theorem pgs_cons {e : Expr} {es : List Expr} {t : TG} {u : TGs} (h1 : PG X e t) (h2 : PGs X es u)
    (hs : (assignEach (e :: es) X.env).map (·.2) = assign e X.env :: (assignEach es X.env).map (·.2) := by rfl) : PGs X (e :: es) (gCons t u) := by
  intro pins s σ H vs us Q I r h
  obtain ⟨v, vr, e1, h⟩ := h
  subst e1
  cases r with
  | cons r rr =>
    rw [hs]
    refine assignInOrder_cons (thn (h1 pins s σ H _ _ _ I r h) fun _ s1 ⟨σ1, H1, I1, q1⟩ => ?_)
    exact h2 pins s1 σ1 H1 _ _ Q I1 rr q1
/-- (a, b, ..) = a tuple of that length -/
def gTup (K : PySem.W.Frag) (n : Nat) (t : TGs) : TG := fun v σ H Q => ∃ a xs, v = .ref a ∧ SqT K H a xs ∧ xs.length = n ∧ t xs σ H Q
theorem pg_tup {es : List Expr} {k : Nat} {t : TGs} {n : Nat} (hc : X.calm = true) (h : PGs X es t)
    (hn : (assignEach es X.env).length = n := by rfl) (hst : (assignEach es X.env).findIdx? (·.1) = none := by rfl) : PG X (.Tuple es k pos) (gTup X.K n t) := by
  intro pins s σ H v u Q I r hw
  obtain ⟨a, xs, e1, hq, hl, hw⟩ := hw
  subst e1
  cases r
  obtain ⟨its, rv, ht, hz⟩ := I.tuple hq
  refine assign_Tuple_tuple (I.ok.hd hc) ht (by simp [hn, ← hl, rv.length]) hst fun h' hx => ?_
  have I1 : Inv X pins σ H { s with heap := h' } := I.kept (t' := s.toks) fun b o e => hx b o (Nat.ne_of_lt (Heap.lt_size e)) e
  exact h pins _ σ H xs _ Q I1 (by simpa using rv) hw
/-- target = value -/
def tAsg (te : TE) (g : TG) : TS := fun D σ H => te σ H fun x H1 => g x σ H1 D.nx
/-- name = value -/
theorem ps_set {i : Nat} {x : Str} {e : Expr} {te : TE} {pos' : Pos} (hN : X.N.Nodup) (hi : X.N[i]? = some x) (hx : Loc X.env.scope x) (he : PE X e te) (hs : swapsWith e (some (.Name x pos')) pos.line X.env = pure false := by rfl) (hf : X.fn x = true ∨ X.env.scope.names.lookup x = some .local := by first | exact .inl rfl | exact .inr rfl | assumption) :
    PS X (.Assign [.Name x pos'] e pos) (tAsg te (gName i)) := by
  intro pins s σ H D I h
  refine wpAny_Assign_Name (thn (he pins s σ H _ I h) fun v s1 ⟨y, H1, I1, r1, q1⟩ => ?_) hs
  exact store_ok I1 hN hi hx r1 (fun s2 I2 => ⟨_, H1, I2, q1⟩) hf
end

/-! ### while -/
section
variable {X : Cx} {pos : Pos}
/-- the invariant W with its measure -/
def tWhile (c : TT) (tb : TS) : TS := fun D σ H => ∃ W : Nat → St → Hp → Prop, (∃ m, W m σ H) ∧ ∀ m σ H, W m σ H →
  c σ H fun b H1 => if b = true then ∃ N : St → Hp → Prop, (∀ σ' H', N σ' H' → ∃ m', m' < m ∧ W m' σ' H') ∧ tb { D with nx := N, ct := N, bk := D.nx } σ H1 else D.nx σ H1
theorem ps_while {c : Expr} {body : List Stmt} {tc : TT} {tb : TS} (hp : PassesOwn (model X.prog X.w) X.A X.env X.xe) (hc : PT X c tc) (hb : PSs X body tb) : PS X (.While c body [] pos) (tWhile tc tb) := by
  intro pins s σ H D I h
  obtain ⟨W, ⟨m0, w0⟩, turn⟩ := h
  refine wpAny_While (codeAny_whileLoop (fun n s' => ∃ σ' H', Inv X pins σ' H' s' ∧ W n σ' H') ?_ m0 ⟨σ, H, I, w0⟩)
  rintro n s1 ⟨σ1, H1, I1, w1⟩
  refine wpAny_passesOwn hp (thn (hc pins s1 σ1 H1 _ I1 (turn n σ1 H1 w1)) fun b s2 ⟨H2, I2, q2⟩ => ?_)
  cases b with
  | true =>
    obtain ⟨N, hN, q2⟩ := q2
    rw [if_pos rfl]
    refine wpAny_passesOwn hp (thn (hb pins s2 σ1 H2 _ I2 q2) fun f s3 q3 => ?_)
    cases f with
    | next =>
      obtain ⟨σ3, H3, I3, n3⟩ := q3
      obtain ⟨m', hm, w3⟩ := hN σ3 H3 n3
      exact ⟨m', hm, σ3, H3, I3, w3⟩
    | cont =>
      obtain ⟨σ3, H3, I3, n3⟩ := q3
      obtain ⟨m', hm, w3⟩ := hN σ3 H3 n3
      exact ⟨m', hm, σ3, H3, I3, w3⟩
    | brk => exact q3
    | ret v => exact q3
  | false =>
    rw [if_neg Bool.false_ne_true]
    exact wpAny_execs_nil ⟨σ1, H2, I2, q2⟩
end

/-! ### what a loop or a comprehension walks -/
/-- at turn i: it yields x (the heap may grow), or it stops -/
structure It where
  go : Nat → Hp → Prop
  yld : Nat → Hp → V → Hp → Prop
  stop : Nat → Hp → Prop
/-- the iterator's own objects may turn: they are not the frame's, not pinned, younger than the entry (or a comprehension's own) -/
def FpOk (X : Cx) (pins : List (Addr × Obj)) (H : Hp) (b : Addr) : Prop :=
  H b = none ∧ b ≠ X.env.locals ∧ b ∉ X.fs ∧ (b ∈ X.ex ∨ X.s_0.heap.objs.size ≤ b) ∧ (∀ x c, X.env.cells.lookup x = some c → c ≠ b) ∧ ∀ p ∈ X.pn ++ pins, p.1 ≠ b
theorem Inv.fpOk {X : Cx} {pins : List (Addr × Obj)} {σ : St} {H H' : Hp} {s : Shared} {b : Addr} (I : Inv X pins σ H s) (hb : s.heap.objs.size ≤ b) (hn : H' b = none) : FpOk X pins H' b := by
  refine ⟨hn, Nat.ne_of_gt (Nat.lt_of_lt_of_le I.lt hb), I.nofs hb, .inr (Nat.le_trans I.sz hb), fun x c e z => ?_, fun p hp z => ?_⟩
  · obtain ⟨v, q⟩ := I.cell x c e
    exact absurd (Nat.lt_of_lt_of_le q.lt (by rw [z]; exact hb)) (Nat.lt_irrefl _)
  · exact absurd (Nat.lt_of_lt_of_le (Heap.lt_size (I.pin p hp).1) (by rw [z]; exact hb)) (Nat.lt_irrefl _)
structure Turn (P : Program) (w : World) (K : PySem.W.Frag) (tg : Expr) (J : It) (fp : List Addr) (it : Addr) (tn : Nat → Heap → Prop) : Prop where
  mem : it ∈ fp
  obj : ∀ i h, tn i h → ∀ b ∈ fp, ∃ o, h.get? b = some o ∧ ∀ v, o.data ≠ .cell v
  keep : ∀ i h h', tn i h → (∀ b ∈ fp, ∀ o, h.get? b = some o → h'.get? b = some o) → tn i h'
  item : ∀ (X : Cx), X.prog = P → X.w = w → X.K = K → X.calm = true → ∀ (i : Nat) (pins : List (Addr × Obj)) (s : Shared) (σ : St) (H : Hp) (E : Value → Shared → Prop), Inv X pins σ H s → (∀ b ∈ fp, FpOk X pins H b) → tn i s.heap → J.go i H →
    wpAny (model P w) X.A (pyNext (.ref it)) (fun r s1 => ∃ u, r = some u ∧
      wpAny (model P w) X.A (letOwnedTupleGo tg (.ref it) u) (fun _ s2 => ∃ x H', Inv X pins σ H' s2 ∧ RelV x u ∧ J.yld i H x H' ∧ tn (i + 1) s2.heap ∧ ∀ b ∈ fp, H' b = none) E s1) E s
  done : ∀ (X : Cx), X.prog = P → X.w = w → X.K = K → X.calm = true → ∀ (i : Nat) (pins : List (Addr × Obj)) (s : Shared) (σ : St) (H : Hp) (E : Value → Shared → Prop), Inv X pins σ H s → (∀ b ∈ fp, FpOk X pins H b) → tn i s.heap → J.stop i H →
    wpAny (model P w) X.A (pyNext (.ref it)) (fun r s1 => r = none ∧ Inv X pins σ H s1) E s
  self : ∀ (A : Around) (i : Nat) (s : Shared) (Q : Value → Shared → Prop) (E : Value → Shared → Prop), tn i s.heap → Q (.ref it) s → wpAny (model P w) A (pyIter (.ref it)) Q E s
abbrev TI := St → Hp → (It → Hp → Prop) → Prop
/-- an iterator has come -/
def PIE (X : Cx) (pins : List (Addr × Obj)) (σ : St) (tg : Expr) (R : It → Hp → Prop) (itv : Value) (s2 : Shared) : Prop :=
  ∃ (it : Addr) (fp : List Addr) (tn : Nat → Heap → Prop) (J : It) (H' : Hp), itv = .ref it ∧ Inv X pins σ H' s2 ∧ Turn X.prog X.w X.K tg J fp it tn ∧ tn 0 s2.heap ∧ (∀ b ∈ fp, FpOk X pins H' b) ∧ R J H'
def PI (X : Cx) (tg iter : Expr) (wi : TI) : Prop :=
  ∀ (pins : List (Addr × Obj)) (s : Shared) (σ : St) (H : Hp) (R : It → Hp → Prop), Inv X pins σ H s → wi σ H R →
    wpAny (model X.prog X.w) X.A (eval iter X.env) (fun v s1 => wpAny (model X.prog X.w) X.A (pyIter v) (PIE X pins σ tg R) X.xe s1) X.xe s

/-- the step ahead of the store is nothing for an iterator that keeps no tuple -/
theorem go_of {M : Model} {A : Around} {E : Value → Shared → Prop} {s : Shared} {tg : Expr} {it : Addr} {u : Value} {o : Obj} {n : String} {vs : Array Value} {Q : Unit → Shared → Prop} (ho : s.heap.get? it = some o) (hc : o.cls = .type n) (hd : o.data = .fields vs)
    (hn : ["enumerate", "zip", "dict_itemiterator", "dict_reverseitemiterator", "odict_iterator", "itertools.zip_longest", "itertools.pairwise"].contains n = false) (hQ : Q () s) : wpAny M A (letOwnedTupleGo tg (.ref it) u) Q E s := by
  unfold letOwnedTupleGo
  cases tg <;> first
    | exact wpAny_pure hQ
    | (cases u <;> first
        | exact wpAny_pure hQ
        | (refine wpAny_bind (wpAny_load ho ?_)
           rw [hc, hd]
           show wpAny M A (if (["enumerate", "zip", "dict_itemiterator", "dict_reverseitemiterator", "odict_iterator", "itertools.zip_longest", "itertools.pairwise"].contains n && vs[0]? == some (rawInt _)) = true then _ else _) Q E s
           rw [if_neg (by intro h; rw [hn, Bool.false_and] at h; cases h)]
           exact wpAny_pure hQ))

/-- the list at a, as it stands at each turn (a loop may append to it) -/
def Itl (K : PySem.W.Frag) (a : Addr) : It :=
  ⟨fun i H => ∃ xs x, SqL K H a xs ∧ xs[i]? = some x, fun i H x H' => H' = H ∧ ∀ xs, SqL K H a xs → xs[i]? = some x, fun i H => ∃ xs, SqL K H a xs ∧ xs.length ≤ i⟩
def Itt (K : PySem.W.Frag) (a : Addr) : It :=
  ⟨fun i H => ∃ xs x, SqT K H a xs ∧ xs[i]? = some x, fun i H x H' => H' = H ∧ ∀ xs, SqT K H a xs → xs[i]? = some x, fun i H => ∃ xs, SqT K H a xs ∧ xs.length ≤ i⟩
/-- lo, lo + 1, .. (n of them) -/
def Itr (lo : Int) (n : Nat) : It := ⟨fun i _ => i < n, fun i H x H' => H' = H ∧ x = .int (lo + i), fun i _ => n ≤ i⟩
theorem turn_list {P : Program} {w : World} {K : PySem.W.Frag} {tg : Expr} (a it : Addr) : Turn P w K tg (Itl K a) [it] it (fun i h => h.IsListIter it a i) where
  mem := by simp
  obj := fun i h st b hb => by
    have e : b = it := by simpa using hb
    subst e
    obtain ⟨o, e, c, d⟩ := st
    exact ⟨o, e, fun v z => by rw [d] at z; cases z⟩
  keep := fun i h h' st k => st.at fun o e => k it (by simp) o e
  item := by
    intro X hP hw hK hc i pins s σ H E I hf st hg
    subst hP hw hK
    obtain ⟨xs, x, hq, hx⟩ := hg
    obtain ⟨its, rv, p, hz⟩ := I.list hq
    obtain ⟨u, hu, ru⟩ := rv.get hx
    obtain ⟨f0, f1, f2, f3, f4, f5⟩ := hf it (by simp)
    refine wpAny_pyNext_list_item st p.isList (x := u) (by simpa using hu) fun h' st' sb => ?_
    have I1 : Inv X pins σ H { s with heap := h' } := I.turned (t' := s.toks) (fun b o hb e => (sb.2 b hb).trans e) f0 f1 f3 f4 f5
    obtain ⟨o, e, c, d⟩ := id st'
    exact ⟨u, rfl, go_of (s := { s with heap := h' }) e c d (by decide) ⟨x, H, I1, ru, ⟨rfl, fun ys hy => by rw [I.list_inj hy hq]; exact hx⟩, st', fun b hb => (hf b hb).1⟩⟩
  done := by
    intro X hP hw hK hc i pins s σ H E I hf st hg
    subst hP hw hK
    obtain ⟨xs, hq, hx⟩ := hg
    obtain ⟨its, rv, p, hz⟩ := I.list hq
    obtain ⟨f0, f1, f2, f3, f4, f5⟩ := hf it (by simp)
    have hl := rv.length
    exact wpAny_pyNext_list_end (I.ok.hd hc) st p.isList (by simp; omega) fun h' eb => ⟨rfl, I.turned (t' := s.toks) (fun b o hb e => eb b o hb e) f0 f1 f3 f4 f5⟩
  self := fun _ _ _ _ _ st h => wpAny_pyIter_listiter st h
theorem turn_tuple {P : Program} {w : World} {K : PySem.W.Frag} {tg : Expr} (a it : Addr) : Turn P w K tg (Itt K a) [it] it (fun i h => h.IsTupleIter it a i) where
  mem := by simp
  obj := fun i h st b hb => by
    have e : b = it := by simpa using hb
    subst e
    obtain ⟨o, e, c, d⟩ := st
    exact ⟨o, e, fun v z => by rw [d] at z; cases z⟩
  keep := fun i h h' st k => st.at fun o e => k it (by simp) o e
  item := by
    intro X hP hw hK hc i pins s σ H E I hf st hg
    subst hP hw hK
    obtain ⟨xs, x, hq, hx⟩ := hg
    obtain ⟨its, rv, p, hz⟩ := I.tuple hq
    obtain ⟨u, hu, ru⟩ := rv.get hx
    obtain ⟨f0, f1, f2, f3, f4, f5⟩ := hf it (by simp)
    refine wpAny_pyNext_tuple_item st (show s.heap.IsTuple a its.toArray from p) (x := u) (by simpa using hu) fun h' st' sb => ?_
    have I1 : Inv X pins σ H { s with heap := h' } := I.turned (t' := s.toks) (fun b o hb e => (sb.2 b hb).trans e) f0 f1 f3 f4 f5
    obtain ⟨o, e, c, d⟩ := id st'
    exact ⟨u, rfl, go_of (s := { s with heap := h' }) e c d (by decide) ⟨x, H, I1, ru, ⟨rfl, fun ys hy => by rw [I.tuple_inj hy hq]; exact hx⟩, st', fun b hb => (hf b hb).1⟩⟩
  done := by
    intro X hP hw hK hc i pins s σ H E I hf st hg
    subst hP hw hK
    obtain ⟨xs, hq, hx⟩ := hg
    obtain ⟨its, rv, p, hz⟩ := I.tuple hq
    obtain ⟨f0, f1, f2, f3, f4, f5⟩ := hf it (by simp)
    have hl := rv.length
    exact wpAny_pyNext_tuple_end (I.ok.hd hc) st (show s.heap.IsTuple a its.toArray from p) (by simp; omega) fun h' eb => ⟨rfl, I.turned (t' := s.toks) (fun b o hb e => eb b o hb e) f0 f1 f3 f4 f5⟩
  self := fun _ _ _ _ _ st h => wpAny_pyIter_tupleiter st h
theorem turn_range {P : Program} {w : World} {K : PySem.W.Frag} {tg : Expr} (it : Addr) (lo : Int) (n : Nat) : Turn P w K tg (Itr lo n) [it] it (fun i h => IsRangeIter h it (lo + (i : Nat) * 1) ((n : Int) - (i : Nat)) 1) where
  mem := by simp
  obj := fun i h st b hb => by
    have e : b = it := by simpa using hb
    subst e
    exact ⟨_, st, fun v z => by
      have z' : Data.fields _ = Data.cell v := z
      cases z'⟩
  keep := fun i h h' st k => k it (by simp) _ st
  item := by
    intro X hP hw hK hc i pins s σ H E I hf st hg
    subst hP hw hK
    obtain ⟨f0, f1, f2, f3, f4, f5⟩ := hf it (by simp)
    have W := Walks.range (prog := X.prog) (w := X.w) (I.ok.hd hc) it lo 1 n
    refine W.item i s _ _ hg st fun v h' tk hv st' kk => ?_
    obtain ⟨t, rfl⟩ := hv
    have I1 : Inv X pins σ H { s with heap := h', toks := tk } := I.turned (fun b o hb e => kk b o (by simpa using hb) e) f0 f1 f3 f4 f5
    refine ⟨_, rfl, go_of (s := { s with heap := h', toks := tk }) (n := "range_iterator") st' rfl rfl (by decide) ⟨.int (lo + i), H, I1, ⟨t, ?_⟩, ⟨rfl, rfl⟩, st', fun b hb => (hf b hb).1⟩⟩
    rw [Int.mul_one]
  done := by
    intro X hP hw hK hc i pins s σ H E I hf st hg
    subst hP hw hK
    obtain ⟨f0, f1, f2, f3, f4, f5⟩ := hf it (by simp)
    exact wpAny_pyNext_range_end (I.ok.hd hc) st (by have : n ≤ i := hg; omega) fun h' eb => ⟨rfl, I.turned (t' := s.toks) (fun b o hb e => eb b o hb e) f0 f1 f3 f4 f5⟩
  self := fun _ _ _ _ _ st h => wpAny_pyIter_rangeiter st h
end L2

namespace L2
open PySem PySem.Spec PyProof.Rows
section
variable {X : Cx} {tg : Expr}
def iList (K : PySem.W.Frag) (tl : TE) : TI := fun σ H R => tl σ H fun x H1 => ∃ a, x = .ref a ∧ (∃ xs, SqL K H1 a xs) ∧ R (Itl K a) H1
def iTup (K : PySem.W.Frag) (tl : TE) : TI := fun σ H R => tl σ H fun x H1 => ∃ a, x = .ref a ∧ (∃ xs, SqT K H1 a xs) ∧ R (Itt K a) H1
theorem pi_list {l : Expr} {tl : TE} (hl : PE X l tl) : PI X tg l (iList X.K tl) := by
  intro pins s σ H R I h
  refine thn (hl pins s σ H _ I h) fun v s1 ⟨x, H1, I1, r1, q1⟩ => ?_
  obtain ⟨a, e, ⟨xs, hq⟩, q⟩ := q1
  subst e
  cases r1
  obtain ⟨its, rv, p, hz⟩ := I1.list hq
  refine wpAny_pyIter_list p.isList ?_
  refine ⟨s1.heap.objs.size, [s1.heap.objs.size], _, _, H1, rfl, I1.kept (t' := s1.toks) fun b o e => Heap.get?_push_of_some _ e, turn_list a _, ⟨_, Heap.get?_push_size _ rfl, rfl, rfl⟩, fun b hb => ?_, q⟩
  have e : b = s1.heap.objs.size := by simpa using hb
  subst e
  exact I1.fpOk (Nat.le_refl _) (I1.hok.fresh (Nat.le_refl _))
theorem pi_tup {l : Expr} {tl : TE} (hl : PE X l tl) : PI X tg l (iTup X.K tl) := by
  intro pins s σ H R I h
  refine thn (hl pins s σ H _ I h) fun v s1 ⟨x, H1, I1, r1, q1⟩ => ?_
  obtain ⟨a, e, ⟨xs, hq⟩, q⟩ := q1
  subst e
  cases r1
  obtain ⟨its, rv, p, hz⟩ := I1.tuple hq
  refine wpAny_pyIter_tuple (show s1.heap.IsTuple a its.toArray from p) ?_
  refine ⟨s1.heap.objs.size, [s1.heap.objs.size], _, _, H1, rfl, I1.kept (t' := s1.toks) fun b o e => Heap.get?_push_of_some _ e, turn_tuple a _, ⟨_, Heap.get?_push_size _ rfl, rfl, rfl⟩, fun b hb => ?_, q⟩
  have e : b = s1.heap.objs.size := by simpa using hb
  subst e
  exact I1.fpOk (Nat.le_refl _) (I1.hok.fresh (Nat.le_refl _))
/-- a range object just made, walked -/
theorem range_it {pins : List (Addr × Obj)} {σ : St} {H : Hp} {s : Shared} {R : It → Hp → Prop} {E : Value → Shared → Prop} {lo hi : Int} {t u v : Tok} {tk : Nat} (I : Inv X pins σ H s) (h1 : -(2 ^ 62) ≤ lo) (h2 : lo < 2 ^ 62) (h3 : -(2 ^ 62) ≤ hi) (h4 : hi < 2 ^ 62)
    (q : R (Itr lo (hi - lo).toNat) H) : wpAny (model X.prog X.w) X.A (pyIter (.ref s.heap.objs.size)) (PIE X pins σ tg R) E { s with heap := s.heap.push { cls := .type "range", data := .fields #[.int lo t, .int hi u, .int 1 v] }, toks := tk } := by
  refine wpAny_pyIter_range (IsRange.new ..) (small_one h1 h2 h3 h4) ?_
  have I1 : Inv X pins σ H { s with heap := s.heap.push { cls := .type "range", data := .fields #[.int lo t, .int hi u, .int 1 v] }, toks := tk } := I.kept fun b o e => Heap.get?_push_of_some _ e
  refine ⟨(s.heap.push { cls := .type "range", data := .fields #[.int lo t, .int hi u, .int 1 v] }).objs.size, [(s.heap.push { cls := .type "range", data := .fields #[.int lo t, .int hi u, .int 1 v] }).objs.size], _, _, H, rfl,
    I1.kept (t' := tk) fun b o e => Heap.get?_push_of_some _ e, turn_range _ lo (hi - lo).toNat, ?_, fun b hb => ?_, q⟩
  · have e1 : lo + ((0 : Nat) : Int) * 1 = lo := by simp
    have e2 : (((hi - lo).toNat : Nat) : Int) - ((0 : Nat) : Int) = Builtin.Range.rangeSize lo hi 1 := by rw [rangeSize_one]; split <;> omega
    show IsRangeIter _ _ (lo + ((0 : Nat) : Int) * 1) ((((hi - lo).toNat : Nat) : Int) - ((0 : Nat) : Int)) 1
    rw [e1, e2]
    exact Heap.get?_push_size _ rfl
  · have e : b = (s.heap.push { cls := .type "range", data := .fields #[.int lo t, .int hi u, .int 1 v] }).objs.size := by simpa using hb
    subst e
    exact I1.fpOk (Nat.le_refl _) (I1.hok.fresh (Nat.le_refl _))
def iRng2 (ta : TA) : TI := fun σ H R => ta σ H fun vs H1 => ∃ i j : Int, vs = [.int i, .int j] ∧ (-(2 ^ 62) ≤ i ∧ i < 2 ^ 62 ∧ -(2 ^ 62) ≤ j ∧ j < 2 ^ 62) ∧ R (Itr i (j - i).toNat) H1
theorem pi_range2 {a b : Expr} {ta : TA} {p pos : Pos} (hg : Gl X "range") (hm : X.mg "range" = none) (ha : PA X [a, b] ta) (hs : starEach [a, b] X.env = [(false, eval a X.env), (false, eval b X.env)] := by rfl) (hs2 : starEach [b] X.env = [(false, eval b X.env)] := by rfl) :
    PI X tg (.Call (.Name "range" p) [a, b] [] pos) (iRng2 ta) := by
  intro pins s σ H R I h
  refine Call_ (ld_blt I hg hm boot_range (PyProof.Rows.callWith_type1 (thn (ha pos pins s σ H _ I h) fun us s1 ⟨vs, H1, I1, r1, q1⟩ => ?_) (by rw [hs, hs2]) (by rw [hs2]; rfl)))
  obtain ⟨i, j, e, ⟨q1, q2, q3, q4⟩, q⟩ := q1
  subst e
  cases r1 with
  | cons r rr =>
    cases rr with
    | cons r' rr =>
      cases rr
      obtain ⟨t, rfl⟩ := r
      obtain ⟨t', rfl⟩ := r'
      exact call_range_2 (range_it I1 q1 q2 q3 q4 q)

/-! ### for -/
/-- W: the invariant by the turn and a measure; N: what the body is to reach -/
def tFor (wi : TI) (g : TG) (tb : TS) : TS := fun D σ H => wi σ H fun J H1 => ∃ W : Nat → Nat → St → Hp → Prop, (∃ m, W 0 m σ H1) ∧ ∀ i m σ H, W i m σ H →
  (J.stop i H ∧ D.nx σ H) ∨ (J.go i H ∧ ∃ N : St → Hp → Prop, (∀ σ' H', N σ' H' → ∃ m', m' < m ∧ W (i + 1) m' σ' H') ∧ ∀ x H', J.yld i H x H' → g x σ H' fun σ2 H2 => tb { D with nx := N, ct := N, bk := D.nx } σ2 H2)
/-- the records at fp as they stand -/
def pinsAt (fp : List Addr) (h : Heap) : List (Addr × Obj) := fp.filterMap fun b => (h.get? b).map fun o => (b, o)
theorem mem_pinsAt {fp : List Addr} {h : Heap} {b : Addr} {o : Obj} (hb : b ∈ fp) (e : h.get? b = some o) : (b, o) ∈ pinsAt fp h := List.mem_filterMap.mpr ⟨b, hb, by rw [e]; rfl⟩
theorem of_pinsAt {fp : List Addr} {h : Heap} {p : Addr × Obj} (hp : p ∈ pinsAt fp h) : p.1 ∈ fp ∧ h.get? p.1 = some p.2 := by
  obtain ⟨b, hb, e⟩ := List.mem_filterMap.mp hp
  cases q : h.get? b with
  | none => rw [q] at e; cases e
  | some o =>
    rw [q] at e
    have e' : (b, o) = p := Option.some.inj e
    subst e'
    exact ⟨hb, q⟩
theorem Inv.pinned {pins : List (Addr × Obj)} {σ : St} {H : Hp} {s : Shared} {fp : List Addr} (I : Inv X pins σ H s) (hf : ∀ b ∈ fp, FpOk X pins H b) (ho : ∀ b ∈ fp, ∃ o, s.heap.get? b = some o ∧ ∀ v, o.data ≠ .cell v) : Inv X (pins ++ pinsAt fp s.heap) σ H s :=
  I.pins_of fun p hp => (List.mem_append.mp hp).elim (fun z => I.pin p (List.mem_append_right _ z)) fun z => by
    obtain ⟨hb, e⟩ := of_pinsAt z
    obtain ⟨f0, f1, f2, _⟩ := hf p.1 hb
    obtain ⟨o, e', d⟩ := ho p.1 hb
    rw [e] at e'; cases e'
    exact ⟨e, f0, f1, f2, d⟩
theorem Inv.unpinned {pins pl : List (Addr × Obj)} {σ : St} {H : Hp} {s : Shared} (I : Inv X (pins ++ pl) σ H s) : Inv X pins σ H s := I.pins_of fun p hp => I.pin p (List.mem_append_right _ (List.mem_append_left _ hp))
theorem ps_for {iter : Expr} {body : List Stmt} {wi : TI} {g : TG} {tb : TS} {pos : Pos} (hp : PassesOwn (model X.prog X.w) X.A X.env X.xe) (hc : X.calm = true) (hi : PI X tg iter wi) (hg : PG X tg g) (hb : PSs X body tb)
    (hs : ∀ x, foldedSetIterable iter X.env x = pure x := by intro _; rfl) : PS X (.For tg iter body [] pos) (tFor wi g tb) := by
  intro pins s σ H D I h
  refine wpAny_For (thn (hi pins s σ H _ I h) fun v s1 h1 => thn h1 fun itv s2 h2 => ?_) hs
  obtain ⟨it, fp, tn, J, H2, e, I2, T, st2, f2, W, ⟨m0, w0⟩, turn⟩ := h2
  subst e
  -- what stays true of the iterator's objects through the loop
  have stat : ∀ {H' : Hp}, (∀ b ∈ fp, H' b = none) → ∀ b ∈ fp, FpOk X pins H' b := fun hn b hb => ⟨hn b hb, (f2 b hb).2⟩
  refine codeAny_forLoop_any (fun n s' => ∃ i σ' H', Inv X pins σ' H' s' ∧ tn i s'.heap ∧ (∀ b ∈ fp, H' b = none) ∧ W i n σ' H') ?_ m0 ⟨0, σ, H2, I2, st2, fun b hb => (f2 b hb).1, w0⟩
  rintro n s3 ⟨i, σ3, H3, I3, st3, fr3, w3⟩
  rcases turn i n σ3 H3 w3 with ⟨stop, qn⟩ | ⟨go, N, hN, step⟩
  · refine wpAny_passesOwn hp (thn (T.done X rfl rfl rfl hc i pins s3 σ3 H3 X.xe I3 (stat fr3) st3 stop) fun r s4 ⟨hr, I4⟩ => ?_)
    subst hr
    exact wpAny_execs_nil ⟨σ3, H3, I4, qn⟩
  · refine wpAny_passesOwn hp (thn (T.item X rfl rfl rfl hc i pins s3 σ3 H3 X.xe I3 (stat fr3) st3 go) fun r s4 ⟨u, hr, h4⟩ => ?_)
    subst hr
    refine wpAny_passesOwn hp (thn h4 fun _ s5 ⟨x, H5, I5, r5, y5, st5, fr5⟩ => ?_)
    have I5' := I5.pinned (stat fr5) (T.obj _ _ st5)
    refine wpAny_passesOwn hp (thn (hg _ s5 σ3 H5 x u _ I5' r5 (step x H5 y5)) fun _ s6 ⟨σ6, H6, I6, q6⟩ => ?_)
    refine wpAny_passesOwn hp (thn (hb _ s6 σ6 H6 _ I6 q6) fun f s7 q7 => ?_)
    have again : ∀ {σ7 : St} {H7 : Hp}, Inv X (pins ++ pinsAt fp s5.heap) σ7 H7 s7 → N σ7 H7 → ∃ m, m < n ∧ ∃ i σ' H', Inv X pins σ' H' s7 ∧ tn i s7.heap ∧ (∀ b ∈ fp, H' b = none) ∧ W i m σ' H' := fun {σ7 H7} I7 n7 => by
      obtain ⟨m', hm, w7⟩ := hN σ7 H7 n7
      refine ⟨m', hm, i + 1, σ7, H7, I7.unpinned, T.keep _ _ _ st5 fun b hb o e => (I7.pin (b, o) (List.mem_append_right _ (List.mem_append_right _ (mem_pinsAt hb e)))).1, fun b hb => ?_, w7⟩
      obtain ⟨o, e, d⟩ := T.obj _ _ st5 b hb
      exact (I7.pin (b, o) (List.mem_append_right _ (List.mem_append_right _ (mem_pinsAt hb e)))).2.1
    cases f with
    | next => obtain ⟨σ7, H7, I7, n7⟩ := q7; exact again I7 n7
    | cont => obtain ⟨σ7, H7, I7, n7⟩ := q7; exact again I7 n7
    | brk => obtain ⟨σ7, H7, I7, q7⟩ := q7; exact ⟨σ7, H7, I7.unpinned, q7⟩
    | ret v => obtain ⟨x7, σ7, H7, I7, r7, q7⟩ := q7; exact ⟨x7, σ7, H7, I7.unpinned, r7, q7⟩
end

/-! ### the forms one uses -/
/-- over a list that the body leaves as it is -/
theorem for_list {K : PySem.W.Frag} {a : Addr} {xs : List V} {g : TG} {tb : TS} {D : Ends} {σ : St} {H : Hp} (Pv : Nat → St → Hp → Prop) (h0 : Pv 0 σ H) (hl : ∀ i σ H, i ≤ xs.length → Pv i σ H → SqL K H a xs)
    (hs : ∀ i x σ H, xs[i]? = some x → Pv i σ H → g x σ H fun σ2 H2 => tb { D with nx := Pv (i + 1), ct := Pv (i + 1), bk := D.nx } σ2 H2) (hd : ∀ σ H, Pv xs.length σ H → D.nx σ H) :
    ∃ W : Nat → Nat → St → Hp → Prop, (∃ m, W 0 m σ H) ∧ ∀ i m σ H, W i m σ H →
      ((Itl K a).stop i H ∧ D.nx σ H) ∨ ((Itl K a).go i H ∧ ∃ N : St → Hp → Prop, (∀ σ' H', N σ' H' → ∃ m', m' < m ∧ W (i + 1) m' σ' H') ∧ ∀ x H', (Itl K a).yld i H x H' → g x σ H' fun σ2 H2 => tb { D with nx := N, ct := N, bk := D.nx } σ2 H2) := by
  refine ⟨fun i m σ H => m = xs.length - i ∧ i ≤ xs.length ∧ Pv i σ H, ⟨xs.length, by simp, Nat.zero_le _, h0⟩, ?_⟩
  rintro i m σ H ⟨rfl, hi, p⟩
  have q := hl i σ H hi p
  by_cases hlt : i < xs.length
  · refine .inr ⟨⟨xs, xs[i], q, by simp [hlt]⟩, Pv (i + 1), fun σ' H' p' => ⟨xs.length - (i + 1), by omega, rfl, hlt, p'⟩, fun x H' y => ?_⟩
    obtain ⟨e, y⟩ := y
    subst e
    exact hs i x σ _ (y xs q) p
  · have e : i = xs.length := by omega
    subst e
    exact .inl ⟨⟨xs, q, Nat.le_refl _⟩, hd σ H p⟩
/-- while, by a word and a measure of the state -/
theorem while_by {c : TT} {tb : TS} {D : Ends} {σ : St} {H : Hp} (Pv : St → Hp → Prop) (μ : St → Hp → Nat) (h0 : Pv σ H)
    (hs : ∀ σ H, Pv σ H → c σ H fun b H1 => if b = true then tb { D with nx := fun σ' H' => Pv σ' H' ∧ μ σ' H' < μ σ H, ct := fun σ' H' => Pv σ' H' ∧ μ σ' H' < μ σ H, bk := D.nx } σ H1 else D.nx σ H1)
    (mono : ∀ σ H Q Q', (∀ b H1, Q b H1 → Q' b H1) → c σ H Q → c σ H Q') : tWhile c tb D σ H := by
  refine ⟨fun m σ H => m = μ σ H ∧ Pv σ H, ⟨_, rfl, h0⟩, ?_⟩
  rintro m σ H ⟨rfl, p⟩
  refine mono σ H _ _ (fun b H1 q => ?_) (hs σ H p)
  cases b with
  | true => exact ⟨_, fun σ' H' ⟨p', l⟩ => ⟨_, l, rfl, p'⟩, q⟩
  | false => exact q
end L2

namespace L2
open PySem PySem.Spec PyProof.Rows

abbrev R2 := V → V → Hp → VK → Prop
/-- a two-place operation on values: f is binaryOp op, inplaceOp op or compareOp op -/
def OpR (X : Cx) (f : Value → Value → Sem Value) (r : R2) : Prop :=
  ∀ (pins : List (Addr × Obj)) (s : Shared) (σ : St) (H : Hp) (x y : V) (v u : Value) (Q : VK), Inv X pins σ H s → RelV x v → RelV y u → r x y H Q →
    wpAny (model X.prog X.w) X.A (f v u) (EP X pins σ Q) X.xe s
/-- a one-place operation -/
def UnR (X : Cx) (f : Value → Sem Value) (r : V → Hp → VK → Prop) : Prop :=
  ∀ (pins : List (Addr × Obj)) (s : Shared) (σ : St) (H : Hp) (x : V) (v : Value) (Q : VK), Inv X pins σ H s → RelV x v → r x H Q →
    wpAny (model X.prog X.w) X.A (f v) (EP X pins σ Q) X.xe s
/-- a call of a value that is known (a builtin, a type) with values -/
def CallR (X : Cx) (f : Value) (r : List V → Hp → VK → Prop) : Prop :=
  ∀ (pins : List (Addr × Obj)) (s : Shared) (σ : St) (H : Hp) (xs : List V) (us : List Value) (Q : VK), Inv X pins σ H s → Vals xs us → r xs H Q →
    wpAny (model X.prog X.w) X.A (call f us) (EP X pins σ Q) X.xe s
def tOp (r : R2) (ta tb : TE) : TE := fun σ H Q => ta σ H fun x H1 => tb σ H1 fun y H2 => r x y H2 Q
def tUn (r : V → Hp → VK → Prop) (ta : TE) : TE := fun σ H Q => ta σ H fun x H1 => r x H1 Q
/-- ints in, under C, and a value out -/
def rI (C : Int → Int → Prop) (g : Int → Int → V) : R2 := fun x y H Q => ∃ i j, x = .int i ∧ y = .int j ∧ C i j ∧ Q (g i j) H
def rI0 (g : Int → Int → V) : R2 := fun x y H Q => ∃ i j, x = .int i ∧ y = .int j ∧ Q (g i j) H
def rU (g : Int → V) : V → Hp → VK → Prop := fun x H Q => ∃ i, x = .int i ∧ Q (g i) H

section
variable {X : Cx} {a b c : Expr} {ta tb tc : TE} {pos : Pos}

theorem binT (ha : PE X a ta) (hb : PE X b tb) {pins : List (Addr × Obj)} {s : Shared} {σ : St} {H : Hp} {R : V → V → Hp → Prop} (I : Inv X pins σ H s)
    (h : ta σ H fun x H1 => tb σ H1 fun y H2 => R x y H2) {Q : Value → Shared → Prop} {f : Value → Value → Sem Value}
    (hf : ∀ v u s2 x y H2, Inv X pins σ H2 s2 → RelV x v → RelV y u → R x y H2 → wpAny (model X.prog X.w) X.A (f v u) Q X.xe s2) :
    wpAny (model X.prog X.w) X.A (eval a X.env) (fun v s₁ => wpAny (model X.prog X.w) X.A (eval b X.env) (fun u s₂ => wpAny (model X.prog X.w) X.A (f v u) Q X.xe s₂) X.xe s₁) X.xe s := by
  refine thn (ha pins s σ H _ I h) fun v s1 ⟨x, H1, I1, r1, q1⟩ => ?_
  refine thn (hb pins s1 σ H1 _ I1 q1) fun u s2 ⟨y, H2, I2, r2, q2⟩ => ?_
  exact hf v u s2 x y H2 I2 r1 r2 q2

theorem pe_op {op : Operator} {r : R2} (ho : OpR X (binaryOp op) r) (ha : PE X a ta) (hb : PE X b tb) : PE X (.BinOp a op b pos) (tOp r ta tb) := by
  intro pins s σ H Q I h
  exact wpAny_BinOp (binT ha hb I h fun v u s2 x y H2 I2 rx ry q => ho pins s2 σ H2 x y v u Q I2 rx ry q)
theorem pe_un {op : UnaryOp} {r : V → Hp → VK → Prop} (ho : UnR X (unaryOp op) r) (ha : PE X a ta) : PE X (.UnaryOp op a pos) (tUn r ta) := by
  intro pins s σ H Q I h
  exact UnaryOp_ (thn (ha pins s σ H _ I h) fun v s1 ⟨x, H1, I1, r1, q1⟩ => ho pins s1 σ H1 x v Q I1 r1 q1)
/-! ### ints -/
theorem opI {f : Value → Value → Sem Value} {C : Int → Int → Prop} {g : Int → Int → Int}
    (rule : ∀ (i j : Int) (t u : Tok) (s : Shared) (Q : Value → Shared → Prop) (E : Value → Shared → Prop), C i j → Q (.int (g i j) s.toks) { s with toks := s.toks + 1 } → wpAny (model X.prog X.w) X.A (f (.int i t) (.int j u)) Q E s) :
    OpR X f (rI C fun i j => .int (g i j)) := by
  intro pins s σ H x y v u Q I rx ry h
  obtain ⟨i, j, rfl, rfl, hc, q⟩ := h
  obtain ⟨t, rfl⟩ := rx
  obtain ⟨t', rfl⟩ := ry
  exact rule i j t t' s _ _ hc ⟨.int (g i j), H, I.tok _, ⟨_, rfl⟩, q⟩
theorem opI0 {f : Value → Value → Sem Value} {g : Int → Int → Int}
    (rule : ∀ (i j : Int) (t u : Tok) (s : Shared) (Q : Value → Shared → Prop) (E : Value → Shared → Prop), Q (.int (g i j) s.toks) { s with toks := s.toks + 1 } → wpAny (model X.prog X.w) X.A (f (.int i t) (.int j u)) Q E s) :
    OpR X f (rI0 fun i j => .int (g i j)) := by
  intro pins s σ H x y v u Q I rx ry h
  obtain ⟨i, j, rfl, rfl, q⟩ := h
  obtain ⟨t, rfl⟩ := rx
  obtain ⟨t', rfl⟩ := ry
  exact rule i j t t' s _ _ ⟨.int (g i j), H, I.tok _, ⟨_, rfl⟩, q⟩
theorem opB0 {f : Value → Value → Sem Value} {g : Int → Int → Bool}
    (rule : ∀ (i j : Int) (t u : Tok) (s : Shared) (Q : Value → Shared → Prop) (E : Value → Shared → Prop), Q (.bool (g i j)) s → wpAny (model X.prog X.w) X.A (f (.int i t) (.int j u)) Q E s) :
    OpR X f (rI0 fun i j => .bl (g i j)) := by
  intro pins s σ H x y v u Q I rx ry h
  obtain ⟨i, j, rfl, rfl, q⟩ := h
  obtain ⟨t, rfl⟩ := rx
  obtain ⟨t', rfl⟩ := ry
  exact rule i j t t' s _ _ ⟨.bl (g i j), H, I, rfl, q⟩

def CMul (i j : Int) : Prop := (-(2 ^ 64) < i ∧ i < 2 ^ 64) ∨ (-(2 ^ 64) < j ∧ j < 2 ^ 64)
theorem CMul.ok {i j : Int} (h : CMul i j) : IntMulOk i j := by
  rcases h with ⟨h1, h2⟩ | ⟨h1, h2⟩
  · exact .of_left (intBits_le_64 h1 h2)
  · exact .of_right (intBits_le_64 h1 h2)
theorem op_add : OpR X (binaryOp .Add) (rI0 fun i j => .int (i + j)) := opI0 fun _ _ _ _ _ _ _ q => add_int q
theorem op_sub : OpR X (binaryOp .Sub) (rI0 fun i j => .int (i - j)) := opI0 fun _ _ _ _ _ _ _ q => sub_int q
theorem op_mul : OpR X (binaryOp .Mult) (rI CMul fun i j => .int (i * j)) := opI fun _ _ _ _ _ _ _ hc q => mul_int q hc.ok
theorem unI {f : Value → Sem Value} {g : Int → Int}
    (rule : ∀ (i : Int) (t : Tok) (s : Shared) (Q : Value → Shared → Prop) (E : Value → Shared → Prop), Q (.int (g i) s.toks) { s with toks := s.toks + 1 } → wpAny (model X.prog X.w) X.A (f (.int i t)) Q E s) :
    UnR X f (rU fun i => .int (g i)) := by
  intro pins s σ H x v Q I rx h
  obtain ⟨i, rfl, q⟩ := h
  obtain ⟨t, rfl⟩ := rx
  exact rule i t s _ _ ⟨.int (g i), H, I.tok _, ⟨_, rfl⟩, q⟩
theorem un_neg : UnR X (unaryOp .USub) (rU fun i => .int (-i)) := unI fun _ _ _ _ _ q => neg_int q
/-! ### bools among ints: n += (a < b) -/
end

/-! ### comparisons -/
/-- the scalars that == tells apart as data does -/
def scal : V → V → Bool
  | .non, .non => true | .non, .int _ => true | .int _, .non => true | .non, .bl _ => true | .bl _, .non => true | .non, .str _ => true | .str _, .non => true
  | .int _, .int _ => true | .bl _, .bl _ => true | .str _, .str _ => true | .byt _, .byt _ => true
  | .int _, .str _ => true | .str _, .int _ => true | .bl _, .str _ => true | .str _, .bl _ => true
  | _, _ => false
def rEq : R2 := fun x y H Q => scal x y = true ∧ Q (.bl (decide (x = y))) H
def rNe : R2 := fun x y H Q => scal x y = true ∧ Q (.bl (!decide (x = y))) H

theorem dec_int {i j : Int} : decide (V.int i = V.int j) = (i == j) := by
  rw [Bool.eq_iff_iff]
  simp
theorem dec_bl {i j : Bool} : decide (V.bl i = V.bl j) = (i == j) := by
  rw [Bool.eq_iff_iff]
  simp
theorem dec_str {i j : Str} : decide (V.str i = V.str j) = (i == j) := by
  rw [Bool.eq_iff_iff]
  simp
theorem dec_byt {i j : Array UInt8} : decide (V.byt i = V.byt j) = (i.toList == j.toList) := by
  rw [Bool.eq_iff_iff]
  cases i
  cases j
  simp

section
variable {X : Cx} {a b c : Expr} {ta tb tc : TE} {pos : Pos}
theorem fin_bl {pins : List (Addr × Obj)} {σ : St} {H : Hp} {s : Shared} {Q : VK} {k k' : Bool} (I : Inv X pins σ H s) (q : Q (.bl k) H) (e : k = k') : EP X pins σ Q (.bool k') s := by
  subst e
  exact ⟨.bl k, H, I, rfl, q⟩
theorem op_eq : OpR X (compareOp .Eq) rEq := by
  intro pins s σ H x y v u Q I rx ry h
  obtain ⟨hs, q⟩ := h
  cases x with
  | non =>
    cases rx
    cases y with
    | non => cases ry; exact PySem.EqNone.eq_none_none (fin_bl I q (by simp))
    | bl j => cases ry; exact PySem.EqNone.eq_none_bool (fin_bl I q (by simp))
    | int j => obtain ⟨t', rfl⟩ := ry; exact PySem.EqNone.eq_none_int (fin_bl I q (by simp))
    | str j => obtain ⟨t', rfl⟩ := ry; exact PySem.EqNone.eq_none_str (fin_bl I q (by simp))
    | _ => exact absurd (show false = true from hs) Bool.false_ne_true
  | bl i =>
    cases rx
    cases y with
    | non => cases ry; exact PySem.EqNone.eq_bool_none (fin_bl I q (by simp))
    | bl j => cases ry; exact eq_bool (fin_bl I q dec_bl)
    | str j => obtain ⟨t', rfl⟩ := ry; exact PySem.EqMixed.eq_bool_str (fin_bl I q (by simp))
    | _ => exact absurd (show false = true from hs) Bool.false_ne_true
  | int i =>
    obtain ⟨t, rfl⟩ := rx
    cases y with
    | non => cases ry; exact PySem.EqNone.eq_int_none (fin_bl I q (by simp))
    | int j => obtain ⟨t', rfl⟩ := ry; exact eq_int (fin_bl I q dec_int)
    | str j => obtain ⟨t', rfl⟩ := ry; exact PySem.EqMixed.eq_int_str (fin_bl I q (by simp))
    | _ => exact absurd (show false = true from hs) Bool.false_ne_true
  | str i =>
    obtain ⟨t, rfl⟩ := rx
    cases y with
    | non => cases ry; exact PySem.EqNone.eq_str_none (fin_bl I q (by simp))
    | bl j => cases ry; exact PySem.EqMixed.eq_str_bool (fin_bl I q (by simp))
    | int j => obtain ⟨t', rfl⟩ := ry; exact PySem.EqMixed.eq_str_int (fin_bl I q (by simp))
    | str j => obtain ⟨t', rfl⟩ := ry; exact eq_str (fin_bl I q dec_str)
    | _ => exact absurd (show false = true from hs) Bool.false_ne_true
  | byt i =>
    obtain ⟨t, rfl⟩ := rx
    cases y with
    | byt j => obtain ⟨t', rfl⟩ := ry; exact PySem.W.eq_bytes (fin_bl I q dec_byt)
    | _ => exact absurd (show false = true from hs) Bool.false_ne_true
  | _ => cases y <;> exact absurd (show false = true from hs) Bool.false_ne_true
theorem op_ne : OpR X (compareOp .NotEq) rNe := by
  intro pins s σ H x y v u Q I rx ry h
  obtain ⟨hs, q⟩ := h
  cases x with
  | non =>
    cases rx
    cases y with
    | non => cases ry; exact PySem.EqNone.ne_none_none (fin_bl I q (by simp))
    | bl j => cases ry; exact PySem.EqNone.ne_none_bool (fin_bl I q (by simp))
    | int j => obtain ⟨t', rfl⟩ := ry; exact PySem.EqNone.ne_none_int (fin_bl I q (by simp))
    | str j => obtain ⟨t', rfl⟩ := ry; exact PySem.EqNone.ne_none_str (fin_bl I q (by simp))
    | _ => exact absurd (show false = true from hs) Bool.false_ne_true
  | bl i =>
    cases rx
    cases y with
    | non => cases ry; exact PySem.EqNone.ne_bool_none (fin_bl I q (by simp))
    | bl j => cases ry; exact ne_bool (fin_bl I q (congrArg not dec_bl))
    | str j => obtain ⟨t', rfl⟩ := ry; exact PySem.EqMixed.ne_bool_str (fin_bl I q (by simp))
    | _ => exact absurd (show false = true from hs) Bool.false_ne_true
  | int i =>
    obtain ⟨t, rfl⟩ := rx
    cases y with
    | non => cases ry; exact PySem.EqNone.ne_int_none (fin_bl I q (by simp))
    | int j => obtain ⟨t', rfl⟩ := ry; exact ne_int (fin_bl I q (congrArg not dec_int))
    | str j => obtain ⟨t', rfl⟩ := ry; exact PySem.EqMixed.ne_int_str (fin_bl I q (by simp))
    | _ => exact absurd (show false = true from hs) Bool.false_ne_true
  | str i =>
    obtain ⟨t, rfl⟩ := rx
    cases y with
    | non => cases ry; exact PySem.EqNone.ne_str_none (fin_bl I q (by simp))
    | bl j => cases ry; exact PySem.EqMixed.ne_str_bool (fin_bl I q (by simp))
    | int j => obtain ⟨t', rfl⟩ := ry; exact PySem.EqMixed.ne_str_int (fin_bl I q (by simp))
    | str j => obtain ⟨t', rfl⟩ := ry; exact ne_str (fin_bl I q (congrArg not dec_str))
    | _ => exact absurd (show false = true from hs) Bool.false_ne_true
  | byt i =>
    obtain ⟨t, rfl⟩ := rx
    cases y with
    | byt j => obtain ⟨t', rfl⟩ := ry; exact PySem.W.ne_bytes (fin_bl I q (congrArg not dec_byt))
    | _ => exact absurd (show false = true from hs) Bool.false_ne_true
  | _ => cases y <;> exact absurd (show false = true from hs) Bool.false_ne_true

theorem op_lt : OpR X (compareOp .Lt) (rI0 fun i j => .bl (decide (i < j))) := opB0 fun _ _ _ _ _ _ _ q => lt_int q
theorem op_le : OpR X (compareOp .LtE) (rI0 fun i j => .bl (decide (i ≤ j))) := opB0 fun _ _ _ _ _ _ _ q => le_int q
theorem op_gt : OpR X (compareOp .Gt) (rI0 fun i j => .bl (decide (j < i))) := opB0 fun _ _ _ _ _ _ _ q => gt_int q
theorem op_ge : OpR X (compareOp .GtE) (rI0 fun i j => .bl (decide (j ≤ i))) := opB0 fun _ _ _ _ _ _ _ q => ge_int q
/-- is None, is not None: the right side a value none -/
theorem op_isN : OpR X (compareOp .Is) (fun x y H Q => y = .non ∧ Q (.bl (decide (x = .non))) H) := by
  intro pins s σ H x y v u Q I rx ry h
  obtain ⟨rfl, q⟩ := h
  cases ry
  refine is_none_gen (fin_bl I q ?_)
  cases x <;> first
    | (cases rx; rfl)
    | (obtain ⟨t, rfl⟩ := rx; rfl)
theorem op_notN : OpR X (compareOp .IsNot) (fun x y H Q => y = .non ∧ Q (.bl (!decide (x = .non))) H) := by
  intro pins s σ H x y v u Q I rx ry h
  obtain ⟨rfl, q⟩ := h
  cases ry
  refine isnot_none_gen (fin_bl I q ?_)
  cases x <;> first
    | (cases rx; rfl)
    | (obtain ⟨t, rfl⟩ := rx; rfl)

theorem nomark (b : Expr) {op : CmpOp} (h : op ≠ .In := by decide) (h2 : op ≠ .NotIn := by decide) : behindInMarks op b = false := by
  have e1 : (op == CmpOp.In) = false := by cases op <;> first | rfl | exact absurd rfl h
  have e2 : (op == CmpOp.NotIn) = false := by cases op <;> first | rfl | exact absurd rfl h2
  cases b <;> simp [behindInMarks, e1, e2]
/-- a comparison as a value; hm: nomark b, or (for in, not in) by with_unfolding_all rfl -/
theorem pe_cmpR {op : CmpOp} {r : R2} (ho : OpR X (compareOp op) r) (ha : PE X a ta) (hb : PE X b tb) (hm : behindInMarks op b = false) : PE X (.Compare a [op] [b] pos) (tOp r ta tb) := by
  intro pins s σ H Q I h
  exact wpAny_Compare1 (binT ha hb I h fun v u s2 x y H2 I2 rx ry q => ho pins s2 σ H2 x y v u Q I2 rx ry q) hm
/-- a reading of a value as a test -/
def tTest (t : TE) : TT := fun σ H Q => t σ H fun x H' => ∃ k, x = .bl k ∧ Q k H'
theorem pt_cmpR {op : CmpOp} {r : R2} (ho : OpR X (compareOp op) r) (ha : PE X a ta) (hb : PE X b tb) (hm : behindInMarks op b = false) : PT X (.Compare a [op] [b] pos) (tTest (tOp r ta tb)) := by
  intro pins s σ H Q I h
  refine wpAny_isTrue_Compare1 (thn (ha pins s σ H _ I h) fun v s1 ⟨x, H1, I1, r1, q1⟩ => thn (hb pins s1 σ H1 _ I1 q1) fun u s2 ⟨y, H2, I2, r2, q2⟩ =>
    thn (ho pins s2 σ H2 x y v u _ I2 r1 r2 q2) fun c s3 ⟨z, H3, I3, r3, k, e, q3⟩ => ?_) hm
  subst e
  cases r3
  exact wpAny_truthy_bool ⟨H3, I3, q3⟩
/-- a op1 b op2 c -/
def tChain (r r' : R2) (ta tb tc : TE) : TE := fun σ H Q => ta σ H fun x H1 => tb σ H1 fun y H2 => r x y H2 fun z H3 => ∃ k, z = .bl k ∧
  (if k = true then tc σ H3 fun w' H4 => r' y w' H4 Q else Q (.bl false) H3)
theorem pe_chain {op op' : CmpOp} {r r' : R2} (ho : OpR X (compareOp op) r) (ho' : OpR X (compareOp op') r') (ha : PE X a ta) (hb : PE X b tb) (hc : PE X c tc)
    (hm : lastMarks [op, op'] [b, c] = false := by with_unfolding_all rfl) : PE X (.Compare a [op, op'] [b, c] pos) (tChain r r' ta tb tc) := by
  intro pins s σ H Q I h
  refine Compare_chain (thn (ha pins s σ H _ I h) fun v s1 ⟨x, H1, I1, r1, q1⟩ => chain_link (thn (hb pins s1 σ H1 _ I1 q1) fun u s2 ⟨y, H2, I2, r2, q2⟩ =>
    thn (ho pins s2 σ H2 x y v u _ I2 r1 r2 q2) fun d s3 ⟨z, H3, I3, r3, k, e, q3⟩ => ?_)) hm
  subst e
  cases r3
  refine wpAny_truthy_bool ?_
  cases k with
  | false => exact ite_ff ⟨.bl false, H3, I3, rfl, q3⟩
  | true => exact ite_tt (chain_last (thn (hc pins s3 σ H3 _ I3 q3) fun w' s4 ⟨z', H4, I4, r4, q4⟩ => ho' pins s4 σ H4 y z' u w' Q I4 r2 r4 q4))
/-! ### truth -/
theorem line63 : (sizeLine : Nat) < 2 ^ 63 := by rw [sizeLine_eq]; decide
/-! ### strs and bytes -/
/-! ### scalar builtins, by CallR -/
theorem vals1 {x : V} {us : List Value} (r : Vals [x] us) : ∃ u, us = [u] ∧ RelV x u := by
  cases r with
  | cons r1 r2 => cases r2; exact ⟨_, rfl, r1⟩
end
end L2

namespace L2
open PySem PySem.Spec PyProof.Rows

/-! ### an instance, its attributes a map -/
structure ObjM (h : Heap) (x dx C : Addr) (mA : Str → Option Value) : Prop where
  obj : h.get? x = some (PySem.W.instObj C dx)
  ns : h.Ns1 dx mA
  ne : dx ≠ x

theorem lookIn_ns {h : Heap} {dx : Addr} {mA : Str → Option Value} (n : h.Ns1 dx mA) : ∃ od, h.get? dx = some od ∧ ∀ name, PySem.W.lookIn name od = some (mA name) := by
  obtain ⟨o, es, ep, ho, hd, hk, _, hm⟩ := n
  refine ⟨o, ho, fun name => ?_⟩
  have e := hm name
  unfold nsFind findBy at e
  rw [← Array.find?_toList] at e
  unfold PySem.W.lookIn
  rw [hd]
  dsimp only
  split
  · rename_i y q
    rw [q] at e
    exact congrArg some e
  · rename_i q
    rw [q] at e
    have a : es.toList.any (·.refKey) = false := by
      rw [List.any_eq_false]
      intro y hy
      obtain ⟨z, t, hkey⟩ := hk y (Array.mem_toList_iff.mp hy)
      simp [DictEntry.refKey, hkey]
    have a' : ¬ es.toList.any (·.refKey) = true := by rw [a]; exact Bool.false_ne_true
    rw [if_neg a']
    exact congrArg some e

theorem ObjM.look {h : Heap} {x dx C : Addr} {mA : Str → Option Value} (I : ObjM h x dx C mA) : ∃ od, PySem.W.InstAt h x (PySem.W.instObj C dx) C (some od) ∧ ∀ name, PySem.W.lookIn name od = some (mA name) :=
  let ⟨od, ho, hl⟩ := lookIn_ns I.ns
  ⟨od, ⟨I.obj, rfl, rfl, ho⟩, hl⟩

section
variable {prog : Program} {w : World} {A : Around} {E : Value → Shared → Prop} {s : Shared} {K : PySem.W.Frag} {x dx C f : Addr} {mA : Str → Option Value} {name : Str} {v : Value}

theorem get_map {expr : Bool} {Q : Value → Shared → Prop} (X : K.In s.heap) (I : ObjM s.heap x dx C mA) (hg : PySem.W.plainGet K C name = true) (hh : PySem.W.hasDictIn K C = true)
    (ha : PySem.W.findIn K (.ref C) name = some none) (hv : mA name = some v) (hv' : PySem.W.handedIn v = true) (h : Q v { s with toks := s.toks + 1 }) :
    wpAny (model prog w) A (getAttr (.ref x) name expr) Q E s := by
  obtain ⟨od, J, hl⟩ := I.look
  exact PySem.W.get_value X J (PySem.W.plainGet_of hg).1 (PySem.W.findObj_own hh ha rfl (by rw [hl, hv])) hv' h

theorem get_meth {pl : Sem Bool} {Q : Value × List Value → Shared → Prop} (X : K.In s.heap) (I : ObjM s.heap x dx C mA) (hg : PySem.W.plainGet K C name = true)
    (hf : PySem.W.findIn K (.ref C) name = some (some (.ref f))) (ht : PySem.W.isFn K (.ref f) = true) (hv : mA name = none) (h : Q (.ref f, [.ref x]) s) :
    wpAny (model prog w) A (getMethod (.ref x) name pl) Q E s := by
  obtain ⟨od, J, hl⟩ := I.look
  exact PySem.W.method_fn X J (PySem.W.plainGet_of hg).1 (PySem.W.plainGet_of hg).2 hf (beq_iff_eq.mp ht) (by show (PySem.W.lookIn name od).map (·.isSome) = some false; rw [hl, hv]; rfl) h

theorem set_map {ns : List Str} {Q : Unit → Shared → Prop} (X : K.In s.heap) (I : ObjM s.heap x dx C mA)
    (hs : PySem.W.findIn K (.ref C) "__setattr__" = some (some (.builtin "object.__setattr__"))) (hp : PySem.W.plainOver K C = true) (ht : PySem.W.takerIn K C name = some none) (hh : PySem.W.hasDictIn K C = true)
    (hw : PySem.Within mA ns) (hsz : ns.length ≤ sizeLine)
    (h : ∀ h', ObjM h' x dx C (fun y => if y = name then some v else mA y) → Heap.SameBut dx s.heap h' → Q () { s with heap := h', toks := s.toks + 2 }) :
    wpAny (model prog w) A (setAttr (.ref x) name v) Q E s := by
  obtain ⟨od, J, hl⟩ := I.look
  refine PySem.W.set_plain X J hs (PySem.W.osa_open (s := { s with toks := s.toks + 1 }) (r := none) X J hp ht fun b => ?_)
  obtain ⟨cd, hc, hd'⟩ := PySem.W.any_some hh
  have hx : s.heap.get? x = some ⟨.ref C, some dx, .plain, #[]⟩ := I.obj
  refine wpAny_bind (wpAny_pure (wpAny_bind (wpAny_bind (wpAny_loadPart hx (wpAny_bind (PySem.W.Looks.here (s := { s with toks := s.toks + 1 }) (PySem.W.looks_clsIn X hc) ?_))))))
  rw [hd']
  refine wpAny_pure (a := some dx) (wpAny_bind (wpAny_pure (wpAny_bind ?_)))
  refine wpAny_nsSet1 (s := { s with toks := s.toks + 1 }) I.ns fun h' hn2 hs2 => ?_
  obtain ⟨oD, esD, epD, hoD, hdD, hcD⟩ := hn2.count (PySem.Within.cons name v hw)
  refine wpAny_bind (wpAny_lookBehind hoD (by rw [hdD]; exact pastItsLine_dict (Nat.le_trans hcD (by rw [List.length_cons]; omega))) ?_)
  exact wpAny_pure (h _ ⟨(hs2.2 _ (Ne.symm I.ne)).trans I.obj, hn2, I.ne⟩ hs2)

/-- C(..): the dict at the heap's end, the instance behind it; then its __init__ -/
theorem make_map {R : Result → Shared → Prop} {vs : List Value} {kw : List (Str × Value)} (X : K.In s.heap) (hm : PySem.W.makesIn K C = true)
    (hi : PySem.W.findIn K (.ref C) "__init__" = some (some (.ref f))) (hf : PySem.W.typeIn K (.ref f) = some (.type "function"))
    (h : codeAny (model prog w) (A.under (.builtin "type.__call__" ⟨.ref C :: vs, kw⟩)) (.call (.ref f) ⟨.ref (s.heap.objs.size + 1) :: vs, kw⟩) (PySem.W.InitBack (s.heap.objs.size + 1) R)
      { s with heap := (s.heap.push PySem.W.emptyDict).push (PySem.W.instObj C s.heap.objs.size) }) :
    codeAny (model prog w) A (.call (.ref C) ⟨vs, kw⟩) R s := by
  obtain ⟨hh, g, d, t, os⟩ := s
  exact PySem.W.make_core (PySem.W.makes_of X hm) (PySem.W.looks_findIn X hi) (fun self => PySem.W.bind_fn X self hf) (.inl rfl) h
end

/-! ### the attributes as a list of pairs -/
def putF (f : Str) (v : V) : List (Str × V) → List (Str × V)
  | [] => [(f, v)]
  | (g, x) :: r => if g = f then (g, v) :: r else (g, x) :: putF f v r
theorem lookup_putF (f g : Str) (v : V) : ∀ fs : List (Str × V), (putF f v fs).lookup g = if g = f then some v else fs.lookup g
  | [] => by
    show List.lookup g [(f, v)] = _
    by_cases h : g = f
    · have hb : (g == f) = true := beq_iff_eq.mpr h
      simp only [List.lookup, hb, if_pos h]
    · have hb : (g == f) = false := beq_eq_false_iff_ne.mpr h
      simp only [List.lookup, hb, if_neg h]
  | (k, x) :: r => by
    have ih := lookup_putF f g v r
    rw [show putF f v ((k, x) :: r) = (if k = f then (k, v) :: r else (k, x) :: putF f v r) from rfl]
    by_cases hk : k = f
    · rw [if_pos hk]
      by_cases h : g = k
      · have hb : (g == k) = true := beq_iff_eq.mpr h
        simp only [List.lookup, hb, if_pos (h.trans hk)]
      · have hb : (g == k) = false := beq_eq_false_iff_ne.mpr h
        simp only [List.lookup, hb, if_neg (fun e : g = f => h (e.trans hk.symm))]
    · rw [if_neg hk]
      by_cases h : g = k
      · have hb : (g == k) = true := beq_iff_eq.mpr h
        simp only [List.lookup, hb, if_neg (fun e : g = f => hk (h.symm.trans e))]
      · have hb : (g == k) = false := beq_eq_false_iff_ne.mpr h
        simp only [List.lookup, hb]
        exact ih
theorem keys_putF (f : Str) (v : V) : ∀ fs : List (Str × V), f ∈ (putF f v fs).map (·.1) ∧ ∀ g, g ∈ fs.map (·.1) → g ∈ (putF f v fs).map (·.1)
  | [] => ⟨by simp [putF], fun g h => by simp at h⟩
  | (k, x) :: r => by
    obtain ⟨i1, i2⟩ := keys_putF f v r
    rw [show putF f v ((k, x) :: r) = (if k = f then (k, v) :: r else (k, x) :: putF f v r) from rfl]
    by_cases hk : k = f
    · rw [if_pos hk]
      subst hk
      exact ⟨by simp, fun g h => by simpa using h⟩
    · rw [if_neg hk]
      refine ⟨?_, fun g h => ?_⟩
      · rw [List.map_cons]
        exact List.mem_cons_of_mem _ i1
      · rw [List.map_cons] at h ⊢
        rcases List.mem_cons.mp h with e | e
        · exact List.mem_cons.mpr (.inl e)
        · exact List.mem_cons_of_mem _ (i2 g e)
theorem length_putF (f : Str) (v : V) : ∀ fs : List (Str × V), (putF f v fs).length ≤ fs.length + 1
  | [] => by simp [putF]
  | (k, x) :: r => by
    have ih := length_putF f v r
    rw [show putF f v ((k, x) :: r) = (if k = f then (k, v) :: r else (k, x) :: putF f v r) from rfl]
    by_cases hk : k = f
    · rw [if_pos hk, List.length_cons, List.length_cons]; omega
    · rw [if_neg hk, List.length_cons, List.length_cons]; omega

theorem RelO.some_of {v : V} {o : Option Value} (r : RelO (some v) o) : ∃ u, o = some u ∧ RelV v u := by
  cases o with
  | none => exact (show False from r).elim
  | some u => exact ⟨u, rfl, r⟩
theorem RelO.none_of {o : Option Value} (r : RelO none o) : o = none := by
  cases o with
  | none => rfl
  | some u => exact (show False from r).elim
theorem handed_of {v : V} {u : Value} (r : RelV v u) : PySem.W.handedIn u = true := by
  cases v with
  | non => cases (show u = Value.none from r); rfl
  | bl b => cases (show u = Value.bool b from r); rfl
  | int i => obtain ⟨t, e⟩ := (show ∃ t, u = Value.int i t from r); cases e; rfl
  | str x => obtain ⟨t, e⟩ := (show ∃ t, u = Value.str x t from r); cases e; rfl
  | byt b => obtain ⟨t, e⟩ := (show ∃ t, u = Value.bytes b t from r); cases e; rfl
  | flt b => obtain ⟨t, e⟩ := (show ∃ t, u = Value.float b t from r); cases e; rfl
  | ref a => cases (show u = Value.ref a from r); rfl
  | ty n => cases (show u = Value.type n from r); rfl

section
variable {P : Program} {w : World} {H H' : Hp} {h h' : Heap} {a C dx : Addr} {fs fs' : List (Str × V)}
theorem ins_get (hok : HOk P w H h) (e : H a = some (.ins C dx fs)) : ∃ mA, ObjM h a dx C mA ∧ (∀ f, RelO (fs.lookup f) (mA f)) ∧ PySem.Within mA (fs.map (·.1)) ∧ fs.length ≤ 1000 ∧ H dx = some (.own a) := by
  obtain ⟨d, z, ne, ob, mA, n, r, q⟩ := (show ObjOk P w H h a (.ins C dx fs) from hok a _ e)
  exact ⟨mA, ⟨ob, n, ne⟩, r, q, z, d⟩
end

/-! ### what of the text a class must have -/
structure Cls (K : PySem.W.Frag) (C : Addr) : Prop where
  pg : PySem.W.plainGet K C Str.empty = true
  hd : PySem.W.hasDictIn K C = true
  po : PySem.W.plainOver K C = true
  sa : PySem.W.findIn K (.ref C) "__setattr__" = some (some (.builtin "object.__setattr__"))
theorem Cls.get {K : PySem.W.Frag} {C : Addr} (c : Cls K C) (f : Str) : PySem.W.plainGet K C f = true := c.pg
/-- no class of it has the name -/
def NoAttr (K : PySem.W.Frag) (C : Addr) (f : Str) : Prop := PySem.W.findIn K (.ref C) f = some none
theorem NoAttr.taker {K : PySem.W.Frag} {C : Addr} {f : Str} (n : NoAttr K C f) : PySem.W.takerIn K C f = some none := by
  unfold PySem.W.takerIn
  rw [show PySem.W.findIn K (.ref C) f = some none from n]
  rfl
/-- a constant of the class -/
structure Con (K : PySem.W.Frag) (C : Addr) (f : Str) (v : V) (u : Value) : Prop where
  at_ : PySem.W.findIn K (.ref C) f = some (some u)
  rel : RelV v u
  get : PySem.W.specialIn K u "__get__" = some none
  cp : PySem.W.copiedNames.contains f = false
/-- a method: a plain def of the class or of one above it -/
structure Meth (K : PySem.W.Frag) (C : Addr) (m : Str) (f : Addr) : Prop where
  at_ : PySem.W.findIn K (.ref C) m = some (some (.ref f))
  fn : PySem.W.isFn K (.ref f) = true
  kp : PySem.W.keepIn K (.ref f) = true

section
variable {X : Cx} {pins : List (Addr × Obj)} {σ : St} {H : Hp} {s : Shared} {a C dx : Addr} {fs : List (Str × V)} {f : Str} {v : V} {A : Around} {E : Value → Shared → Prop}

theorem getattr_ok {b : Bool} {Q : Value → Shared → Prop} (I : Inv X pins σ H s) (e : H a = some (.ins C dx fs)) (c : Cls X.K C) (n : NoAttr X.K C f) (l : fs.lookup f = some v)
    (h : ∀ u s', Inv X pins σ H s' → RelV v u → Q u s') : wpAny (model X.prog X.w) A (getAttr (.ref a) f b) Q E s := by
  obtain ⟨mA, O, r, _, _, _⟩ := ins_get I.hok e
  obtain ⟨u, hu, ru⟩ := RelO.some_of (v := v) (o := mA f) (by rw [← l]; exact r f)
  exact get_map I.kIn O (c.get f) c.hd n hu (handed_of ru) (h u _ (I.tok _) ru)

theorem getmeth_ok {m : Str} {g : Addr} {pl : Sem Bool} {Q : Value × List Value → Shared → Prop} (I : Inv X pins σ H s) (e : H a = some (.ins C dx fs)) (c : Cls X.K C) (k : Meth X.K C m g) (l : fs.lookup m = none)
    (h : Q (.ref g, [.ref a]) s) : wpAny (model X.prog X.w) A (getMethod (.ref a) m pl) Q E s := by
  obtain ⟨mA, O, r, _, _, _⟩ := ins_get I.hok e
  have hn : mA m = none := RelO.none_of (by rw [← l]; exact r m)
  exact get_meth I.kIn O (c.get m) k.at_ k.fn hn h

theorem setattr_ok {y : V} {u : Value} {Q : Unit → Shared → Prop} (I : Inv X pins σ H s) (e : H a = some (.ins C dx fs)) (c : Cls X.K C) (n : NoAttr X.K C f) (hl : fs.length < 1000) (ry : RelV y u)
    (h : ∀ s', Inv X pins σ (upd H a (.ins C dx (putF f y fs))) s' → Q () s') : wpAny (model X.prog X.w) A (setAttr (.ref a) f u) Q E s := by
  obtain ⟨mA, O, r, wi, _, ho⟩ := ins_get I.hok e
  have hz : (fs.map (·.1)).length ≤ sizeLine := by rw [List.length_map, sizeLine_eq]; omega
  refine set_map I.kIn O c.sa c.po n.taker c.hd wi hz fun h' O' sb => h _ ?_
  have hd : ∃ o, h'.get? dx = some o := let ⟨o, _, _, e', _⟩ := O'.ns; ⟨o, e'⟩
  refine I.write (x := a) (e := dx) (by rw [e]; exact True.intro) (.inr ho) (fun b q hb z => (sb.2 b hb).trans z) hd ?_
  refine ⟨by rw [upd_ne O.ne]; exact ho, ?_, O.ne, O'.obj, _, O'.ns, fun g => ?_, fun g hg => ?_⟩
  · have := length_putF f y fs; omega
  · show RelO ((putF f y fs).lookup g) (if g = f then some u else mA g)
    rw [lookup_putF]
    by_cases q : g = f
    · rw [if_pos q, if_pos q]; exact ry
    · rw [if_neg q, if_neg q]; exact r g
  · by_cases q : g = f
    · rw [q]; exact (keys_putF f y fs).1
    · refine (keys_putF f y fs).2 g (wi g fun z => hg ?_)
      show (if g = f then some u else mA g) = none
      rw [if_neg q]; exact z

/-- a new instance, tracked, without attributes -/
theorem Inv.made (I : Inv X pins σ H s) : Inv X pins σ (upd (upd H s.heap.objs.size (.own (s.heap.objs.size + 1))) (s.heap.objs.size + 1) (.ins C s.heap.objs.size []))
    { s with heap := (s.heap.push PySem.W.emptyDict).push (PySem.W.instObj C s.heap.objs.size) } := by
  have e1 : (s.heap.push PySem.W.emptyDict).get? s.heap.objs.size = some PySem.W.emptyDict := Heap.get?_push_size s.heap rfl
  have e2 : ((s.heap.push PySem.W.emptyDict).push (PySem.W.instObj C s.heap.objs.size)).get? (s.heap.objs.size + 1) = some (PySem.W.instObj C s.heap.objs.size) := by
    have := Heap.get?_push_size (s.heap.push PySem.W.emptyDict) (o := PySem.W.instObj C s.heap.objs.size) rfl
    rwa [Heap.size_push] at this
  have e3 : (s.heap.push PySem.W.emptyDict).Ns s.heap.objs.size (fun _ => none) := ⟨PySem.W.emptyDict, #[], _, e1, rfl, (fun e he => absurd he (by simp)), fun _ => rfl⟩
  have I1 := I.laid (a := s.heap.objs.size) (o := .own (s.heap.objs.size + 1)) (h' := s.heap.push PySem.W.emptyDict) (t' := s.toks) (fun b u q => Heap.get?_push_of_some _ q) (Nat.le_refl _) ⟨_, e1⟩
  refine I1.laid (a := s.heap.objs.size + 1) (o := .ins C s.heap.objs.size []) (t' := s.toks) (fun b u q => Heap.get?_push_of_some _ q) (Nat.le_of_eq (Heap.size_push _ _)) ?_
  have ne : s.heap.objs.size ≠ s.heap.objs.size + 1 := Nat.ne_of_lt (Nat.lt_succ_self _)
  refine ⟨by rw [upd_ne ne, upd_same], Nat.zero_le _, ne, e2, fun _ => none, (Heap.Ns1.of_empty e3).at fun o q => Heap.get?_push_of_some _ q, fun _ => True.intro, fun y hy => absurd rfl hy⟩

/-- e.f where nothing but the object is asked: through attributeBase (super) and the last hold -/
theorem attr_of {prog : Program} {w : World} {env : Env} {e : Expr} {f : Str} {pos : Pos} {s : Shared} {Q : Value → Shared → Prop} (hb : attributeBase e f env (eval e env) = eval e env)
    (h : wpAny (model prog w) A (eval e env) (fun o s₁ => wpAny (model prog w) A (getAttr o f true) Q E s₁) E s) : wpAny (model prog w) A (eval (.Attribute e f pos) env) Q E s :=
  Attribute_any_ h (by rw [arm_eval_Attribute, hb])
end

/-! ### readings and rules -/
/-- e.f, an attribute of the instance -/
def tFld (K : PySem.W.Frag) (ta : TE) (f : Str) : TE := fun σ H Q => ta σ H fun x H1 => ∃ a C dx fs v, x = .ref a ∧ H1 a = some (.ins C dx fs) ∧ Cls K C ∧ NoAttr K C f ∧ fs.lookup f = some v ∧ Q v H1
/-- e.f = value -/
def sFld (K : PySem.W.Frag) (ta tv : TE) (f : Str) : TS := fun D σ H => tv σ H fun y H1 => ta σ H1 fun x H2 => ∃ a C dx fs, x = .ref a ∧ H2 a = some (.ins C dx fs) ∧ Cls K C ∧ NoAttr K C f ∧ fs.length < 1000 ∧
  D.nx σ (upd H2 a (.ins C dx (putF f y fs)))
section
variable {X : Cx} {o e value : Expr} {f : Str} {pos pos' tpos : Pos} {ta tv : TE}
theorem pe_fld (he : PE X e ta) (hb : attributeBase e f X.env (eval e X.env) = eval e X.env) : PE X (.Attribute e f pos) (tFld X.K ta f) := by
  intro pins s σ H Q I h
  refine attr_of hb (thn (he pins s σ H _ I h) fun u s1 ⟨x, H1, I1, rx, a, C, dx, fs, v, ex, ea, c, n, l, q⟩ => ?_)
  subst ex
  obtain rfl : u = Value.ref a := rx
  exact getattr_ok I1 ea c n l fun u' s2 I2 ru => ⟨v, H1, I2, ru, q⟩
theorem ps_fld (ha : PE X o ta) (hv : PE X value tv) (hs : swapsWith value (some (.Attribute o f pos')) pos.line X.env = pure false) : PS X (.Assign [.Attribute o f pos'] value pos) (sFld X.K ta tv f) := by
  intro pins s σ H D I h
  refine plainObj_wpAny_Assign_Attribute (thn (hv pins s σ H _ I h) fun u s1 ⟨y, H1, I1, ry, q⟩ => thn (ha pins s1 σ H1 _ I1 q) fun ov s2 ⟨x, H2, I2, rx, a, C, dx, fs, ex, ea, c, n, l, q2⟩ => ?_) hs
  subst ex
  obtain rfl : ov = Value.ref a := rx
  exact setattr_ok I2 ea c n l ry fun s3 I3 => ⟨σ, _, I3, q2⟩
end

/-! ### isinstance -/
section
variable {X : Cx} {pins : List (Addr × Obj)} {σ : St} {H : Hp} {s : Shared} {A : Around} {E : Value → Shared → Prop} {Q : Value → Shared → Prop} {c : Value} {b : Bool}
/-- the type of a value, as the fragment's deciders take it; for an instance its class -/
inductive TyOf (K : PySem.W.Frag) (H : Hp) : V → Value → Prop where
  | non : TyOf K H .non (.type "NoneType")
  | bl (x : Bool) : TyOf K H (.bl x) (.type "bool")
  | int (i : Int) : TyOf K H (.int i) (.type "int")
  | str (x : Str) : TyOf K H (.str x) (.type "str")
  | flt (x : UInt64) : TyOf K H (.flt x) (.type "float")
  | lst {a : Addr} {xs : List V} (e : H a = some (.lst xs)) : TyOf K H (.ref a) (.type "list")
  | frz {a : Addr} {o : Obj} {xs : List V} (e : H a = some (.frz o (.lst xs))) : TyOf K H (.ref a) (.type "list")
  | tup {a : Addr} {xs : List V} (e : H a = some (.tup xs)) : TyOf K H (.ref a) (.type "tuple")
  | dK {a : Addr} {kvs : List (Key × V)} (e : H a = some (.dK kvs)) : TyOf K H (.ref a) (.type "dict")
  | dT {a : Addr} {kvs : List (List Key × V)} (e : H a = some (.dT kvs)) : TyOf K H (.ref a) (.type "dict")
  | ins {a C dx : Addr} {fs : List (Str × V)} (e : H a = some (.ins C dx fs)) (cl : Cls K C) (ha : PySem.W.findIn K (.ref C) "__class__" = some (some (.builtin "object.__class__")))
      (hn : PySem.W.specialIn K (.builtin "object.__class__") "__get__" = some (some (.builtin "getset_descriptor.__get__"))) (htk : PySem.W.takesIn K (.builtin "object.__class__") = some true)
      (hm : PySem.W.mroIn K C (.type "object") = some true) : TyOf K H (.ref a) (.ref C)
end
end L2

namespace L2
open PySem PySem.Spec PyProof.Rows

/-! ### room -/
structure Room (k : Nat) (A : Around) : Prop where
  hd : A.handled = none
  dp : A.depth + 3 * k + 5 < recursionLimit
  un : A.units + 16 * k + 200 < cLine
theorem Room.mono {j k : Nat} {A : Around} (r : Room k A) (h : j ≤ k) : Room j A := ⟨r.hd, by have := r.dp; omega, by have := r.un; omega⟩
theorem Room.deeper {k : Nat} {A : Around} (r : Room (k + 1) A) (env : Env) : Room k (A.deeper env) :=
  ⟨r.hd, by have := r.dp; show A.depth + 1 + 3 * k + 5 < _; omega, by have := r.un; show A.units + 3 + 16 * k + 200 < _; omega⟩
theorem Room.in1 {k : Nat} {A : Around} (r : Room (k + 1) A) : Room k A.in1 :=
  ⟨r.hd, by have := r.dp; show A.depth + 3 * k + 5 < _; omega, by have := r.un; show A.units + 1 + 16 * k + 200 < _; omega⟩
theorem make_depth {A : Around} {C : Addr} {us : List Value} {kw : List (Str × Value)} : (A.under (.builtin "type.__call__" ⟨.ref C :: us, kw⟩)).depth = A.depth + 1 := by
  first | rfl | simp [Around.under, Code.weight, Code.isCreation, Code.isGuard, Code.isCaller, Code.frames, Code.isFrame, guardIds]
theorem make_units {A : Around} {C : Addr} {us : List Value} {kw : List (Str × Value)} : (A.under (.builtin "type.__call__" ⟨.ref C :: us, kw⟩)).units = A.units + 1 := by
  first | rfl | simp [Around.under, Code.cUnits, Code.frames, Code.isFrame]
theorem Room.make {k : Nat} {A : Around} (r : Room (k + 1) A) (C : Addr) (us : List Value) (kw : List (Str × Value)) : Room k (A.under (.builtin "type.__call__" ⟨.ref C :: us, kw⟩)) :=
  ⟨r.hd, by have := r.dp; rw [make_depth]; omega, by have := r.un; rw [make_units]; omega⟩
theorem Room.depth {k : Nat} {A : Around} (r : Room k A) : A.depth < recursionLimit := by have := r.dp; omega
theorem Room.units0 {k : Nat} {A : Around} (r : Room k A) : A.units < cLine := by have := r.un; omega

/-! ### argument lists and displays -/
def tNil : TA := fun _ H Q => Q [] H
def tCons (ta : TE) (tr : TA) : TA := fun σ H Q => ta σ H fun x H1 => tr σ H1 fun xs H2 => Q (x :: xs) H2
section
variable {X : Cx} {e : Expr} {es : List Expr} {te : TE} {t : TA} {pos : Pos}
theorem pa_nil : PA X [] tNil := fun _ _ _ _ H Q I h => Calls.spliced_nil ⟨[], H, I, .nil, h⟩
theorem pa_cons (ha : PE X e te) (hr : PA X es t) (hs : starEach (e :: es) X.env = (false, eval e X.env) :: starEach es X.env := by rfl) : PA X (e :: es) (tCons te t) := by
  intro pos pins s σ H Q I h
  rw [hs]
  show wpAny _ _ (spliced ((false, eval e X.env) :: backTo pos (starEach es X.env))) _ _ s
  refine Calls.spliced_cons (thn (ha pins s σ H _ I h) fun u s1 ⟨x, H1, I1, r1, q1⟩ => ?_)
  exact thn (hr pos pins s1 σ H1 _ I1 q1) fun us s2 ⟨xs, H2, I2, r2, q2⟩ => ⟨x :: xs, H2, I2, .cons r1 r2, q2⟩

/-- a tuple, a list of written items -/
def tTup (t : TA) : TE := fun σ H Q => t σ H fun xs H1 => xs.length ≤ sizeLine ∧ ∀ p, H1 p = none → Q (.ref p) (upd H1 p (.tup xs))
def tLst (t : TA) : TE := fun σ H Q => t σ H fun xs H1 => xs.length ≤ sizeLine ∧ ∀ p, H1 p = none → Q (.ref p) (upd H1 p (.lst xs))
theorem pe_tup {x1} (h : PA X es t) : PE X (.Tuple es x1 pos) (tTup t) := by
  intro pins s σ H Q I hq
  refine wpAny_Tuple_spliced (thn (h pos pins s σ H _ I hq) fun us s1 ⟨xs, H1, I1, r, z, q⟩ => ⟨by rw [← r.length]; exact z, ?_⟩)
  have hf : H1 s1.heap.objs.size = none := I1.hok.fresh (Nat.le_refl _)
  refine ⟨.ref s1.heap.objs.size, upd H1 s1.heap.objs.size (.tup xs), I1.laid (t' := s1.toks) (fun b u e => Heap.get?_push_of_some _ e) (Nat.le_refl _) ?_, rfl, q _ hf⟩
  exact ⟨z, us, r, ⟨_, Heap.get?_push_size _ rfl, rfl, _, rfl⟩⟩
theorem pe_lst (h : PA X es t) : PE X (.List es pos) (tLst t) := by
  intro pins s σ H Q I hq
  refine wpAny_List_spliced (thn (h pos pins s σ H _ I hq) fun us s1 ⟨xs, H1, I1, r, z, q⟩ => ⟨by rw [← r.length]; exact z, ?_⟩)
  have hf : H1 s1.heap.objs.size = none := I1.hok.fresh (Nat.le_refl _)
  refine ⟨.ref s1.heap.objs.size, upd H1 s1.heap.objs.size (.lst xs), I1.laid (t' := s1.toks) (fun b u e => Heap.get?_push_of_some _ e) (Nat.le_refl _) ?_, rfl, q _ hf⟩
  exact ⟨z, us, 0, r, Heap.get?_push_size _ rfl⟩
end

/-! ### what a def promises -/
/-- a def's promise: the bound arguments in the parameters' order, the heap, the wanted end, the wanted exception -/
abbrev Sp := List V → Hp → VK → XK → Prop
/-- how an exception lies behind a call (file 08 gives it): the callers' frames, abstract heap and state ahead of the call, the wish, the exception, the state -/
abbrev CXT := List Env → Hp → Shared → XK → Value → Shared → Prop

/-- the state at a call -/
structure Env0 (P : Program) (w : World) (K : PySem.W.Frag) (mg : Str → Option Value) (base : Heap) (A : Around) (outer : List Env) (s : Shared) (H : Hp) : Prop where
  frames : A.frames = some outer
  mod : Mod K mg base
  bs : ∀ b o, base.get? b = some o → s.heap.get? b = some o ∧ H b = none
  bsz : base.objs.size ≤ s.heap.objs.size
  funs : s.heap.FunFrames base outer
  frf : ∀ b ∈ frs outer, H b = none
  hok : HOk P w H s.heap
  bare : AllBare s.gens
/-- a call's end -/
def CE (outer : List Env) (P : Program) (w : World) (H : Hp) (s : Shared) (Q : VK) (u : Value) (s' : Shared) : Prop :=
  ∃ v H', s'.os = s.os ∧ AllBare s'.gens ∧ Un (frs outer) [] H H' s.heap s'.heap ∧ HOk P w H' s'.heap ∧ RelV v u ∧ Q v H'
def CR (CX : CXT) (outer : List Env) (P : Program) (w : World) (H : Hp) (s : Shared) (Q : VK) (E : XK) (r : Result) (s' : Shared) : Prop :=
  match r with
  | .ok (.ret u) => CE outer P w H s Q u s'
  | .ok _ => False
  | .error e => CX outer H s E e s'
structure FnOk (P : Program) (w : World) (K : PySem.W.Frag) (mg : Str → Option Value) (base : Heap) (CX : CXT) (k : Nat) (f : Addr) (fd : FuncData) (ps : List Str) (sp : Sp) : Prop where
  len : ∀ vs H Q E, sp vs H Q E → vs.length = ps.length
  run : ∀ (A : Around) (outer : List Env) (s : Shared) (H : Hp) (args : Args) (us : List Value) (vs : List V) (Q : VK) (E : XK), Room k A → Env0 P w K mg base A outer s H → BindsTo s fd args (ps.zip us) → Vals vs us → sp vs H Q E →
    codeAny (model P w) A (.call (.ref f) args) (CR CX outer P w H s Q E) s
theorem Env0.make {P : Program} {w : World} {K : PySem.W.Frag} {mg : Str → Option Value} {base : Heap} {A : Around} {outer : List Env} {s : Shared} {H : Hp} (e : Env0 P w K mg base A outer s H) (C : Addr) (us : List Value) (kw : List (Str × Value)) :
    Env0 P w K mg base (A.under (.builtin "type.__call__" ⟨.ref C :: us, kw⟩)) outer s H := ⟨by first | exact e.frames | (simpa [Around.under, Code.envs, Code.isFrame, pushEnvs] using e.frames), e.mod, e.bs, e.bsz, e.funs, e.frf, e.hok, e.bare⟩
section
variable {X : Cx} {pins : List (Addr × Obj)} {σ : St} {H : Hp} {s s' : Shared}
/-- from a body: what a callee wants -/
theorem Inv.env0 (I : Inv X pins σ H s) : Env0 X.prog X.w X.K X.mg X.base X.A X.stack s H :=
  ⟨I.ok.frames, I.ok.mod, I.bs, Nat.le_trans I.ok.bsz I.sz, I.stack, I.stkFree, I.hok, I.bare⟩
/-- behind a call -/
theorem Inv.after {Q : VK} {u : Value} (I : Inv X pins σ H s) (h : CE X.stack X.prog X.w H s Q u s') : EP X pins σ Q u s' := by
  obtain ⟨v, H', os, bare, un, hok, r, q⟩ := h
  obtain ⟨hh, g, d, t, os'⟩ := s'
  obtain rfl : os' = s.os := os
  exact ⟨v, H', I.call (h' := hh) (g' := g) (d' := d) (t' := t) (ch := []) un hok bare (fun b z => absurd z (by simp)), r, q⟩
end

/-! ### calls -/
/-- f(..): the written arguments, then the defaults dvs; E: what is wanted of an exception -/
def tCall (sp : Sp) (dvs : List V) (E : XK) (t : TA) : TE := fun σ H Q => t σ H fun vs H1 => sp (vs ++ dvs) H1 Q E
/-- o.m(..) of an instance of the class at C -/
def tMeth (C : Addr) (m : Str) (sp : Sp) (dvs : List V) (E : XK) (ta : TE) (t : TA) : TE := fun σ H Q => ta σ H fun x H1 => ∃ a dx fs, x = .ref a ∧ H1 a = some (.ins C dx fs) ∧ fs.lookup m = none ∧
  t σ H1 fun vs H2 => sp (x :: (vs ++ dvs)) H2 Q E
/-- C(..): a new instance and its dict, then __init__ -/
def tMake (C : Addr) (sp : Sp) (dvs : List V) (E : XK) (t : TA) : TE := fun σ H Q => t σ H fun vs H1 => ∀ x dx, H1 x = none → H1 dx = none → dx ≠ x →
  sp (.ref x :: (vs ++ dvs)) (upd (upd H1 dx (.own x)) x (.ins C dx [])) (fun v H2 => v = .non ∧ Q (.ref x) H2) E

/-- how the parameters are bound: us the positional arguments, kw the keywords' values by name, ds the defaults that fill up -/
def Binds (K : PySem.W.Frag) (fd : FuncData) (ps : List Str) (ds : List Value) : Prop :=
  ∀ (s : Shared) (us : List Value), K.In s.heap → (us ++ ds).length = ps.length → BindsTo s fd ⟨us, []⟩ (ps.zip (us ++ ds))
/-- every parameter is given -/
theorem Binds.all {K : PySem.W.Frag} {fd : FuncData} {ps : List Str} (h : ∀ us : List Value, us.length = ps.length → bindArgs fd ⟨us, []⟩ = pure (ps.zip us)) : Binds K fd ps [] := fun s us _ hl => by
  rw [List.append_nil] at hl ⊢
  exact .of_eq (h us hl)

/-- an exception of a callee reaches what this body wants of exceptions -/
def Passes (CX : CXT) (X : Cx) (E : XK) : Prop := ∀ (pins : List (Addr × Obj)) (σ : St) (H : Hp) (s : Shared) (e : Value) (s' : Shared), Inv X pins σ H s → CX X.stack H s E e s' → X.xe e s'

section
variable {X : Cx} {CX : CXT} {k : Nat} {f C : Addr} {fd : FuncData} {ps : List Str} {sp : Sp} {dvs : List V} {ds : List Value} {E : XK} {x m : Str} {p pos apos : Pos} {e o : Expr} {es : List Expr} {ta : TE} {t : TA}

/-- the callee runs -/
theorem run_fn {pins : List (Addr × Obj)} {σ : St} {H : Hp} {s : Shared} {Q : VK} {us : List Value} {vs : List V} (F : FnOk X.prog X.w X.K X.mg X.base CX k f fd ps sp) (hr : Room k X.A) (hb : Binds X.K fd ps ds) (hd : Vals dvs ds) (hx : Passes CX X E)
    (I : Inv X pins σ H s) (r : Vals vs us) (h : sp (vs ++ dvs) H Q E) : wpAny (model X.prog X.w) X.A (call (.ref f) us) (EP X pins σ Q) X.xe s := by
  have r2 : Vals (vs ++ dvs) (us ++ ds) := r.append hd
  have hl : (us ++ ds).length = ps.length := by rw [← r2.length]; exact F.len _ _ _ _ h
  refine wpAny_call (codeAny_mono (F.run X.A X.stack s H ⟨us, []⟩ (us ++ ds) (vs ++ dvs) Q E hr I.env0 (hb s us I.kIn hl) r2 h) fun r s' hq => ?_)
  cases r with
  | error e => exact hx pins σ H s e s' I hq
  | ok fl =>
    cases fl with
    | ret u => exact I.after hq
    | next => exact False.elim hq
    | brk => exact False.elim hq
    | cont => exact False.elim hq

theorem pe_call (F : FnOk X.prog X.w X.K X.mg X.base CX k f fd ps sp) (hr : Room k X.A) (hg : Gl X x) (hm : X.mg x = some (.ref f)) (hk : PySem.W.keepIn X.K (.ref f) = true) (hb : Binds X.K fd ps ds) (hd : Vals dvs ds) (hx : Passes CX X E)
    (ha : PA X (e :: es) t) (hdb : (x == ("__debug__" : Str)) = false := by decide) (he : starEach (e :: es) X.env = (false, eval e X.env) :: starEach es X.env := by rfl) (hpl : (backTo pos (starEach es X.env)).any (·.1) = false := by rfl) :
    PE X (.Call (.Name x p) (e :: es) [] pos) (tCall sp dvs E t) := by
  intro pins s σ H Q I h
  refine wpAny_Call_Name_kw (ld_glob I hg hm ?_ hdb)
  refine PySem.W.callWith_K (h₀ := X.base) I.ok.mod.kin hk (thn (ha pos pins s σ H _ I h) fun us s1 ⟨vs, H1, I1, r, q⟩ => ⟨I1.kIn, ?_⟩) he hpl
  exact run_fn F hr hb hd hx I1 r q
theorem pe_call0 (F : FnOk X.prog X.w X.K X.mg X.base CX k f fd ps sp) (hr : Room k X.A) (hg : Gl X x) (hm : X.mg x = some (.ref f)) (hk : PySem.W.keepIn X.K (.ref f) = true) (hb : Binds X.K fd ps ds) (hd : Vals dvs ds) (hx : Passes CX X E)
    (hdb : (x == ("__debug__" : Str)) = false := by decide) : PE X (.Call (.Name x p) [] [] pos) (tCall sp dvs E tNil) := by
  intro pins s σ H Q I h
  refine wpAny_Call_Name_kw (ld_glob I hg hm ?_ hdb)
  exact PySem.W.callWith_K0 I.kIn hk (run_fn (us := []) F hr hb hd hx I .nil h)

/-- o.m(e, ..) -/
theorem pe_meth {pl : Sem Bool} (he : PE X o ta) (c : Cls X.K C) (hm : Meth X.K C m f) (F : FnOk X.prog X.w X.K X.mg X.base CX k f fd ps sp) (hr : Room k X.A) (hb : Binds X.K fd ps ds) (hd : Vals dvs ds) (hx : Passes CX X E) (ha : PA X (e :: es) t)
    (hst : starEach (e :: es) X.env = (false, eval e X.env) :: starEach es X.env := by rfl) (hpl : (backTo pos (starEach es X.env)).any (·.1) = false := by rfl)
    (ht : eval (.Call (.Attribute o m apos) (e :: es) [] pos) X.env = (do
      let ov ← eval o X.env
      standAt apos.atName
      let (f, first) ← holding [ov] (getMethod ov m pl)
      callWith pos f first (backTo pos (starEach (e :: es) X.env)) (backToKw pos (keywordEach [] X.env))) := by rfl) :
    PE X (.Call (.Attribute o m apos) (e :: es) [] pos) (tMeth C m sp dvs E ta t) := by
  intro pins s σ H Q I h
  refine PySem.W.methodCall_KW (pl := pl) (thn (he pins s σ H _ I h) fun u s1 ⟨x, H1, I1, rx, a, dx, fs, ex, ea, l, q⟩ => ?_) ht
  subst ex
  obtain rfl : u = Value.ref a := rx
  refine getmeth_ok I1 ea c hm l ?_
  refine PySem.W.callWith_K (first := [.ref a]) (h₀ := X.base) I.ok.mod.kin hm.kp (thn (ha pos pins s1 σ H1 _ I1 q) fun us s2 ⟨vs, H2, I2, r, q2⟩ => ⟨I2.kIn, ?_⟩) hst hpl
  exact run_fn (us := .ref a :: us) (vs := .ref a :: vs) F hr hb hd hx I2 (.cons rfl r) q2
/-- o.m() -/
theorem pe_meth0 {pl : Sem Bool} (he : PE X o ta) (c : Cls X.K C) (hm : Meth X.K C m f) (F : FnOk X.prog X.w X.K X.mg X.base CX k f fd ps sp) (hr : Room k X.A) (hb : Binds X.K fd ps ds) (hd : Vals dvs ds) (hx : Passes CX X E)
    (ht : eval (.Call (.Attribute o m apos) [] [] pos) X.env = (do
      let ov ← eval o X.env
      standAt apos.atName
      let (f, first) ← holding [ov] (getMethod ov m pl)
      callWith pos f first (backTo pos (starEach [] X.env)) (backToKw pos (keywordEach [] X.env))) := by rfl) :
    PE X (.Call (.Attribute o m apos) [] [] pos) (tMeth C m sp dvs E ta tNil) := by
  intro pins s σ H Q I h
  refine PySem.W.methodCall_KW (pl := pl) (thn (he pins s σ H _ I h) fun u s1 ⟨x, H1, I1, rx, a, dx, fs, ex, ea, l, q⟩ => ?_) ht
  subst ex
  obtain rfl : u = Value.ref a := rx
  refine getmeth_ok I1 ea c hm l ?_
  exact PySem.W.callWith_K0 (first := [.ref a]) I1.kIn hm.kp (run_fn (us := [.ref a]) (vs := [.ref a]) F hr hb hd hx I1 (.cons rfl .nil) q)

/-- what a class must have to be made -/
structure Mk (K : PySem.W.Frag) (C f : Addr) : Prop where
  makes : PySem.W.makesIn K C = true
  init : PySem.W.findIn K (.ref C) "__init__" = some (some (.ref f))
  fn : PySem.W.isFn K (.ref f) = true
  kp : PySem.W.keepIn K (.ref C) = true

theorem run_make {pins : List (Addr × Obj)} {σ : St} {H : Hp} {s : Shared} {Q : VK} {us : List Value} {vs : List V} (M : Mk X.K C f) (F : FnOk X.prog X.w X.K X.mg X.base CX k f fd ps sp) (hr : Room (k + 1) X.A) (hb : Binds X.K fd ps ds) (hd : Vals dvs ds)
    (hx : Passes CX X E) (I : Inv X pins σ H s) (r : Vals vs us)
    (h : ∀ x dx, H x = none → H dx = none → dx ≠ x → sp (.ref x :: (vs ++ dvs)) (upd (upd H dx (.own x)) x (.ins C dx [])) (fun v H2 => v = .non ∧ Q (.ref x) H2) E) :
    wpAny (model X.prog X.w) X.A (call (.ref C) us) (EP X pins σ Q) X.xe s := by
  have hq := h (s.heap.objs.size + 1) s.heap.objs.size (I.hok.fresh (Nat.le_succ _)) (I.hok.fresh (Nat.le_refl _)) (Nat.ne_of_lt (Nat.lt_succ_self _))
  have I2 := Inv.made (C := C) I
  have r2 : Vals (V.ref (s.heap.objs.size + 1) :: (vs ++ dvs)) (Value.ref (s.heap.objs.size + 1) :: (us ++ ds)) := .cons rfl (r.append hd)
  have hl : (Value.ref (s.heap.objs.size + 1) :: us ++ ds).length = ps.length := by
    have e := r2.length
    rw [F.len _ _ _ _ hq] at e
    exact e.symm
  refine wpAny_call (make_map (f := f) I.kIn M.makes M.init (beq_iff_eq.mp M.fn) (codeAny_mono (F.run _ X.stack _ _ ⟨Value.ref (s.heap.objs.size + 1) :: us, []⟩ (Value.ref (s.heap.objs.size + 1) :: (us ++ ds)) _ _ E (hr.make C us [])
    (I2.env0.make C us []) (hb _ (Value.ref (s.heap.objs.size + 1) :: us) I2.kIn hl) r2 hq) fun r s' hq' => ?_))
  cases r with
  | error e => exact hx pins σ _ _ e s' I2 hq'
  | ok fl =>
    cases fl with
    | ret u =>
      obtain ⟨v, H', I3, rv, ev, q3⟩ := I2.after hq'
      subst ev
      exact ⟨rv, ⟨V.ref (s.heap.objs.size + 1), H', I3, rfl, q3⟩⟩
    | next => exact False.elim hq'
    | brk => exact False.elim hq'
    | cont => exact False.elim hq'
theorem pe_make (M : Mk X.K C f) (F : FnOk X.prog X.w X.K X.mg X.base CX k f fd ps sp) (hr : Room (k + 1) X.A) (hg : Gl X x) (hm : X.mg x = some (.ref C)) (hb : Binds X.K fd ps ds) (hd : Vals dvs ds) (hx : Passes CX X E)
    (ha : PA X (e :: es) t) (hdb : (x == ("__debug__" : Str)) = false := by decide) (he : starEach (e :: es) X.env = (false, eval e X.env) :: starEach es X.env := by rfl) (hpl : (backTo pos (starEach es X.env)).any (·.1) = false := by rfl) :
    PE X (.Call (.Name x p) (e :: es) [] pos) (tMake C sp dvs E t) := by
  intro pins s σ H Q I h
  refine wpAny_Call_Name_kw (ld_glob I hg hm ?_ hdb)
  refine PySem.W.callWith_K (h₀ := X.base) I.ok.mod.kin M.kp (thn (ha pos pins s σ H _ I h) fun us s1 ⟨vs, H1, I1, r, q⟩ => ⟨I1.kIn, ?_⟩) he hpl
  exact run_make M F hr hb hd hx I1 r q
theorem pe_make0 (M : Mk X.K C f) (F : FnOk X.prog X.w X.K X.mg X.base CX k f fd ps sp) (hr : Room (k + 1) X.A) (hg : Gl X x) (hm : X.mg x = some (.ref C)) (hb : Binds X.K fd ps ds) (hd : Vals dvs ds) (hx : Passes CX X E)
    (hdb : (x == ("__debug__" : Str)) = false := by decide) : PE X (.Call (.Name x p) [] [] pos) (tMake C sp dvs E tNil) := by
  intro pins s σ H Q I h
  refine wpAny_Call_Name_kw (ld_glob I hg hm ?_ hdb)
  exact PySem.W.callWith_K0 I.kIn M.kp (run_make (us := []) M F hr hb hd hx I .nil h)
end

/-! ### keywords -/
/-- the values of the keywords, from the left -/
def PK (X : Cx) (kws : List Keyword) (t : TA) : Prop :=
  ∀ (pos : Pos) (pins : List (Addr × Obj)) (s : Shared) (σ : St) (H : Hp) (Q : List V → Hp → Prop), Inv X pins σ H s → t σ H Q → wpAny (model X.prog X.w) X.A (evalAll ((backToKw pos (keywordEach kws X.env)).map (·.2))) (AP X pins σ Q) X.xe s
section
variable {X : Cx} {CX : CXT} {k : Nat} {f C : Addr} {fd : FuncData} {ps ks : List Str} {sp : Sp} {E : XK} {x m : Str} {p pos apos kpos : Pos} {e o : Expr} {es : List Expr} {kws : List Keyword} {te ta : TE} {t tk : TA} {nm : Option Str}
theorem pk_nil : PK X [] tNil := fun _ _ _ _ H Q I h => wpAny_evalAll_nil ⟨[], H, I, .nil, h⟩
theorem pk_cons (ha : PE X e te) (hr : PK X kws t) : PK X (⟨nm, e, kpos⟩ :: kws) (tCons te t) := by
  intro pos pins s σ H Q I h
  show wpAny _ _ (evalAll ((do let v ← eval e X.env; standAt pos; pure v) :: (backToKw pos (keywordEach kws X.env)).map (·.2))) _ _ s
  refine wpAny_evalAll_cons (wpAny_bind (thn (ha pins s σ H _ I h) fun u s1 ⟨x, H1, I1, r1, q1⟩ => wpAny_bind (wpAny_standAt (wpAny_pure ?_))))
  exact thn (hr pos pins s1 σ H1 _ I1 q1) fun us s2 ⟨xs, H2, I2, r2, q2⟩ => ⟨x :: xs, H2, I2, .cons r1 r2, q2⟩

/-- how a call with keywords binds: g puts the positional values us and the keywords' values ws (names ks) in the parameters' order, defaults among them -/
structure KBinds (K : PySem.W.Frag) (fd : FuncData) (ps ks : List Str) (g : List Value → List Value → List Value) (gV : List V → List V → List V) : Prop where
  to : ∀ (s : Shared) (us ws : List Value), K.In s.heap → (g us ws).length = ps.length → BindsTo s fd ⟨us, ks.zip ws⟩ (ps.zip (g us ws))
  rel : ∀ {vs : List V} {us : List Value} {zs : List V} {ws : List Value}, Vals vs us → Vals zs ws → Vals (gV vs zs) (g us ws)
variable {g : List Value → List Value → List Value} {gV : List V → List V → List V}
end

/-! ### a def's body keeps its promise -/
/-- names: the parameters first -/
structure FnScope (N P : List Str) (sc : Scope) : Prop where
  kind : sc.kind = .function
  co : sc.isCoroutine = false
  gen : sc.isGenerator = false
  nd : N.Nodup
  pre : N.take P.length = P
  par : ∀ x ∈ P, sc.names.lookup x = some .local ∨ sc.names.lookup x = some .cell
  nofree : ∀ y ∈ sc.names, y.2 ≠ .free

theorem bindL_out {kindOf : Str → Option NameKind} {x : Str} : ∀ {binds : List (Str × Value)} {m : Str → Option Value}, (∀ v, (x, v) ∉ binds) → bindL kindOf binds m x = m x
  | [], _, _ => rfl
  | (n, v) :: r, m, h => by
    unfold bindL
    rw [bindL_out fun w hw => h w (List.mem_cons_of_mem _ hw)]
    split
    · have : x ≠ n := by rintro rfl; exact h v List.mem_cons_self
      simp [this]
    · rfl
theorem bindC_out {kindOf : Str → Option NameKind} {x : Str} : ∀ {binds : List (Str × Value)} {m : Str → Option Value}, (∀ v, (x, v) ∉ binds) → bindC kindOf binds m x = m x
  | [], _, _ => rfl
  | (n, v) :: r, m, h => by
    unfold bindC
    rw [bindC_out fun w hw => h w (List.mem_cons_of_mem _ hw)]
    split
    · rfl
    · have : x ≠ n := by rintro rfl; exact h v List.mem_cons_self
      simp [this]
theorem bindL_get {kindOf : Str → Option NameKind} {x : Str} {v : Value} : ∀ {P : List Str} {vs : List Value} {i : Nat} {m : Str → Option Value}, P.Nodup → P[i]? = some x → vs[i]? = some v → kindOf x = some .local →
    bindL kindOf (P.zip vs) m x = some v
  | [], _, _, _, _, h, _, _ => by simp at h
  | _ :: _, [], _, _, _, _, h, _ => by simp at h
  | p :: P, w :: vs, 0, m, nd, h1, h2, hk => by
    simp at h1 h2; subst h1; subst h2
    show bindL kindOf ((p, w) :: P.zip vs) m p = _
    unfold bindL
    rw [bindL_out fun v hv => (List.nodup_cons.mp nd).1 (List.of_mem_zip hv).1, if_pos hk]
    simp
  | p :: P, w :: vs, i + 1, m, nd, h1, h2, hk => by
    show bindL kindOf ((p, w) :: P.zip vs) m x = _
    unfold bindL
    exact bindL_get (i := i) (List.nodup_cons.mp nd).2 (by simpa using h1) (by simpa using h2) hk
theorem bindC_get {kindOf : Str → Option NameKind} {x : Str} {v : Value} : ∀ {P : List Str} {vs : List Value} {i : Nat} {m : Str → Option Value}, P.Nodup → P[i]? = some x → vs[i]? = some v → kindOf x ≠ some .local →
    bindC kindOf (P.zip vs) m x = some v
  | [], _, _, _, _, h, _, _ => by simp at h
  | _ :: _, [], _, _, _, _, h, _ => by simp at h
  | p :: P, w :: vs, 0, m, nd, h1, h2, hk => by
    simp at h1 h2; subst h1; subst h2
    show bindC kindOf ((p, w) :: P.zip vs) m p = _
    unfold bindC
    rw [bindC_out fun v hv => (List.nodup_cons.mp nd).1 (List.of_mem_zip hv).1, if_neg hk]
    simp
  | p :: P, w :: vs, i + 1, m, nd, h1, h2, hk => by
    show bindC kindOf ((p, w) :: P.zip vs) m x = _
    unfold bindC
    exact bindC_get (i := i) (List.nodup_cons.mp nd).2 (by simpa using h1) (by simpa using h2) hk

/-- the names' values at the entry -/
def start (N : List Str) (vs : List V) : St := vs.map some ++ List.replicate (N.length - vs.length) none

/-- the context of a def's body, at its entry; an exception leaves the frame, then lies as CX says -/
def cxOf (CX : CXT) (P : Program) (w : World) (K : PySem.W.Frag) (mg : Str → Option Value) (base : Heap) (N : List Str) (qual : Str) (scope : Scope) (f : Addr) (cd : Value) (A : Around) (outer : List Env) (s : Shared) (H : Hp) (E : XK) : Cx where
  prog := P
  w := w
  K := K
  mg := mg
  base := base
  A := A.deeper (envOfC qual scope s.heap.objs.size f cd)
  N := N
  s_0 := s
  H_0 := H
  env := envOfC qual scope s.heap.objs.size f cd
  outer := outer
  stack := envOfC qual scope s.heap.objs.size f cd :: outer
  ex := []
  calm := true
  fn := fun _ => true
  pn := []
  xe := fun e s' => wpAny (model P w) (A.deeper (envOfC qual scope s.heap.objs.size f cd)) (leaving (envOfC qual scope s.heap.objs.size f cd) e) (fun _ s'' => CX outer H s E e s'') (fun e' s'' => CX outer H s E e' s'') s'

theorem cell_has {sc : Scope} {n : Nat} {x : Str} (h : sc.names.lookup x = some .cell) : ∃ c, (cellsFrom n sc.names []).lookup x = some c := by
  have q := PySem.W.cellsFrom_some sc.names n [] (.inl h)
  exact Option.isSome_iff_exists.mp q

theorem inv_start {CX : CXT} {P : Program} {w : World} {K : PySem.W.Frag} {mg : Str → Option Value} {base : Heap} {N ps : List Str} {qual : Str} {scope : Scope} {f : Addr} {cd : Value} {A : Around} {outer : List Env} {s s1 : Shared} {H : Hp} {E : XK} {us : List Value} {vs : List V}
    (S : FnScope N ps scope) (hd : A.handled = none) (e0 : Env0 P w K mg base A outer s H) (hl : vs.length = ps.length) (r : Vals vs us)
    (x : InCallC s s.heap.objs.size (bindL (envOfC qual scope s.heap.objs.size f cd).kindOf (ps.zip us) fun _ => none) (cellsFrom (s.heap.objs.size + 1) scope.names []) (bindC (envOfC qual scope s.heap.objs.size f cd).kindOf (ps.zip us) fun _ => none) s1) :
    Inv (cxOf CX P w K mg base N qual scope f cd A outer s H E) [] (start N vs) H s1 := by
  have hpl : ps.length ≤ N.length := by have := congrArg List.length S.pre; rw [List.length_take] at this; omega
  obtain ⟨h1, tk, rfl, hk⟩ := x.done
  have noA : ∀ b : Addr, b ∉ (cxOf CX P w K mg base N qual scope f cd A outer s H E).ex := fun b z => absurd (show b ∈ ([] : List Addr) from z) (by simp)
  refine ⟨⟨e0.mod, S.kind, rfl, rfl, Nat.le_refl _, fun y z c h1 h2 => ?_, fun y hy => ?_, fun y c _ h => ?_, fun _ => hd, Around.frames_deeper e0.frames, .inr ⟨rfl, rfl⟩, fun b z => absurd z (noA b), e0.bs, e0.bsz, fun b _ _ => noA b, fun b z => absurd z (noA b), e0.funs, e0.frf⟩,
    rfl, e0.bare, Un.kept hk, ⟨_, x.toInCall.ns, fun i y v h1 h2 h3 => ?_⟩, fun y c h => ⟨_, x.cell y c h⟩, e0.hok.fresh (Nat.le_refl _), fun y c h => ?_, fun p hp => absurd (show p ∈ ([] : List (Addr × Obj)) from hp) (by simp), e0.hok.kept hk, ?_⟩
  · exact name_of_addr x.apart (PySem.mem_of_lookup h1) (PySem.mem_of_lookup h2)
  · have hy : scope.names.lookup y = some .cell ∨ scope.names.lookup y = some .free := hy
    rcases hy with hy | hy
    · exact cell_has hy
    · exact absurd rfl (S.nofree _ (PySem.mem_of_lookup hy))
  · exact Nat.le_of_lt (x.above y c (PySem.mem_of_lookup h))
  · have hi : i < vs.length := by
      unfold start at h2
      by_cases hi : i < vs.length
      · exact hi
      · rw [List.getElem?_append_right (by simpa using hi)] at h2
        rw [List.getElem?_replicate] at h2
        split at h2 <;> cases h2
    have ha : vs[i]? = some v := by
      unfold start at h2
      rw [List.getElem?_append_left (by simpa using hi), List.getElem?_map] at h2
      cases e : vs[i]? with
      | none => rw [e] at h2; cases h2
      | some a => rw [e] at h2; cases h2; rfl
    obtain ⟨u, hu, rv⟩ := r.get ha
    have hp : ps[i]? = some y := by
      rw [← S.pre, List.getElem?_take_of_lt (by omega)]; exact h1
    have ndP : ps.Nodup := by rw [← S.pre]; exact S.nd.sublist (List.take_sublist _ _)
    refine ⟨u, rv, ?_⟩
    rcases S.par y (List.mem_of_getElem? hp) with k | k
    · exact .inl ⟨k, bindL_get ndP hp hu k⟩
    · obtain ⟨c, e⟩ := cell_has (n := s.heap.objs.size + 1) k
      refine .inr ⟨.inl k, c, e, ?_⟩
      have q := x.cell y c e
      rw [bindC_get ndP hp hu (by show scope.names.lookup y ≠ _; rw [k]; decide)] at q
      exact q
  · exact e0.hok.fresh (Nat.le_of_lt (x.above y c (PySem.mem_of_lookup h)))
  · unfold start
    show _ = N.length
    rw [List.length_append, List.length_map, List.length_replicate]
    omega

/-- THE RULE: a def (or a method) of the text, by its body. The body's reading t is chosen for each entry; it is run at the parameters' values -/
theorem fn_of {CX : CXT} {P : Program} {w : World} {K : PySem.W.Frag} {mg : Str → Option Value} {base : Heap} {k : Nat} {f : Addr} {name qual : Str} {params : Arguments} {body : List Stmt} {scope : Scope} {dV kV doc pm cdv ct oc : Value} {an od : Option Addr}
    {osl : Array (Option Value)} {N ps : List Str} {sp : Sp} (lk : K.lookup f = some ⟨oc, od, .func (PySem.W.fnOf name qual params body scope dV kV doc pm an cdv ct), osl⟩) (hcd : PySem.W.codeIn K cdv qual = true) (S : FnScope N ps scope)
    (len : ∀ vs H Q E, sp vs H Q E → vs.length = ps.length)
    (hbody : ∀ (A : Around) (outer : List Env) (s : Shared) (H : Hp) (vs : List V) (Q : VK) (E : XK), Room k (A.deeper (envOfC qual scope s.heap.objs.size f cdv)) → sp vs H Q E →
      ∃ t, PSs (cxOf CX P w K mg base N qual scope f cdv A outer s H E) body t ∧ t { nx := fun _ H' => Q .non H', rt := Q } (start N vs) H) :
    FnOk P w K mg base CX (k + 1) f (PySem.W.fnOf name qual params body scope dV kV doc pm an cdv ct) ps sp := by
  refine ⟨len, fun A outer s H args us vs Q E hr e0 hb r hsp => ?_⟩
  have hl := len _ _ _ _ hsp
  have KX : K.In s.heap := e0.mod.kin.keeps fun b o e => (e0.bs b o e).1
  have lim : s.heap.NoLimit := e0.mod.nolimit.keeps fun b o e => (e0.bs b o e).1
  have hkind : ∀ y ∈ ps.zip us, scope.names.lookup y.1 = some .local ∨ (scope.names.lookup y.1 = some .cell ∧ ((cellsFrom (s.heap.objs.size + 1) scope.names []).lookup y.1).isSome = true) := fun ⟨n, v⟩ hy => by
    rcases S.par n (List.of_mem_zip hy).1 with q | q
    · exact .inl q
    · exact .inr ⟨q, PySem.W.cellsFrom_some _ _ _ (.inl q)⟩
  refine codeAny_call_function hr.depth (KX _ _ lk) rfl S.co S.gen rfl (PySem.W.codeRec_of KX hcd) (hb _ _ _ _ ?_)
  refine wpAny_newFunctionEnv_cells S.kind hkind fun env he s1 x => ?_
  subst he
  refine ⟨lim.keeps x.toInCall.keep, codeAny_func ?_⟩
  obtain ⟨t, ht, hq⟩ := hbody A outer s H vs Q E (hr.deeper _) hsp
  have I : Inv (cxOf CX P w K mg base N qual scope f cdv A outer s H E) [] (start N vs) H s1 := inv_start S hr.hd e0 hl r x
  refine wpAny_mono (ht [] s1 (start N vs) H _ I hq) (fun fl s' hs => ?_) fun e s' hs => hs
  have fin : ∀ {σ' : St} {H' : Hp} {v : V} {u : Value}, Inv (cxOf CX P w K mg base N qual scope f cdv A outer s H E) [] σ' H' s' → RelV v u → Q v H' → CE outer P w H s Q u s' :=
    fun {σ' H' v u} J rv q => ⟨v, H', J.os, J.bare, J.base, J.hok, rv, q⟩
  cases fl with
  | ret u =>
    obtain ⟨v, σ', H', J, rv, q⟩ := hs
    exact fin J rv q
  | next =>
    obtain ⟨σ', H', J, q⟩ := hs
    exact fin (v := V.non) (u := Value.none) J rfl q
  | brk =>
    obtain ⟨_, _, _, q⟩ := hs
    exact False.elim q
  | cont =>
    obtain ⟨_, _, _, q⟩ := hs
    exact False.elim q
end L2

namespace L2
open PySem PySem.Spec PyProof.Rows
section
variable {X : Cx} {x : Str} {p pos : Pos} {e : Expr} {es : List Expr} {t : TA} {id T : String} {r : List V → Hp → VK → Prop}

def tCB (r : List V → Hp → VK → Prop) (t : TA) : TE := fun σ H Q => t σ H fun vs H1 => r vs H1 Q
/-- f(e, ..), f a built-in function -/
theorem pe_callB (hc : CallR X (.builtin id) r) (hg : Gl X x) (hm : X.mg x = none) (hv : bootBuiltins x = some (.builtin id)) (ha : PA X (e :: es) t) (hn : x ≠ "__name__" := by decide) (hdb : (x == ("__debug__" : Str)) = false := by decide)
    (he : starEach (e :: es) X.env = (false, eval e X.env) :: starEach es X.env := by rfl) (hpl : (backTo pos (starEach es X.env)).any (·.1) = false := by rfl) : PE X (.Call (.Name x p) (e :: es) [] pos) (tCB r t) := by
  intro pins s σ H Q I h
  refine wpAny_Call_Name_kw (ld_blt I hg hm hv ?_ hn hdb)
  exact PyProof.Rows.callWith_builtin1 (thn (ha pos pins s σ H _ I h) fun us s1 ⟨vs, H1, I1, r1, q1⟩ => hc pins s1 σ H1 vs us Q I1 r1 q1) he hpl
/-- T(e, ..), T a built-in type -/
theorem pe_callTy (hc : CallR X (.type T) r) (hg : Gl X x) (hm : X.mg x = none) (hv : bootBuiltins x = some (.type T)) (ha : PA X (e :: es) t) (hn : x ≠ "__name__" := by decide) (hdb : (x == ("__debug__" : Str)) = false := by decide)
    (he : starEach (e :: es) X.env = (false, eval e X.env) :: starEach es X.env := by rfl) (hpl : (backTo pos (starEach es X.env)).any (·.1) = false := by rfl) : PE X (.Call (.Name x p) (e :: es) [] pos) (tCB r t) := by
  intro pins s σ H Q I h
  refine wpAny_Call_Name_kw (ld_blt I hg hm hv ?_ hn hdb)
  exact PyProof.Rows.callWith_type1 (thn (ha pos pins s σ H _ I h) fun us s1 ⟨vs, H1, I1, r1, q1⟩ => hc pins s1 σ H1 vs us Q I1 r1 q1) he hpl
end
end L2

namespace HT
open PySem PyProof.Rows

/-- t < u of tuples of ints -/
def lexLt : List Int → List Int → Bool
  | [], [] => false
  | [], _ :: _ => true
  | _ :: _, [] => false
  | x :: xs, y :: ys => if x = y then lexLt xs ys else decide (x < y)
theorem lexLt_cons (x y : Int) (xs ys : List Int) : lexLt (x :: xs) (y :: ys) = if x = y then lexLt xs ys else decide (x < y) := rfl
theorem lexLt_nil_nil : lexLt [] [] = false := rfl
theorem lexLt_nil_cons (y : Int) (ys : List Int) : lexLt [] (y :: ys) = true := rfl
theorem lexLt_cons_nil (x : Int) (xs : List Int) : lexLt (x :: xs) [] = false := rfl

theorem eqAt_int (A : Around) (s : Shared) (a : Int) (t : Tok) (c : Int) (u : Tok) : ∃ e, SeqAt.EqAt A s (.int a t) (.int c u) e ∧ (e = true ↔ a = c) :=
  ⟨(a == c), SeqAt.EqAt.int_int a t c u, by simp⟩
theorem rcLt_int (A : Around) (s : Shared) (a : Int) (t : Tok) (c : Int) (u : Tok) (prog : Program) (w : World) (E : Value → Shared → Prop) (Q : Value → Shared → Prop) (h : Q (.bool (decide (a < c))) s) :
    wpAny (model prog w) A (richCompare .Lt (.int a t) (.int c u)) Q E s :=
  (PyProof.Rows.lt_int h : wpAny (model prog w) A (compareOp .Lt (.int a t) (.int c u)) Q E s)

section
open PySem.SeqAt
open PySem.AutoSeq1 (wpAny_loadPart')
open PySem.MeetsSeq PySem.MeetsSeq2 PySem.MeetsSeq3

theorem tuple_lt_ints (l b : Addr) (items items2 : Array Value) (n n2 : Nat) (dd dd2 : Option Addr) (sl sl2 : Array (Option Value)) (ns ms : List Int) (hi : IntsAre items.toList ns) (hj : IntsAre items2.toList ms) :
    Meets (Builtin.«tuple.__lt__» ⟨[.ref l, .ref b], []⟩)
      (fun _ R s => s.heap.get? l = some { cls := .type "tuple", dict := dd, data := .seq items n, slots := sl } ∧ s.heap.get? b = some { cls := .type "tuple", dict := dd2, data := .seq items2 n2, slots := sl2 } ∧
        R (.ok (.ret (.bool (lexLt ns ms)))) s) :=
  .of_wp fun prog w A R s h => by
    obtain ⟨hp, g, d, tk, os⟩ := s; obtain ⟨hl, hb, h⟩ := h
    have f2 := AutoSeq1.sub_tuple_tuple
    have z1 : items.size = ns.length := by rw [← hi.length]; simp
    have z2 : items2.size = ms.length := by rw [← hj.length]; simp
    wp_walk using wpAny_loadPart' hl, wpAny_loadPart' hb, wpAny_forIn_list _ (fun rest b s' => b.1 = none ∧ s' = ⟨hp, g, d, tk, os⟩ ∧ ∃ (vs ws : List Value) (ns' ms' : List Int), rest = vs.zip ws ∧
      IntsAre vs ns' ∧ IntsAre ws ms' ∧ ns'.length + items2.size = ms'.length + items.size ∧ R (.ok (.ret (.bool (lexLt ns' ms')))) ⟨hp, g, d, tk, os⟩) _
    case turn =>
      rintro ⟨y, x⟩ rest b s' ⟨hb', rfl, vs, ws, ns', ms', hz, hvi, hwi, hlen, hR⟩
      cases hvi with
      | nil => rw [List.zip_nil_left] at hz; cases hz
      | cons a t hvi' =>
        cases hwi with
        | nil => rw [List.zip_nil_right] at hz; cases hz
        | cons c u hwi' =>
          rw [List.zip_cons_cons] at hz
          injection hz with hyx hrest
          injection hyx with hy hx
          subst hy hx
          rw [lexLt_cons] at hR
          simp only [List.length_cons] at hlen
          obtain ⟨e, he, hiff⟩ := eqAt_int A.in1 ⟨hp, g, d, tk, os⟩ a t c u
          refine wpAny_bind (he prog w _ _ ?_)
          cases e with
          | true =>
            rw [if_pos (hiff.mp rfl)] at hR
            wp_walk
            exact ⟨rfl, rfl, _, _, _, _, hrest, hvi', hwi', by omega, hR⟩
          | false =>
            rw [if_neg (fun q => absurd (hiff.mpr q) Bool.false_ne_true)] at hR
            have hri := rcLt_int A.in1 ⟨hp, g, d, tk, os⟩ a t c u prog w
            wp_walk using hri
            exact ⟨_, rfl, by simpa using hR⟩
    case fin =>
      rintro ⟨b1, b2⟩ s' ⟨hb', rfl, vs, ws, ns', ms', hz, hvi, hwi, hlen, hR⟩
      simp only at hb'
      subst hb'
      have hv : lexLt ns' ms' = decide (items.size < items2.size) := by
        cases hvi with
        | nil =>
          cases hwi with
          | nil =>
            simp only [List.length_nil] at hlen
            rw [lexLt_nil_nil]
            exact (decide_eq_false (by omega)).symm
          | cons c u hw =>
            simp only [List.length_nil, List.length_cons] at hlen
            rw [lexLt_nil_cons]
            exact (decide_eq_true (by omega)).symm
        | cons a t hv =>
          cases hwi with
          | nil =>
            simp only [List.length_nil, List.length_cons] at hlen
            rw [lexLt_cons_nil]
            exact (decide_eq_false (by omega)).symm
          | cons c u hw =>
            rw [List.zip_cons_cons] at hz
            cases hz
      rw [hv] at hR
      wp_walk
      exact ⟨_, rfl, by simpa [Builtin.Tuple.tupleCompareSizes] using hR⟩
    case h =>
      exact ⟨rfl, rfl, items.toList, items2.toList, ns, ms, rfl, hi, hj, by omega, h⟩
end

section
variable {prog : Program} {w : World} {A : Around} {E : Value → Shared → Prop} {s : Shared}

theorem lt_tupInts {l b : Addr} {items items2 : Array Value} {ns ms : List Int} {Q : Value → Shared → Prop} (hl : IsTup s.heap l items) (hb : IsTup s.heap b items2) (hi : IntsAre items.toList ns) (hj : IntsAre items2.toList ms)
    (hu : A.units < cLine) (h : Q (.bool (lexLt ns ms)) s) : wpAny (model prog w) A (compareOp .Lt (.ref l) (.ref b)) Q E s := by
  obtain ⟨⟨cls, dd, data, sl⟩, ho, hc, n, hd⟩ := id hl
  obtain ⟨⟨cls2, dd2, data2, sl2⟩, ho2, hc2, n2, hd2⟩ := id hb
  simp only at hc hd hc2 hd2
  subst hc hd hc2 hd2
  exact richCompare_meets_room (op := .Lt) ⟨_, ho, rfl⟩ ⟨_, ho2, rfl⟩ PySem.F.slot_tuple_lt PySem.F.entry_tuple_lt (PySem.F.args_tuple_lt_2 _ _) (tuple_lt_ints l b items items2 n n2 dd dd2 sl sl2 ns ms hi hj)
    ⟨ho, ho2, show Value.bool (lexLt ns ms) ≠ Value.notImplemented ∧ Q (.bool (lexLt ns ms)) s from ⟨(fun x => nomatch x), h⟩⟩ hu

/-- t + u, t not empty -/
theorem cat_tup {t b : Addr} {vs ws : List Value} {Q : Value → Shared → Prop} (ht : IsTup s.heap t vs.toArray) (hb : IsTup s.heap b ws.toArray) (hv : vs ≠ [])
    (h1 : ws = [] → Q (.ref t) s) (h2 : ws ≠ [] → Q (.ref s.heap.objs.size) { s with heap := s.heap.push { cls := .type "tuple", data := .seq (vs ++ ws).toArray } })
    (hsz : vs.length + ws.length ≤ sizeLine) : wpAny (model prog w) A (binaryOp .Add (.ref t) (.ref b)) Q E s := by
  obtain ⟨⟨cls, dd, data, sl⟩, ho, hc, n, hd⟩ := id ht
  obtain ⟨⟨cls2, dd2, data2, sl2⟩, ho2, hc2, n2, hd2⟩ := id hb
  simp only at hc hd hc2 hd2
  subst hc hd hc2 hd2
  have e : vs.toArray ++ ws.toArray = (vs ++ ws).toArray := by simp
  by_cases hw : ws = []
  · exact concat_meets ⟨_, ho, rfl⟩ ⟨_, ho2, rfl⟩ noFill_tuple_add seq_tuple_add PySem.F.slot_tuple_add PySem.F.entry_tuple_add (PySem.F.args_tuple_add_2 _ _)
      (tuple_addW1 t b vs.toArray ws.toArray n n2 dd dd2 sl sl2 (by simpa using hv) (by simp [hw])) ⟨ho, ho2, h1 hw⟩
  · refine concat_meets ⟨_, ho, rfl⟩ ⟨_, ho2, rfl⟩ noFill_tuple_add seq_tuple_add PySem.F.slot_tuple_add PySem.F.entry_tuple_add (PySem.F.args_tuple_add_2 _ _)
      (tuple_addW2 t b vs.toArray ws.toArray n n2 dd dd2 sl sl2 (by simpa using hv) (by simpa using hw) (by rw [List.size_toArray, List.size_toArray]; exact hsz)) ⟨ho, ho2, ?_⟩
    rw [e]
    exact h2 hw

/-! ### t[a:b], not the whole -/
/-- a slice's bound as a place among n (d where it is left out) -/
def sIx (n d : Nat) : Option Int → Nat
  | none => d
  | some v => if v < 0 then (v + (n : Int)).toNat else min v.toNat n
theorem sIx_none (n d : Nat) : sIx n d none = d := rfl
theorem sIx_nat (n d k : Nat) : sIx n d (some (k : Int)) = min k n := by
  show (if (k : Int) < 0 then ((k : Int) + (n : Int)).toNat else min (k : Int).toNat n) = min k n
  rw [if_neg (by omega), Int.toNat_natCast]
theorem sIx_le (n d : Nat) (hd : d ≤ n) (o : Option Int) : sIx n d o ≤ n := by
  cases o with
  | none => exact hd
  | some v =>
    show (if v < 0 then (v + (n : Int)).toNat else min v.toNat n) ≤ n
    by_cases hv : v < 0
    · rw [if_pos hv]; omega
    · rw [if_neg hv]; exact Nat.min_le_right _ _
theorem clip_eq (v : Int) (n d : Nat) : (if v < 0 then max (v + (n : Int)) 0 else min v (n : Int)) = ((sIx n d (some v) : Nat) : Int) := by
  show (if v < 0 then max (v + (n : Int)) 0 else min v (n : Int)) = (((if v < 0 then (v + (n : Int)).toNat else min v.toNat n) : Nat) : Int)
  by_cases hv : v < 0
  · simp only [if_pos hv]; omega
  · simp only [if_neg hv]; omega
theorem adjust_gen (lo hi : Option Int) (n : Nat) : Builtin.Slice.sliceAdjust lo hi 1 (n : Int) = (((sIx n 0 lo : Nat) : Int), ((sIx n n hi : Nat) : Int)) := by
  have h1 : ¬ ((1 : Int) < 0) := by omega
  unfold Builtin.Slice.sliceAdjust
  simp only [h1, if_false]
  refine Prod.ext ?_ ?_
  · cases lo with
    | none => rfl
    | some v => exact clip_eq v n 0
  · cases hi with
    | none => rfl
    | some v => exact clip_eq v n n
theorem places_gen (i j : Nat) : Builtin.Slice.slicePlaces (i : Int) (j : Int) 1 = j - i := by
  unfold Builtin.Slice.slicePlaces
  have h1 : (1 : Int) > 0 := by omega
  simp only [h1, if_true, Int.ediv_one]
  split <;> omega
theorem slicePart_ {v : Value} {o : Option Int} {Q : Option Int → Shared → Prop} (p : IsPart v o) (h : Q o s) : wpAny (model prog w) A (Builtin.Slice.slicePartIndex v) Q E s := by
  cases p with
  | none => exact slicePart_none h
  | int i t => exact slicePart_int h
theorem sliceApplied_gen {sl : Addr} {vl vu : Value} {lo hi : Option Int} {n : Nat} {Q : Int × Int × Nat → Shared → Prop} (hs : s.heap.IsSliceOf sl vl vu .none) (pl : IsPart vl lo) (pu : IsPart vu hi)
    (h : Q (((sIx n 0 lo : Nat) : Int), 1, sIx n n hi - sIx n 0 lo) s) : wpAny (model prog w) A (Builtin.Slice.sliceApplied (.ref sl) (pure (n : Int))) Q E s := by
  obtain ⟨os, hos, hcs, hds⟩ := id hs
  unfold Builtin.Slice.sliceApplied Builtin.Slice.sliceFields
  refine wpAny_bind (wpAny_bind (wpAny_field hos hds (x := vl) rfl (wpAny_bind (wpAny_field hos hds (x := vu) rfl (wpAny_bind (wpAny_field hos hds (x := .none) rfl (wpAny_pure ?_)))))))
  refine wpAny_bind (slicePart_none ?_)
  show wpAny _ _ (if ((1 : Int) == 0) = true then _ else _) _ _ s
  rw [if_neg (by decide)]
  refine wpAny_bind (slicePart_ pl (wpAny_bind (slicePart_ pu (wpAny_bind (wpAny_pure ?_)))))
  show wpAny _ _ (match Builtin.Slice.sliceAdjust lo hi 1 (n : Int) with | (lo, hi) => pure (lo, (1 : Int), Builtin.Slice.slicePlaces lo hi 1)) _ _ s
  rw [adjust_gen lo hi n]
  show wpAny _ _ (pure (((sIx n 0 lo : Nat) : Int), (1 : Int), Builtin.Slice.slicePlaces ((sIx n 0 lo : Nat) : Int) ((sIx n n hi : Nat) : Int) 1)) _ _ s
  rw [places_gen]
  exact wpAny_pure h
theorem pick_gen (xs : Array Value) (i k : Nat) : ((List.range k).filterMap fun (m : Nat) => xs[((i : Int) + (m : Int) * 1).toNat]?).toArray = ((xs.toList.drop i).take k).toArray := by
  have e : (fun (m : Nat) => xs[((i : Int) + (m : Int) * 1).toNat]?) = fun m => xs[i + m]? := by
    funext m
    have : ((i : Int) + (m : Int) * 1).toNat = i + m := by omega
    rw [this]
  rw [e]
  have := pick_run xs i k
  rw [List.filterMap_map] at this
  have e2 : ((fun x => xs[x]?) ∘ fun x => i + x) = fun m => xs[i + m]? := rfl
  rw [e2] at this
  rw [this]

theorem getItem_tuple_cut {t sl : Addr} {items : Array Value} {vl vu : Value} {lo hi : Option Int} {Q : Value → Shared → Prop} (ht : IsTup s.heap t items) (hs : s.heap.IsSliceOf sl vl vu .none) (pl : IsPart vl lo) (pu : IsPart vu hi)
    (hw : ¬ (sIx items.size 0 lo = 0 ∧ sIx items.size items.size hi = items.size))
    (h : Q (.ref s.heap.objs.size) { s with heap := s.heap.push { cls := .type "tuple", data := .seq ((items.toList.drop (sIx items.size 0 lo)).take (sIx items.size items.size hi - sIx items.size 0 lo)).toArray } })
    (hsz : items.size ≤ sizeLine) : wpAny (model prog w) A (getItem (.ref t) (.ref sl)) Q E s := by
  have htake : sizeOk (.seq ((items.toList.drop (sIx items.size 0 lo)).take (sIx items.size items.size hi - sIx items.size 0 lo)).toArray) := by
    show ((items.toList.drop (sIx items.size 0 lo)).take (sIx items.size items.size hi - sIx items.size 0 lo)).toArray.size ≤ sizeLine
    rw [List.size_toArray, List.length_take, List.length_drop, Array.length_toList]
    omega
  have hj : sIx items.size items.size hi ≤ items.size := sIx_le _ _ (Nat.le_refl _) hi
  obtain ⟨os, hos, hcs, hds⟩ := id hs
  have hTs : s.TypeIs (.ref sl) "slice" := ⟨os, hos, hcs⟩
  unfold getItem
  try with_reducible refine wpAny_holding ?_
  first | refine wpAny_bind (wpAny_pure ?_) | skip
  refine wpAny_bind (wpAny_sequenceKey ht.typeIs (by decide) ?_)
  refine wpAny_bind (wpAny_callSpecial?_slot (name := Str.ofString "__getitem__") ht.typeIs PyProof.Rows.slot_tuple_getitem
    (wpAny_call_entry PyProof.Rows.slot_tuple_getitem ht.typeIs entry_tuple_getitem ?_ (args_tuple_getitem _ _)))
  show wpAny _ _ (Builtin.Tuple.tupleItemsOf (.ref t) >>= _) _ _ s
  refine wpAny_bind (tupleItemsOf_ ht ?_)
  refine wpAny_bind (wpAny_typeOf hTs ?_)
  rw [if_pos (by decide)]
  refine wpAny_bind (sliceApplied_gen hs pl pu ?_)
  have hno : ¬ ((((sIx items.size 0 lo : Nat) : Int) == 0 && (1 : Int) == 1 && (sIx items.size items.size hi - sIx items.size 0 lo) == items.size) = true) := by
    intro q
    rw [Bool.and_eq_true, Bool.and_eq_true] at q
    have q1 : ((sIx items.size 0 lo : Nat) : Int) = 0 := eq_of_beq q.1.1
    have q2 : sIx items.size items.size hi - sIx items.size 0 lo = items.size := eq_of_beq q.2
    exact hw ⟨by omega, by omega⟩
  show wpAny _ _ (if (((sIx items.size 0 lo : Nat) : Int) == 0 && (1 : Int) == 1 && (sIx items.size items.size hi - sIx items.size 0 lo) == items.size) = true then _ else _) _ _ s
  rw [if_neg hno, pick_gen]
  first
    | exact wpAny_bind (m := Builtin.Tuple.tupleExact _) (wpAny_newObj_type (wpAny_pure ⟨_, rfl, wpAny_pure h⟩) htake)
    | exact wpAny_bind (m := Builtin.Tuple.tupleExact _) (wpAny_newObj_type (wpAny_bind (wpAny_pure (wpAny_pure ⟨_, rfl, wpAny_pure h⟩))) htake)
    | exact wpAny_bind (wpAny_bind (m := Builtin.Tuple.tupleExact _) (wpAny_newObj_type (wpAny_pure (wpAny_pure ⟨_, rfl, wpAny_pure h⟩)) htake))
    | exact wpAny_bind (wpAny_bind (m := Builtin.Tuple.tupleExact _) (wpAny_newObj_type (wpAny_pure ⟨_, rfl, wpAny_pure h⟩) htake))
end
end HT

namespace L2
open PySem PySem.Spec PyProof.Rows

/-! ### the parts of a slice -/
abbrev TO := St → Hp → (Option Int → Hp → Prop) → Prop
/-- a slice's part (left out, or an int) -/
def PO (X : Cx) (e : Option Expr) (t : TO) : Prop :=
  ∀ (pins : List (Addr × Obj)) (s : Shared) (σ : St) (H : Hp) (Q : Option Int → Hp → Prop), Inv X pins σ H s → t σ H Q →
    wpAny (model X.prog X.w) X.A (evalPart e X.env) (fun u s' => ∃ o H', Inv X pins σ H' s' ∧ IsPart u o ∧ Q o H') X.xe s
def tNoPart : TO := fun _ H Q => Q none H
def tPart (t : TE) : TO := fun σ H Q => t σ H fun x H1 => ∃ i, x = .int i ∧ Q (some i) H1

theorem intsAre_of {ns : List Int} : ∀ {us : List Value}, Vals (ns.map V.int) us → IntsAre us ns := by
  induction ns with
  | nil => intro us r; rw [List.map_nil] at r; cases r; exact .nil
  | cons n ns ih =>
    intro us r
    rw [List.map_cons] at r
    cases r with
    | cons r1 r2 =>
      obtain ⟨t, e⟩ := r1
      subst e
      exact .cons n t (ih r2)

section
variable {X : Cx} {e : Expr} {te : TE} {lo hi : Option Expr} {tl th : TO} {pos p2 : Pos}

theorem po_none : PO X none tNoPart := by
  intro pins s σ H Q I h
  rw [evalPart_none]
  exact wpAny_pure ⟨none, H, I, .none, h⟩
theorem po_some (h : PE X e te) : PO X (some e) (tPart te) := by
  intro pins s σ H Q I hw
  rw [evalPart_some]
  refine thn (h pins s σ H _ I hw) fun u s1 ⟨x, H1, I1, r1, q1⟩ => ?_
  obtain ⟨i, rfl, q⟩ := q1
  obtain ⟨t, rfl⟩ := r1
  exact ⟨some i, H1, I1, .int i t, q⟩

/-- what a slice of a value is, by values: the slice object stands at sl -/
def SlR (X : Cx) (r : V → Option Int → Option Int → Hp → VK → Prop) : Prop :=
  ∀ (pins : List (Addr × Obj)) (s : Shared) (σ : St) (H : Hp) (x : V) (v vl vu : Value) (lo hi : Option Int) (sl : Addr) (Q : VK), Inv X pins σ H s → RelV x v → s.heap.IsSliceOf sl vl vu .none → IsPart vl lo → IsPart vu hi → r x lo hi H Q →
    ∃ T id, typeLookup (.type T) "__getitem__" = pure (some (.builtin id)) ∧ s.TypeIs v T ∧ wpAny (model X.prog X.w) X.A (getItem v (.ref sl)) (EP X pins σ Q) X.xe s
def tSl (r : V → Option Int → Option Int → Hp → VK → Prop) (te : TE) (tl th : TO) : TE := fun σ H Q => te σ H fun x H1 => tl σ H1 fun l H2 => th σ H2 fun u H3 => r x l u H3 Q
/-- a[lo:hi], any a -/
theorem pe_slice {r : V → Option Int → Option Int → Hp → VK → Prop} (hr : SlR X r) (he : PE X e te) (hl : PO X lo tl) (hu : PO X hi th) : PE X (.Subscript e (.Slice lo hi none p2) pos) (tSl r te tl th) := by
  intro pins s σ H Q I h
  refine Subscript_ (thn (he pins s σ H _ I h) fun v s1 ⟨x, H1, I1, r1, q1⟩ => ?_)
  refine wpAny_Slice (thn (hl pins s1 σ H1 _ I1 q1) fun vl s2 ⟨l, H2, I2, pl, q2⟩ => thn (hu pins s2 σ H2 _ I2 q2) fun vu s3 ⟨u, H3, I3, pu, q3⟩ => ?_)
  rw [evalPart_none]
  refine wpAny_pure ?_
  have I4 : Inv X pins σ H3 { s3 with heap := s3.heap.push { cls := .type "slice", data := .fields #[vl, vu, .none] } } := I3.kept (t' := s3.toks) fun b ob q => Heap.get?_push_of_some _ q
  obtain ⟨T, id, hT, ht, hg⟩ := hr pins { s3 with heap := s3.heap.push { cls := .type "slice", data := .fields #[vl, vu, .none] } } σ H3 x v vl vu l u s3.heap.objs.size Q I4 r1 (Heap.IsSliceOf.new ..) pl pu q3
  show wpAny (model X.prog X.w) X.A (subscriptTail e (.Slice lo hi none p2) v (.ref s3.heap.objs.size)) (EP X pins σ Q) X.xe { s3 with heap := s3.heap.push { cls := .type "slice", data := .fields #[vl, vu, .none] } }
  exact tail_any (ops := [.ref s3.heap.objs.size, v]) ht hT hg (by with_unfolding_all rfl)

/-- the items of xs[lo:hi] -/
def cutV (xs : List V) (lo hi : Option Int) : List V := (xs.drop (HT.sIx xs.length 0 lo)).take (HT.sIx xs.length xs.length hi - HT.sIx xs.length 0 lo)
theorem cutV_length (xs : List V) (lo hi : Option Int) : (cutV xs lo hi).length ≤ xs.length := by
  unfold cutV
  rw [List.length_take, List.length_drop]
  omega
/-- t[lo:hi], not the whole of it (the whole would be t itself) -/
def rSlT (K : PySem.W.Frag) : V → Option Int → Option Int → Hp → VK → Prop := fun x lo hi H Q => ∃ a xs, x = .ref a ∧ SqT K H a xs ∧
  ¬ (HT.sIx xs.length 0 lo = 0 ∧ HT.sIx xs.length xs.length hi = xs.length) ∧ ∀ p, H p = none → Q (.ref p) (upd H p (.tup (cutV xs lo hi)))
theorem sl_tup : SlR X (rSlT X.K) := by
  intro pins s σ H x v vl vu lo hi sl Q I rx hs pl pu h
  obtain ⟨a, xs, rfl, hx, hw, q⟩ := h
  cases rx
  obtain ⟨its, r, ht, hz⟩ := I.tuple hx
  have hlen : its.toArray.size = xs.length := by rw [List.size_toArray]; exact r.length.symm
  refine ⟨"tuple", _, PyProof.Rows.slot_tuple_getitem.lookup, ht.typeIs, ?_⟩
  refine HT.getItem_tuple_cut ht hs pl pu (by rw [hlen]; exact hw) ?_ (by rw [hlen]; exact hz)
  rw [hlen]
  refine ⟨.ref s.heap.objs.size, _, I.laid (t' := s.toks) (o := .tup (cutV xs lo hi)) (fun b ob q => Heap.get?_push_of_some _ q) (Nat.le_refl _) ?_, rfl, q _ (I.hok.fresh (Nat.le_refl _))⟩
  exact ⟨Nat.le_trans (cutV_length xs lo hi) hz, _, (r.drop (HT.sIx xs.length 0 lo)).take (HT.sIx xs.length xs.length hi - HT.sIx xs.length 0 lo), IsTup.new _ _⟩

/-! ### t < u, t + u -/
def rLtT (K : PySem.W.Frag) : R2 := fun x y H Q => ∃ a b ns ms, x = .ref a ∧ y = .ref b ∧ SqT K H a (ns.map V.int) ∧ SqT K H b (ms.map V.int) ∧ Q (.bl (HT.lexLt ns ms)) H
theorem op_ltT (hu : X.A.units < cLine) : OpR X (compareOp .Lt) (rLtT X.K) := by
  intro pins s σ H x y v u Q I rx ry h
  obtain ⟨a, b, ns, ms, rfl, rfl, ha, hb, q⟩ := h
  cases rx
  cases ry
  obtain ⟨its, r1, p1, _⟩ := I.tuple ha
  obtain ⟨its2, r2, p2, _⟩ := I.tuple hb
  have i1 : IntsAre its.toArray.toList ns := intsAre_of r1
  have i2 : IntsAre its2.toArray.toList ms := intsAre_of r2
  exact HT.lt_tupInts p1 p2 i1 i2 hu ⟨.bl (HT.lexLt ns ms), H, I, rfl, q⟩
/-- t + u, t not empty: u empty gives t itself -/
def rCatT (K : PySem.W.Frag) : R2 := fun x y H Q => ∃ a b xs ys, x = .ref a ∧ y = .ref b ∧ SqT K H a xs ∧ SqT K H b ys ∧ xs ≠ [] ∧ xs.length + ys.length ≤ sizeLine ∧
  (ys = [] → Q (.ref a) H) ∧ (ys ≠ [] → ∀ p, H p = none → Q (.ref p) (upd H p (.tup (xs ++ ys))))
theorem Vals.nil_iff {xs : List V} {us : List Value} (r : Vals xs us) : us = [] ↔ xs = [] := by
  cases r with
  | nil => simp
  | cons _ _ => simp
theorem op_catT : OpR X (binaryOp .Add) (rCatT X.K) := by
  intro pins s σ H x y v u Q I rx ry h
  obtain ⟨a, b, xs, ys, rfl, rfl, ha, hb, hx, hz, q1, q2⟩ := h
  cases rx
  cases ry
  obtain ⟨its, r1, p1, _⟩ := I.tuple ha
  obtain ⟨its2, r2, p2, _⟩ := I.tuple hb
  refine HT.cat_tup p1 p2 (fun z => hx (r1.nil_iff.mp z)) (fun z => ⟨.ref a, H, I, rfl, q1 (r2.nil_iff.mp z)⟩) (fun z => ?_) (by rw [← r1.length, ← r2.length]; exact hz)
  refine ⟨.ref s.heap.objs.size, _, I.laid (t' := s.toks) (o := .tup (xs ++ ys)) (fun b ob q => Heap.get?_push_of_some _ q) (Nat.le_refl _) ?_, rfl, q2 (fun w => z (r2.nil_iff.mpr w)) _ (I.hok.fresh (Nat.le_refl _))⟩
  exact ⟨by rw [List.length_append]; exact hz, _, r1.append r2, IsTup.new _ _⟩
end
end L2

namespace L2
open PySem PySem.Spec PyProof.Rows

/-! ### places -/
/-- the place that an index of any sign means -/
def ixN (n : Nat) (i : Int) : Option Nat := if 0 ≤ i then (if i < n then some i.toNat else none) else if -(n : Int) ≤ i then some (i + n).toNat else none
def atI {α : Type} (xs : List α) (i : Int) : Option α := (ixN xs.length i).bind fun j => xs[j]?
theorem ixN_seq {n : Nat} {i : Int} {j : Nat} (h : ixN n i = some j) : seqIndex? i n = some j ∧ j < n ∧ -(n : Int) ≤ i ∧ i < n := by
  unfold ixN at h
  by_cases h0 : 0 ≤ i
  · rw [if_pos h0] at h
    by_cases h1 : i < n
    · rw [if_pos h1] at h
      have e : i.toNat = j := Option.some.inj h
      exact ⟨by rw [seqIndex_of h0 h1, e], by omega, by omega, h1⟩
    · rw [if_neg h1] at h; cases h
  · rw [if_neg h0] at h
    by_cases h1 : -(n : Int) ≤ i
    · rw [if_pos h1] at h
      have e : (i + n).toNat = j := Option.some.inj h
      exact ⟨by rw [seqIndex_neg (by omega) h1, e], by omega, h1, by omega⟩
    · rw [if_neg h1] at h; cases h
theorem atI_get {α : Type} {xs : List α} {i : Int} {v : α} (h : atI xs i = some v) : ∃ j, seqIndex? i xs.length = some j ∧ xs[j]? = some v ∧ j < xs.length ∧ -(xs.length : Int) ≤ i ∧ i < xs.length := by
  unfold atI at h
  cases e : ixN xs.length i with
  | none => rw [e] at h; cases h
  | some j =>
    rw [e] at h
    obtain ⟨h1, h2, h3, h4⟩ := ixN_seq e
    exact ⟨j, h1, h, h2, h3, h4⟩
theorem atI_nat {α : Type} {xs : List α} {j : Nat} {v : α} (h : xs[j]? = some v) : atI xs (j : Int) = some v := by
  have hj : j < xs.length := (List.getElem?_eq_some_iff.mp h).1
  have e : ixN xs.length (j : Int) = some j := by
    unfold ixN
    rw [if_pos (by omega), if_pos (by omega)]; simp
  unfold atI; rw [e]; exact h
/-! ### what may be subscripted -/
/-- what stands as an index of a plain subscript -/
def PlainIx (b : Expr) : Prop := ∀ o i, subscripted b false o i = operate [o, i] (getItem o i)
/-- a subscript by values -/
def IxR (X : Cx) (r : R2) : Prop :=
  ∀ (value slice : Expr) (pins : List (Addr × Obj)) (s : Shared) (σ : St) (H : Hp) (x y : V) (v u : Value) (Q : VK), Inv X pins σ H s → RelV x v → RelV y u → r x y H Q →
    subscripted slice false v u = operate [v, u] (getItem v u) → wpAny (model X.prog X.w) X.A (subscriptTail value slice v u) (EP X pins σ Q) X.xe s
/-- a call of a builtin's method by values: the receiver, the arguments -/
def MtR (X : Cx) (id : String) (r : V → List V → Hp → VK → Prop) : Prop :=
  ∀ (pins : List (Addr × Obj)) (s : Shared) (σ : St) (H : Hp) (x : V) (xs : List V) (v : Value) (us : List Value) (Q : VK), Inv X pins σ H s → RelV x v → Vals xs us → r x xs H Q →
    wpAny (model X.prog X.w) X.A (call (.builtin id) (v :: us)) (EP X pins σ Q) X.xe s
section
variable {X : Cx} {a b : Expr} {ta tb : TE} {pos : Pos}
/-- a[b] -/
theorem pe_ix {r : R2} (hr : IxR X r) (ha : PE X a ta) (hb : PE X b tb) (hs : PlainIx b) : PE X (.Subscript a b pos) (tOp r ta tb) := by
  intro pins s σ H Q I h
  exact Subscript_ (binT ha hb I h fun v u s2 x y H2 I2 rx ry q => hr a b pins s2 σ H2 x y v u Q I2 rx ry q (hs _ _))

def rIxL (K : PySem.W.Frag) : R2 := fun x y H Q => ∃ p xs i v, x = .ref p ∧ y = .int i ∧ SqL K H p xs ∧ atI xs i = some v ∧ Q v H
def rIxT (K : PySem.W.Frag) : R2 := fun x y H Q => ∃ p xs i v, x = .ref p ∧ y = .int i ∧ SqT K H p xs ∧ atI xs i = some v ∧ Q v H
theorem ix_list : IxR X (rIxL X.K) := by
  intro value slice pins s σ H x y v u Q I rx ry h hs
  obtain ⟨p, xs, i, z, rfl, rfl, hq, he, q⟩ := h
  cases rx
  obtain ⟨t, rfl⟩ := ry
  obtain ⟨its, r, pl, hz⟩ := I.list hq
  obtain ⟨j, h1, h2, h3, h4, h5⟩ := atI_get he
  obtain ⟨w, ew, rw'⟩ := r.get h2
  have hl := r.length
  have hn := line63
  have fin : EP X pins σ Q w s := ⟨z, H, I, rw', q⟩
  by_cases h0 : 0 ≤ i
  · have hj : i.toNat = j := by
      rw [seqIndex_of h0 h5] at h1
      exact Option.some.inj h1
    exact item_listR pl.isList h0 (by omega) (by rw [hj]; simpa using ew) fin hs
  · have hj : (i + (its.toArray.size : Int)).toNat = j := by
      rw [seqIndex_neg (by omega) h4] at h1
      rw [List.size_toArray, ← hl]
      exact Option.some.inj h1
    exact subscriptTail_builtinR (x := w) pl.isList.typeIs slot_list_getitem.lookup
      (wpAny_getItem_list_neg (Q := fun r s' => r = w ∧ EP X pins σ Q r s') pl.isList (by omega) (by rw [List.size_toArray] <;> omega) (by omega) (by rw [hj]; simpa using ew) ⟨rfl, fin⟩) hs
theorem ix_tup : IxR X (rIxT X.K) := by
  intro value slice pins s σ H x y v u Q I rx ry h hs
  obtain ⟨p, xs, i, z, rfl, rfl, hq, he, q⟩ := h
  cases rx
  obtain ⟨t, rfl⟩ := ry
  obtain ⟨its, r, pl, hz⟩ := I.tuple hq
  obtain ⟨j, h1, h2, h3, h4, h5⟩ := atI_get he
  obtain ⟨w, ew, rw'⟩ := r.get h2
  have hl := r.length
  have hn := line63
  have fin : EP X pins σ Q w s := ⟨z, H, I, rw', q⟩
  exact subscriptTail_builtinR (x := w) pl.typeIs slot_tuple_getitem.lookup
    (getItem_tuple (j := j) (Q := fun r s' => r = w ∧ EP X pins σ Q r s') pl (by omega) (by omega) (by rw [List.size_toArray, ← hl]; exact h1) (by simpa using ew) ⟨rfl, fin⟩) hs
/-! ### xs[i] = v, any sign -/
/-! ### slices -/
theorem slice_bounds (lo hi : Option Int) (n : Nat) : (sliceBounds lo hi none n).1 = ((HT.sIx n 0 lo : Nat) : Int) ∧ (sliceBounds lo hi none n).2.1 = ((HT.sIx n n hi : Nat) : Int) ∧ (sliceBounds lo hi none n).2.2 = 1 := by
  refine ⟨?_, ?_, rfl⟩
  · cases lo with
    | none => simp [sliceBounds, HT.sIx]
    | some i =>
      simp only [sliceBounds, HT.sIx, Option.getD_none, show (1 : Int) > 0 by decide, if_true]
      by_cases h : i < 0
      · simp only [h, if_true] <;> omega
      · simp only [h, if_false] <;> omega
  · cases hi with
    | none => simp [sliceBounds, HT.sIx]
    | some i =>
      simp only [sliceBounds, HT.sIx, Option.getD_none, show (1 : Int) > 0 by decide, if_true]
      by_cases h : i < 0
      · simp only [h, if_true] <;> omega
      · simp only [h, if_false] <;> omega
theorem slicePick_cut (its : List Value) (lo hi : Option Int) : slicePick its.toArray lo hi none = ((its.drop (HT.sIx its.length 0 lo)).take (HT.sIx its.length its.length hi - HT.sIx its.length 0 lo)).toArray := by
  obtain ⟨h1, h2, h3⟩ := slice_bounds lo hi its.toArray.size
  unfold slicePick
  rw [h1, h2, h3]
  simp only [sliceRange_one, pick_run, List.size_toArray] <;> rfl
/-- xs[lo:hi] of a list: a new list -/
def rSlL (K : PySem.W.Frag) : V → Option Int → Option Int → Hp → VK → Prop := fun x lo hi H Q => ∃ a xs, x = .ref a ∧ SqL K H a xs ∧ ∀ p, H p = none → Q (.ref p) (upd H p (.lst (cutV xs lo hi)))
theorem sl_list : SlR X (rSlL X.K) := by
  intro pins s σ H x v vl vu lo hi sl Q I rx hs pl pu h
  obtain ⟨a, xs, rfl, hx, q⟩ := h
  cases rx
  obtain ⟨its, r, ht, hz⟩ := I.list hx
  have hlen := r.length
  refine ⟨"list", _, slot_list_getitem.lookup, ht.isList.typeIs, ?_⟩
  refine wpAny_getItem_list_slice ht.isList hs pl pu .none (by simp) ?_ (by rw [List.size_toArray] <;> omega)
  rw [slicePick_cut, ← hlen]
  refine ⟨.ref s.heap.objs.size, _, I.laid (t' := s.toks) (o := .lst (cutV xs lo hi)) (fun b ob q => Heap.get?_push_of_some _ q) (Nat.le_refl _) ?_, rfl, q _ (I.hok.fresh (Nat.le_refl _))⟩
  exact ⟨Nat.le_trans (cutV_length xs lo hi) hz, _, 0, (r.drop (HT.sIx xs.length 0 lo)).take (HT.sIx xs.length xs.length hi - HT.sIx xs.length 0 lo), Heap.get?_push_size _ rfl⟩

/-! ### in, not in: flat items -/
/-! ### len, list(x), tuple(x) of any list or tuple that is read -/
theorem call_len_seq : CallR X (.builtin "len") (fun xs H Q => ∃ p ys, xs = [.ref p] ∧ (SqL X.K H p ys ∨ SqT X.K H p ys) ∧ Q (.int ys.length) H) := by
  intro pins s σ H xs us Q I r h
  obtain ⟨p, ys, rfl, hq, q⟩ := h
  obtain ⟨u, rfl, rx⟩ := vals1 r
  cases rx
  have hn := line63
  rcases hq with hq | hq
  · obtain ⟨its, r', pl, hz⟩ := I.list hq
    have hlen := r'.length
    exact Calls.call_len_list pl.isList (by simp only [List.size_toArray] <;> omega) ⟨.int ys.length, H, I.tok _, ⟨s.toks + 1, by rw [List.size_toArray, hlen]⟩, q⟩
  · obtain ⟨its, r', pl, hz⟩ := I.tuple hq
    have hlen := r'.length
    exact len_tuple pl (by simp only [List.size_toArray] <;> omega) ⟨.int ys.length, H, I.tok _, ⟨s.toks + 1, by rw [List.size_toArray, hlen]⟩, q⟩
theorem call_tuple_of : CallR X (.type "tuple") (fun xs H Q => ∃ p ys, xs = [.ref p] ∧ ((SqL X.K H p ys ∧ ∀ l, H l = none → Q (.ref l) (upd H l (.tup ys))) ∨ (SqT X.K H p ys ∧ Q (.ref p) H))) := by
  intro pins s σ H xs us Q I r h
  obtain ⟨p, ys, rfl, h⟩ := h
  obtain ⟨u, rfl, rx⟩ := vals1 r
  cases rx
  rcases h with ⟨hq, q⟩ | ⟨hq, q⟩
  · obtain ⟨its, r', pl, hz⟩ := I.list hq
    have hlen := r'.length
    refine call_tuple_list pl.isList (fun h' kp => ?_) (by simp only [List.size_toArray] <;> omega)
    have I1 : Inv X pins σ H { s with heap := h' } := I.kept (t' := s.toks) kp
    have I2 : Inv X pins σ (upd H h'.objs.size (.tup ys)) { s with heap := h'.push { cls := .type "tuple", data := .seq its.toArray } } :=
      I1.laid (t' := s.toks) (fun b o e => Heap.get?_push_of_some _ e) (Nat.le_refl _) (show ObjOk X.prog X.w _ _ _ (.tup ys) from ⟨hz, its, r', IsTup.new _ _⟩)
    exact ⟨.ref h'.objs.size, _, I2, rfl, q _ (I1.hok.fresh (Nat.le_refl _))⟩
  · obtain ⟨its, r', pl, hz⟩ := I.tuple hq
    exact call_tuple_same pl ⟨.ref p, H, I, rfl, q⟩

/-! ### the call of a builtin's method: o.m(..) -/
/-- the value is of that builtin type -/
def tyV (K : PySem.W.Frag) (T : String) (x : V) (H : Hp) : Prop := match x with
  | .str _ => T = "str"
  | .int _ => T = "int"
  | .ref p => (T = "list" ∧ ∃ xs, SqL K H p xs) ∨ (T = "tuple" ∧ ∃ o, K.lookup p = some o ∧ o.cls = .type "tuple" ∧ o.dict = none) ∨
      (T = "dict" ∧ ((∃ kvs, H p = some (.dK kvs)) ∨ ∃ kvs, H p = some (.dT kvs))) ∨ (T = "set" ∧ ∃ S n, H p = some (.set S n))
  | _ => False
theorem tyV_is {pins : List (Addr × Obj)} {σ : St} {H : Hp} {s : Shared} {T : String} {x : V} {v : Value} (I : Inv X pins σ H s) (r : RelV x v) (ty : tyV X.K T x H) :
    s.TypeIs v T ∧ ∀ a, v = .ref a → ∃ ob, s.heap.get? a = some ob ∧ ob.dict = none := by
  cases x with
  | str z =>
    obtain ⟨t, rfl⟩ := r
    cases (show T = "str" from ty)
    exact ⟨typeIs_str s z t, fun _ e => nomatch e⟩
  | int i =>
    obtain ⟨t, rfl⟩ := r
    cases (show T = "int" from ty)
    exact ⟨typeIs_int s i t, fun _ e => nomatch e⟩
  | ref p =>
    cases r
    rcases ty with ⟨rfl, xs, hq⟩ | ⟨rfl, o, hk, hc, hd⟩ | ⟨rfl, hk⟩ | ⟨rfl, S, n, hk⟩
    · obtain ⟨its, _, pl, _⟩ := I.list hq
      refine ⟨pl.isList.typeIs, fun a e => ?_⟩
      cases e
      obtain ⟨o, n, e, c, hd, _⟩ := pl
      exact ⟨o, e, hd⟩
    · refine ⟨⟨o, I.kIn p o hk, hc⟩, fun a e => ?_⟩
      cases e
      exact ⟨o, I.kIn _ o hk, hd⟩
    · have z : ∃ o, s.heap.get? p = some o ∧ o.ExactDict := by
        rcases hk with ⟨kvs, hk⟩ | ⟨kvs, hk⟩
        · obtain ⟨_, _, _, _, o, _, _, e, ex, _⟩ := I.hok p _ hk
          exact ⟨o, e, ex⟩
        · obtain ⟨_, _, _, _, o, _, _, e, ex, _⟩ := I.hok p _ hk
          exact ⟨o, e, ex⟩
      obtain ⟨o, e, ex⟩ := z
      refine ⟨⟨o, e, ex.1⟩, fun a e2 => ?_⟩
      cases e2
      exact ⟨o, e, ex.2.1⟩
    · obtain ⟨o, _, _, _, e, ex, _⟩ := I.hok p _ hk
      refine ⟨⟨o, e, ex.1⟩, fun a e2 => ?_⟩
      cases e2
      exact ⟨o, e, ex.2.1⟩
  | _ => exact False.elim ty
def tBM (K : PySem.W.Frag) (T : String) (r : V → List V → Hp → VK → Prop) (to : TE) (t : TA) : TE := fun σ H Q => to σ H fun x H1 => tyV K T x H1 ∧ t σ H1 fun xs H2 => r x xs H2 Q
variable {o e : Expr} {es : List Expr} {to : TE} {t : TA} {name : Str} {apos cpos : Pos} {T id : String} {r : V → List V → Hp → VK → Prop}
theorem pe_bm (pa : PlainAttrs T) (slot : Slot T name id) (hty : typeOf (.builtin id) = pure (.type "method_descriptor")) (hm : MtR X id r) (ho : PE X o to) (ha : PA X (e :: es) t)
    (hbase : attributeBase o name X.env (eval o X.env) = eval o X.env := by rfl)
    (hfew : ((backTo cpos (starEach (e :: es) X.env)).all (fun x => !x.1) && (backToKw cpos (keywordEach [] X.env)).all (fun x => x.1.isSome)
      && decide ((e :: es).length + ([] : List Keyword).length + (if ([] : List Keyword).isEmpty then 0 else 1) < 30)) = true := by rfl)
    (hline : (apos.endLine == cpos.line) = true := by rfl) (hs : starEach (e :: es) X.env = (false, eval e X.env) :: starEach es X.env := by rfl) (hplain : (backTo cpos (starEach es X.env)).any (·.1) = false := by rfl) :
    PE X (.Call (.Attribute o name apos) (e :: es) [] cpos) (tBM X.K T r to t) := by
  intro pins s σ H Q I h
  refine wpAny_Call_method_late hbase hfew hline rfl (thn (ho pins s σ H _ I h) fun v s1 ⟨x, H1, I1, r1, ty, q1⟩ => ?_)
  obtain ⟨h1, h2⟩ := tyV_is I1 r1 ty
  refine ⟨T, id, pa, slot, hty, h1, h2, ?_⟩
  have hA := ha cpos pins s1 σ H1 _ I1 q1
  rw [hs] at hA ⊢
  refine Calls.callWith_builtin (by show (false || (backTo cpos (starEach es X.env)).any (·.1)) = false; rw [hplain] <;> rfl) (Calls.evalArgs_plain ?_)
  exact thn hA fun us s2 ⟨vs, H2, I2, r2, q2⟩ => hm pins s2 σ H2 x vs v us Q I2 r1 r2 q2
/- xs.append(e), list.index on a module's tuple .. are MtR facts of 06m -/
end
end L2

namespace L2
open PySem PySem.Spec PyProof.Rows

def MtM (X : Cx) (id : String) (r : V → List V → Hp → VK → Prop) : Prop :=
  ∀ (pins : List (Addr × Obj)) (s : Shared) (σ : St) (H : Hp) (x : V) (xs : List V) (v : Value) (us : List Value) (Q : VK), Inv X pins σ H s → RelV x v → Vals xs us → r x xs H Q →
    wpAny (model X.prog X.w) X.A (call (.builtin id) (v :: us)) (EP X pins σ Q) X.xe s

/-! ### lists of values -/
theorem Vals.one : ∀ {x : V} {us : List Value}, Vals [x] us → ∃ u, us = [u] ∧ RelV x u
  | _, _, .cons r .nil => ⟨_, rfl, r⟩
section
variable {X : Cx} {pins : List (Addr × Obj)} {σ : St} {H : Hp} {s : Shared} {l b : Addr} {xs ys zs : List V}

/-! ### the two steps: a tracked list is rewritten, a new list is laid -/
theorem Inv.lset {its its' : List Value} {n : Nat} {f : Array Value → Array Value} {t' : Nat} (I : Inv X pins σ H s) (hH : H l = some (.lst xs))
    (e : s.heap.get? l = some { cls := .type "list", data := .seq its.toArray n }) (hf : f its.toArray = its'.toArray) (hv : Vals ys its') (hz : ys.length ≤ sizeLine) :
    Inv X pins σ (upd H l (.lst ys)) { s with heap := s.heap.update l (Obj.mapSeq f), toks := t' } := by
  have q := PySem.IsL.update e f
  rw [hf] at q
  refine I.write (x := l) (e := l) (by rw [hH]; exact trivial) (.inl rfl) (fun b' u hb hu => (Heap.get?_update_other s.heap (Obj.mapSeq f) (Ne.symm hb)).trans hu) ⟨_, q⟩ ?_
  exact ⟨hz, its', _, hv, q⟩
theorem Inv.lnew {its : List Value} {t' : Nat} (I : Inv X pins σ H s) (hv : Vals ys its) (hz : ys.length ≤ sizeLine) :
    Inv X pins σ (upd H s.heap.objs.size (.lst ys)) { s with heap := s.heap.push { cls := .type "list", data := .seq its.toArray }, toks := t' } :=
  I.laid (fun _ _ q => Heap.get?_push_of_some _ q) (Nat.le_refl _) ⟨hz, its, 0, hv, Heap.get?_push_size _ rfl⟩
theorem Inv.fresh (I : Inv X pins σ H s) : H s.heap.objs.size = none := I.hok.fresh (Nat.le_refl _)
theorem Inv.lstM (I : Inv X pins σ H s) (hH : H l = some (.lst xs)) : xs.length ≤ sizeLine ∧ ∃ (its : List Value) (n : Nat), Vals xs its ∧ xs.length = its.length ∧ s.heap.get? l = some { cls := .type "list", data := .seq its.toArray n } := by
  obtain ⟨z, its, n, r, e⟩ := I.hok l _ hH
  exact ⟨z, its, n, r, r.length, e⟩

theorem notLongL {n : Nat} (h : n ≤ sizeLine) : Builtin.List.listTooLong n = false := by
  unfold Builtin.List.listTooLong
  exact decide_eq_false (by omega)
end

section
variable {X : Cx}

/-! ### methods -/
def rAppend : V → List V → Hp → VK → Prop := fun x vs H Q => ∃ l xs y, x = .ref l ∧ vs = [y] ∧ H l = some (.lst xs) ∧ xs.length < sizeLine ∧ Q .non (upd H l (.lst (xs ++ [y])))
theorem mt_append : MtM X "list.append" rAppend := by
  intro pins s σ H x vs v us Q I rx rv h
  obtain ⟨l, xs, y, rfl, rfl, hH, hz, q⟩ := h
  cases rx
  obtain ⟨u, rfl, ru⟩ := rv.one
  obtain ⟨z, its, n, r, hl, e⟩ := I.lstM hH
  refine call_meets F.slot_list_append ⟨_, e, rfl⟩ F.entry_list_append (F.args_list_append_2 _ _) (PySem.list_append l its.toArray n u (by rw [List.size_toArray]; omega)) ⟨e, ?_⟩
  refine ⟨.non, _, I.lset (its' := its ++ [u]) hH e (by simp) (r.append (.cons ru .nil)) ?_, rfl, q⟩
  rw [List.length_append, List.length_singleton]
  omega

def rExtend : V → List V → Hp → VK → Prop := fun x vs H Q => ∃ l b xs zs, x = .ref l ∧ vs = [.ref b] ∧ H l = some (.lst xs) ∧ H b = some (.lst zs) ∧ xs.length + zs.length ≤ sizeLine ∧ Q .non (upd H l (.lst (xs ++ zs)))
theorem mt_extend : MtM X "list.extend" rExtend := by
  intro pins s σ H x vs v us Q I rx rv h
  obtain ⟨l, b, xs, zs, rfl, rfl, hH, hB, hz, q⟩ := h
  cases rx
  obtain ⟨u, rfl, ru⟩ := rv.one
  cases ru
  obtain ⟨z, its, n, r, hl, e⟩ := I.lstM hH
  obtain ⟨z2, its2, n2, r2, hl2, e2⟩ := I.lstM hB
  have hsz : its.toArray.size + its2.toArray.size ≤ sizeLine := by rw [List.size_toArray, List.size_toArray]; omega
  have hlong : ¬ (!its.toArray.isEmpty && Builtin.List.listTooLong (its.toArray.size + its2.toArray.size)) = true := by
    rw [notLongL hsz, Bool.and_false]
    exact Bool.false_ne_true
  refine call_meets F.slot_list_extend ⟨_, e, rfl⟩ F.entry_list_extend (F.args_list_extend_2 _ _)
    (AutoSeq1.list_extend_list_list_0 l its.toArray n b its2.toArray n2 hlong (by rw [List.size_toArray]; omega) (by omega)) ⟨e, e2, ?_⟩
  refine ⟨.non, _, I.lset (its' := its ++ its2) hH e (by simp) (r.append r2) ?_, rfl, q⟩
  rw [List.length_append]
  omega

/-! ### list + list, list += list, list * int -/
def rCat : R2 := fun x y H Q => ∃ l b xs zs, x = .ref l ∧ y = .ref b ∧ H l = some (.lst xs) ∧ H b = some (.lst zs) ∧ xs.length + zs.length ≤ sizeLine ∧ ∀ p, H p = none → Q (.ref p) (upd H p (.lst (xs ++ zs)))
theorem op_cat : OpR X (binaryOp .Add) rCat := by
  intro pins s σ H x y v u Q I rx ry h
  obtain ⟨l, b, xs, zs, rfl, rfl, hH, hB, hz, q⟩ := h
  cases rx
  cases ry
  obtain ⟨z, its, n, r, hl, e⟩ := I.lstM hH
  obtain ⟨z2, its2, n2, r2, hl2, e2⟩ := I.lstM hB
  refine PySem.P.add_list e e2 ?_ (by rw [List.size_toArray, List.size_toArray]; omega)
  have ea : its.toArray ++ its2.toArray = (its ++ its2).toArray := by simp
  rw [ea]
  exact ⟨.ref _, _, I.lnew (t' := s.toks) (r.append r2) (by rw [List.length_append]; omega), rfl, q _ I.fresh⟩
/-! ### del xs[i] -/
end

/-! ### xs[a:b] = ys -/
section
variable {prog : Program} {w : World} {A : Around} {E : Value → Shared → Prop} {s : Shared}
end

section
variable {X : Cx}
end
end L2

namespace L2
open PySem PySem.Spec PyProof.Rows

theorem Vals.bls : ∀ {bs : List Bool} {us : List Value}, Vals (bs.map V.bl) us → us = bs.map Value.bool
  | [], us, h => by
    rw [List.map_nil] at h
    cases h
    rfl
  | b :: bs, us, h => by
    rw [List.map_cons] at h
    cases h with
    | cons r t =>
      cases r
      rw [Vals.bls t, List.map_cons]
theorem Vals.ref1 {a : Addr} {us : List Value} (r : Vals [V.ref a] us) : us = [Value.ref a] := by
  cases r with
  | cons r t =>
    cases t
    cases r
    rfl
/-! ### the library's walks over a list of ints, kept objects alone -/
section
variable {prog : Program} {w : World} {A : Around} {E : Value → Shared → Prop} {s : Shared} {l : Addr} {its : List Value} {ns : List Int} {Q : Value → Shared → Prop}
end

/-! ### the calls, by values (CallR of 03t; MtR of 06l) -/
section
variable {X : Cx}
/-! sorted, sort (fewer than 64 items: the library's own bound) -/
end

/-! ### list.index, flat items -/
section
variable {X : Cx}
end

/-! ### type(x) of an own instance; is, is not of a module's class -/
section
variable {X : Cx}
end

/-! ### any(xs), all(xs) of a list of bools -/
theorem iter_any {prog : Program} {w : World} {A : Around} {E : Value → Shared → Prop} {s : Shared} {l : Addr} {items : Array Value} {Q : Value → Shared → Prop} (hl : s.heap.IsList l items)
    (h : ∀ s₂ : Shared, s₂ = { s with heap := s.heap.push { cls := .type "list_iterator", data := .fields #[.ref l, .int 0 0] } } →
      (s₂.heap.IsListIter s.heap.objs.size l 0 ∧ s₂.heap.IsList l items) → l ≠ s.heap.objs.size → Q (.ref s.heap.objs.size) s₂) : wpAny (model prog w) A (pyIter (.ref l)) Q E s := by
  have hlt : l < s.heap.objs.size := by obtain ⟨_, e, _⟩ := hl; exact Heap.lt_size e
  exact wpAny_pyIter_list hl (h _ rfl ⟨⟨_, Heap.get?_push_size _ rfl, rfl, rfl⟩, hl.push _⟩ (Nat.ne_of_lt hlt))
theorem truth_bools {prog : Program} {w : World} {A : Around} {bs : List Bool} {its : List Value} (e : its = bs.map Value.bool) :
    TruthOf prog w A (fun i v => its.toArray[i]? = some v) (fun i => bs.getD i false) := fun i v s Q E hv hq => by
  have hv' : its[i]? = some v := by simpa using hv
  rw [e, List.getElem?_map] at hv'
  obtain ⟨b, hb, rfl⟩ := Option.map_eq_some_iff.mp hv'
  have hg : bs.getD i false = b := by rw [List.getD_eq_getElem?_getD, hb] <;> rfl
  have hq' : Q (bs.getD i false) s := hq
  rw [hg] at hq'
  exact wpAny_truthy_bool hq'
theorem any_range : ∀ bs : List Bool, (List.range bs.length).any (fun i => bs.getD i false) = bs.any id
  | [] => rfl
  | b :: bs => by
    rw [List.length_cons, List.range_succ_eq_map, List.any_cons, List.any_map, List.any_cons, ← any_range bs]
    all_goals rfl
theorem all_range : ∀ bs : List Bool, (List.range bs.length).all (fun i => bs.getD i false) = bs.all id
  | [] => rfl
  | b :: bs => by
    rw [List.length_cons, List.range_succ_eq_map, List.all_cons, List.all_map, List.all_cons, ← all_range bs]
    all_goals rfl
section
variable {X : Cx}
def rAny (K : PySem.W.Frag) : List V → Hp → VK → Prop := fun vs H Q => ∃ (a : Addr) (bs : List Bool), vs = [V.ref a] ∧ SqL K H a (bs.map V.bl) ∧ Q (.bl (bs.any id)) H
def rAll (K : PySem.W.Frag) : List V → Hp → VK → Prop := fun vs H Q => ∃ (a : Addr) (bs : List Bool), vs = [V.ref a] ∧ SqL K H a (bs.map V.bl) ∧ Q (.bl (bs.all id)) H
theorem cr_any (hc : X.calm = true) : CallR X (.builtin "any") (rAny X.K) := by
  intro pins s σ H vs us Q I r h
  obtain ⟨a, bs, rfl, hs, q⟩ := h
  obtain ⟨its, rv, hl, _⟩ := I.list hs
  rw [Vals.ref1 r]
  have hb := rv.bls
  refine call_any_walk (iter_any hl.isList fun s₂ e2 st hne => ?_)
  subst e2
  refine ⟨_, _, _, _, _, _, _, rfl, Walks.list (A := X.A.in1) (I.ok.hd hc) _ a hne its.toArray, st, truth_bools hb, fun h' tk hk => ?_⟩
  refine ⟨.bl _, H, I.kept fun b o eo => hk b o (fun hmem => ?_) (Heap.get?_push_of_some _ eo), ?_, q⟩
  · rcases List.mem_cons.mp hmem with e1 | hmem
    · exact absurd (e1 ▸ Heap.lt_size eo) (Nat.lt_irrefl _)
    · cases hmem
  · show Value.bool _ = Value.bool _
    rw [← any_range, hb, List.size_toArray, List.length_map]
theorem cr_all (hc : X.calm = true) : CallR X (.builtin "all") (rAll X.K) := by
  intro pins s σ H vs us Q I r h
  obtain ⟨a, bs, rfl, hs, q⟩ := h
  obtain ⟨its, rv, hl, _⟩ := I.list hs
  rw [Vals.ref1 r]
  have hb := rv.bls
  refine call_all_walk (iter_any hl.isList fun s₂ e2 st hne => ?_)
  subst e2
  refine ⟨_, _, _, _, _, _, _, rfl, Walks.list (A := X.A.in1) (I.ok.hd hc) _ a hne its.toArray, st, truth_bools hb, fun h' tk hk => ?_⟩
  refine ⟨.bl _, H, I.kept fun b o eo => hk b o (fun hmem => ?_) (Heap.get?_push_of_some _ eo), ?_, q⟩
  · rcases List.mem_cons.mp hmem with e1 | hmem
    · exact absurd (e1 ▸ Heap.lt_size eo) (Nat.lt_irrefl _)
    · cases hmem
  · show Value.bool _ = Value.bool _
    rw [← all_range, hb, List.size_toArray, List.length_map]
end

/-! ### == and != of data at any depth: none, bools, ints, texts, lists, tuples -/
section
variable {X : Cx} {pins : List (Addr × Obj)} {σ : St} {H : Hp} {s : Shared}
end
section
variable {X : Cx}
end
end L2

namespace L2
open PySem PySem.Spec PyProof.Rows
abbrev CellAt (h : Heap) (c : Addr) (v : Option Value) : Prop := h.IsCell c v
def relS (scope sc : Scope) : Scope :=
  { scope with names := scope.names.map fun (n, k) => if (k == .free && sc.kind == .function && sc.names.lookup n == some .cell) then (n, .cell) else (n, k) }

def cloFrom (cells : List (Str × Addr)) : List (Str × NameKind) → List (Str × Addr) → List (Str × Addr)
  | [], acc => acc
  | (n, k) :: r, acc => if k == .free then cloFrom cells r ((n, (cells.lookup n).getD 0) :: acc) else cloFrom cells r acc

theorem closure_loop (env : Env) (f : Str × NameKind → List (Str × Addr) → Sem (ForInStep (List (Str × Addr))))
    (hf : ∀ n k c, f (n, k) c = if k == .free then (do let a ← cellOf env n; pure (.yield ((n, a) :: c))) else pure (.yield c)) :
    ∀ (names : List (Str × NameKind)) (acc : List (Str × Addr)), (∀ y ∈ names, y.2 = .free → ∃ c, env.cells.lookup y.1 = some c) → forIn names acc f = pure (cloFrom env.cells names acc)
  | [], acc, _ => by rw [List.forIn_nil]; rfl
  | (n, k) :: r, acc, h => by
    rw [List.forIn_cons, hf]
    have ih := fun acc => closure_loop env f hf r acc fun y hy => h y (List.mem_cons_of_mem _ hy)
    unfold cloFrom
    by_cases hk : (k == NameKind.free) = true
    · rw [if_pos hk, if_pos hk]
      obtain ⟨c, hc⟩ := h (n, k) List.mem_cons_self (by simpa using hk)
      have e : cellOf env n = pure c := by unfold cellOf; rw [hc]
      rw [e]
      have e2 : (env.cells.lookup n).getD 0 = c := by rw [hc]; rfl
      rw [e2]
      exact ih _
    · rw [if_neg hk, if_neg hk]
      exact ih _
theorem closure_ok {scope : Scope} {env : Env} (h : ∀ y ∈ scope.names, y.2 = .free → ∃ c, env.cells.lookup y.1 = some c) : closureFor scope env = pure (cloFrom env.cells scope.names []) := by
  simp only [closureFor]
  rw [closure_loop env _ (fun n k c => rfl) scope.names [] h]
  rfl

theorem mem_lookup {α : Type} : ∀ {l : List (Str × α)} {n : Str} {c : α}, (n, c) ∈ l → ∃ c', l.lookup n = some c'
  | (k, v) :: r, n, c, h => by
    rw [List.lookup_cons]
    cases hb : n == k with
    | true => exact ⟨_, rfl⟩
    | false =>
      rcases List.mem_cons.mp h with e | h
      · cases e; simp at hb
      · exact mem_lookup h

theorem cloFrom_mem {cells : List (Str × Addr)} : ∀ {names : List (Str × NameKind)} {acc : List (Str × Addr)} {n : Str} {c : Addr}, (n, c) ∈ cloFrom cells names acc → (n, c) ∈ acc ∨ ((n, .free) ∈ names ∧ c = (cells.lookup n).getD 0)
  | [], _, _, _, h => .inl h
  | (m, k) :: r, acc, n, c, h => by
    unfold cloFrom at h
    split at h
    · rename_i hk
      have hk : k = .free := by simpa using hk
      rcases cloFrom_mem h with h | ⟨h1, h2⟩
      · rcases List.mem_cons.mp h with e | h
        · cases e; exact .inr ⟨hk ▸ List.mem_cons_self, rfl⟩
        · exact .inl h
      · exact .inr ⟨List.mem_cons_of_mem _ h1, h2⟩
    · rcases cloFrom_mem h with h | ⟨h1, h2⟩
      · exact .inl h
      · exact .inr ⟨List.mem_cons_of_mem _ h1, h2⟩
theorem cloFrom_acc {cells : List (Str × Addr)} : ∀ {names : List (Str × NameKind)} {acc : List (Str × Addr)} {p : Str × Addr}, p ∈ acc → p ∈ cloFrom cells names acc
  | [], _, _, h => h
  | (m, k) :: r, acc, p, h => by
    unfold cloFrom
    split
    · exact cloFrom_acc (List.mem_cons_of_mem _ h)
    · exact cloFrom_acc h
theorem cloFrom_has {cells : List (Str × Addr)} : ∀ {names : List (Str × NameKind)} {acc : List (Str × Addr)} {n : Str}, (n, .free) ∈ names → (n, (cells.lookup n).getD 0) ∈ cloFrom cells names acc
  | (m, k) :: r, acc, n, h => by
    unfold cloFrom
    rcases List.mem_cons.mp h with e | h
    · cases e
      exact cloFrom_acc List.mem_cons_self
    · split
      · exact cloFrom_has h
      · exact cloFrom_has h

theorem cells_mem : ∀ {names : List (Str × NameKind)} {h : Heap} {acc : List (Str × Addr)} {x : Str} {c : Addr}, (x, c) ∈ cellsFrom h.objs.size names acc →
    (x, c) ∈ acc ∨ ((x, .cell) ∈ names ∧ h.objs.size ≤ c ∧ CellAt (pushCells h names) c none)
  | [], _, _, _, _, h => .inl h
  | (n, k) :: r, h, acc, x, c, hm => by
    unfold cellsFrom at hm
    unfold pushCells
    split at hm
    · rename_i hk
      rw [if_pos hk]
      have hk : k = .cell := by simpa using hk
      rw [← Heap.size_push h { cls := .type "cell", data := .cell none }] at hm
      rcases cells_mem hm with hm | ⟨h1, h2, h3⟩
      · rcases List.mem_cons.mp hm with e | hm
        · cases e
          exact .inr ⟨hk ▸ List.mem_cons_self, Nat.le_refl _, _, pushCells_keeps r _ _ _ (Heap.get?_push_size _ rfl), rfl⟩
        · exact .inl hm
      · rw [Heap.size_push] at h2
        exact .inr ⟨List.mem_cons_of_mem _ h1, Nat.le_of_succ_le h2, h3⟩
    · rename_i hk
      rw [if_neg hk]
      rcases cells_mem hm with hm | ⟨h1, h2, h3⟩
      · exact .inl hm
      · exact .inr ⟨List.mem_cons_of_mem _ h1, h2, h3⟩
theorem cells_acc : ∀ {names : List (Str × NameKind)} {n : Nat} {acc : List (Str × Addr)} {p : Str × Addr}, p ∈ acc → p ∈ cellsFrom n names acc
  | [], _, _, _, h => h
  | (m, k) :: r, n, acc, p, h => by
    unfold cellsFrom
    split
    · exact cells_acc (List.mem_cons_of_mem _ h)
    · exact cells_acc h
theorem cells_has : ∀ {names : List (Str × NameKind)} {n : Nat} {acc : List (Str × Addr)} {x : Str}, (x, .cell) ∈ names → ∃ c, (x, c) ∈ cellsFrom n names acc
  | (m, k) :: r, n, acc, x, h => by
    unfold cellsFrom
    rcases List.mem_cons.mp h with e | h
    · cases e
      exact ⟨n, cells_acc List.mem_cons_self⟩
    · split
      · exact cells_has h
      · exact cells_has h
theorem cells_inj : ∀ {names : List (Str × NameKind)} {h : Heap} {acc : List (Str × Addr)} {x y : Str} {c : Addr}, (∀ p ∈ acc, p.2 < h.objs.size) → (∀ x y c, (x, c) ∈ acc → (y, c) ∈ acc → x = y) →
    (x, c) ∈ cellsFrom h.objs.size names acc → (y, c) ∈ cellsFrom h.objs.size names acc → x = y
  | [], _, _, _, _, _, _, hi, h1, h2 => hi _ _ _ h1 h2
  | (n, k) :: r, h, acc, x, y, c, hl, hi, h1, h2 => by
    unfold cellsFrom at h1 h2
    split at h1
    · rename_i hk
      rw [if_pos hk] at h2
      rw [← Heap.size_push h { cls := .type "cell", data := .cell none }] at h1 h2
      refine cells_inj (h := h.push _) (fun p hp => ?_) (fun x y c a b => ?_) h1 h2
      · rw [Heap.size_push]
        rcases List.mem_cons.mp hp with rfl | hp
        · exact Nat.lt_succ_self _
        · exact Nat.lt_succ_of_lt (hl p hp)
      · rcases List.mem_cons.mp a with e | a <;> rcases List.mem_cons.mp b with e' | b
        · cases e; cases e'; rfl
        · cases e; exact absurd (hl _ b) (Nat.lt_irrefl _)
        · cases e'; exact absurd (hl _ a) (Nat.lt_irrefl _)
        · exact hi _ _ _ a b
    · rename_i hk
      rw [if_neg hk] at h2
      exact cells_inj hl hi h1 h2

theorem newEnv_comp {M : Model} {A : Around} {E : Value → Shared → Prop} {s : Shared} {scope : Scope} {globals : Addr} {closure : List (Str × Addr)} {qual : Str} {func : Option Addr} {code : Value} {around : Env} {builtins : Addr} {Q : Env → Shared → Prop}
    (h : Q (newEnv scope s.heap.objs.size globals (cellsFrom (s.heap.objs.size + 1) scope.names closure) qual func code (some around) builtins)
      { s with heap := pushCells (s.heap.push { cls := .type "dict", data := .dict #[] }) scope.names }) :
    wpAny M A (newFunctionEnv scope globals closure [] qual func code (some around) builtins) Q E s := by
  simp only [newFunctionEnv, Option.isSome_some, if_true]
  refine wpAny_bind (wpAny_alloc ?_)
  refine wpAny_bind (wpAny_layCells _ (fun n k c => rfl) scope.names closure _ _ ?_)
  rw [show ({ s with heap := s.heap.push { cls := .type "dict", data := .dict #[] } } : Shared).heap.objs.size = s.heap.objs.size + 1 from Heap.size_push ..]
  rw [List.forIn_nil]
  exact wpAny_bind (wpAny_pure (wpAny_pure h))

/-- every name of the written scope, in the scope that runs -/
theorem lookup_relS {sc : Scope} : ∀ {names : List (Str × NameKind)} {x : Str} {k : NameKind},
    (names.map fun (n, k) => if (k == NameKind.free && sc.kind == .function && sc.names.lookup n == some .cell) then (n, NameKind.cell) else (n, k)).lookup x = some k →
    ∃ k', names.lookup x = some k' ∧ (k = k' ∨ (k' = .free ∧ k = .cell))
  | [], _, _, h => by simp at h
  | (n, k₀) :: r, x, k, h => by
    have ih := @lookup_relS sc r x k
    have h' : List.lookup x ((if (k₀ == NameKind.free && sc.kind == .function && sc.names.lookup n == some .cell) = true then (n, NameKind.cell) else (n, k₀)) :: (r.map _)) = some k := h
    cases hx : x == n with
    | true =>
      simp only [List.lookup_cons, hx]
      by_cases hc : (k₀ == NameKind.free && sc.kind == .function && sc.names.lookup n == some .cell) = true
      · rw [if_pos hc] at h'
        simp only [List.lookup_cons, hx] at h'
        cases h'
        simp only [Bool.and_eq_true, beq_iff_eq] at hc
        exact ⟨k₀, rfl, .inr ⟨hc.1.1, rfl⟩⟩
      · rw [if_neg hc] at h'
        simp only [List.lookup_cons, hx] at h'
        cases h'
        exact ⟨_, rfl, .inl rfl⟩
    | false =>
      simp only [List.lookup_cons, hx]
      by_cases hc : (k₀ == NameKind.free && sc.kind == .function && sc.names.lookup n == some .cell) = true
      · rw [if_pos hc] at h'
        simp only [List.lookup_cons, hx] at h'
        exact ih h'
      · rw [if_neg hc] at h'
        simp only [List.lookup_cons, hx] at h'
        exact ih h'
/-- the names of a comprehension's block: its own (with their places in N), or captured -/
structure BlkOk (N : List Str) (sc scope : Scope) (own : List (Str × Nat)) : Prop where
  kind : scope.kind = .function
  uniq : ∀ y ∈ scope.names, scope.names.lookup y.1 = some y.2
  ix : ∀ p ∈ own, N[p.2]? = some p.1
  free : ∀ y ∈ scope.names, y.2 = .free → sc.names.lookup y.1 = some .cell ∨ sc.names.lookup y.1 = some .free
  own : ∀ y ∈ scope.names, y.2 = .local ∨ y.2 = .cell → y.1 ∈ own.map (·.1) ∨ y.1 ∉ N
/-- the slots of the block's own names forgotten -/
def wipe (σ : St) : List Nat → St
  | [] => σ
  | v :: vs => (wipe σ vs).set v none
theorem wipe_length (σ : St) : ∀ vs : List Nat, (wipe σ vs).length = σ.length
  | [] => rfl
  | v :: vs => by unfold wipe; rw [List.length_set, wipe_length σ vs]
theorem wipe_some {σ : St} {i : Nat} {x : V} : ∀ {vs : List Nat}, (wipe σ vs)[i]? = some (some x) → σ[i]? = some (some x) ∧ i ∉ vs
  | [], h => ⟨h, by simp⟩
  | v :: vs, h => by
    unfold wipe at h
    by_cases hi : v = i
    · subst hi
      by_cases hv : v < (wipe σ vs).length
      · rw [List.getElem?_set_self hv] at h; cases h
      · rw [List.getElem?_eq_none (by simpa using hv)] at h; cases h
    · rw [List.getElem?_set_ne hi] at h
      obtain ⟨h1, h2⟩ := wipe_some h
      exact ⟨h1, by simp only [List.mem_cons, not_or]; exact ⟨fun e => hi e.symm, h2⟩⟩

/-- the context of a block that starts at s, its iterator's objects at fp -/
abbrev Cx.blk (X : Cx) (s : Shared) (H : Hp) (scope : Scope) (cenv : Env) (fp : List Addr) : Cx := { X with s_0 := s, H_0 := H, env := cenv, outer := X.stack, ex := fp, fn := fun x => scope.names.lookup x == some .cell, pn := [], xe := fun _ _ => False }
section
variable {X : Cx} {pins : List (Addr × Obj)} {σ : St} {H : Hp} {s : Shared}
theorem block_start {scope : Scope} {own : List (Str × Nat)} {fp : List Addr} (I : Inv X pins σ H s) (ok : BlkOk X.N X.env.scope scope own) (hN : X.N.Nodup) (hfp : ∀ b ∈ fp, FpOk X pins H b ∧ b < s.heap.objs.size) :
    Inv (X.blk s H scope (compEnvC scope (cellsFrom (s.heap.objs.size + 1) scope.names (cloFrom X.env.cells scope.names [])) s.heap.objs.size X.env) fp) [] (wipe σ (own.map (·.2))) H { s with heap := pushCells (s.heap.push { cls := .type "dict", data := .dict #[] }) scope.names } := by
  have hfree : ∀ y ∈ scope.names, y.2 = .free → ∃ c, X.env.cells.lookup y.1 = some c := fun y hy e => by
    rcases ok.free y hy e with k | k
    · exact I.ok.has _ (.inl k)
    · exact I.ok.has _ (.inr k)
  generalize hcenv : compEnvC scope (cellsFrom (s.heap.objs.size + 1) scope.names (cloFrom X.env.cells scope.names [])) s.heap.objs.size X.env = cenv
  have kp : ∀ b o, s.heap.get? b = some o → (pushCells (s.heap.push { cls := .type "dict", data := .dict #[] }) scope.names).get? b = some o := fun b o e => pushCells_keeps _ _ _ _ (Heap.get?_push_of_some _ e)
  have hL : cenv.locals = s.heap.objs.size := by rw [← hcenv]; rfl
  have hcl : cenv.cells = cellsFrom (s.heap.objs.size + 1) scope.names (cloFrom X.env.cells scope.names []) := by rw [← hcenv]; rfl
  have hsc : cenv.scope = relS scope X.env.scope := by rw [← hcenv]; rfl
  rw [← Heap.size_push s.heap { cls := .type "dict", data := .dict #[] }] at hcl
  have cm : ∀ {y c}, (y, c) ∈ cloFrom X.env.cells scope.names [] → X.env.cells.lookup y = some c ∧ c < s.heap.objs.size := fun {y c} hm => by
    rcases cloFrom_mem hm with hm | ⟨h1, rfl⟩
    · cases hm
    · obtain ⟨c, hc⟩ := hfree _ h1 rfl
      rw [hc]
      obtain ⟨w, z⟩ := I.cell _ _ hc
      exact ⟨rfl, z.lt⟩
  have mem : ∀ {y c}, cenv.cells.lookup y = some c → (X.env.cells.lookup y = some c ∧ c < s.heap.objs.size) ∨ (s.heap.objs.size + 1 ≤ c ∧ CellAt (pushCells (s.heap.push { cls := .type "dict", data := .dict #[] }) scope.names) c none) := fun {y c} e => by
    rw [hcl] at e
    rcases cells_mem (PySem.mem_of_lookup e) with hm | ⟨_, h2, h3⟩
    · exact .inl (cm hm)
    · rw [Heap.size_push] at h2; exact .inr ⟨h2, h3⟩
  have look : ∀ {y}, scope.names.lookup y = some .free → ∃ c, cenv.cells.lookup y = some c ∧ X.env.cells.lookup y = some c := fun {y} hl => by
    have hy : (y, NameKind.free) ∈ scope.names := PySem.mem_of_lookup hl
    obtain ⟨c', e'⟩ := mem_lookup (cells_acc (names := scope.names) (n := (s.heap.push { cls := .type "dict", data := .dict #[] }).objs.size) (cloFrom_has (cells := X.env.cells) (acc := []) hy))
    rw [← hcl] at e'
    refine ⟨c', e', ?_⟩
    rw [hcl] at e'
    rcases cells_mem (PySem.mem_of_lookup e') with hm | ⟨h1, _, _⟩
    · exact (cm hm).1
    · have := ok.uniq _ h1
      rw [hl] at this; cases this
  have okB : (X.blk s H scope cenv fp).Ok := by
    refine ⟨I.ok.mod, by show cenv.scope.kind = _; rw [hsc]; exact ok.kind, by show cenv.globals = _; rw [← hcenv]; exact I.ok.glob, by show cenv.builtins = _; rw [← hcenv]; exact I.ok.blt, by show s.heap.objs.size ≤ cenv.locals; rw [hL]; exact Nat.le_refl _,
      fun y z c e1 e2 => ?_, fun y hy => ?_, fun y c z e => ?_, I.ok.hd, I.ok.frames, .inl rfl, fun b hb => ⟨?_, fun y c e z => ?_⟩, I.bs, Nat.le_trans I.ok.bsz I.sz, fun b o e hb => ?_, fun b hb z => ?_, I.stack, I.stkFree⟩
    · have e1 : cenv.cells.lookup y = some c := e1
      have e2 : cenv.cells.lookup z = some c := e2
      rw [hcl] at e1 e2
      refine cells_inj (fun p hp => ?_) (fun y z c a b => I.ok.inj y z c (cm a).1 (cm b).1) (PySem.mem_of_lookup e1) (PySem.mem_of_lookup e2)
      rw [Heap.size_push]
      exact Nat.lt_succ_of_lt (cm (y := p.1) (c := p.2) hp).2
    · show ∃ c, cenv.cells.lookup y = some c
      have key : ∀ k, cenv.kindOf y = some k → (k = .cell ∨ k = .free) → ∃ c, cenv.cells.lookup y = some c := fun k hk hk' => by
        unfold Env.kindOf at hk
        rw [hsc] at hk
        obtain ⟨k', e, r⟩ := lookup_relS hk
        have : k' = .cell ∨ k' = .free := by
          rcases r with rfl | ⟨rfl, _⟩
          · exact hk'
          · exact .inr rfl
        rcases this with rfl | rfl
        · obtain ⟨c, hm⟩ := cells_has (n := (s.heap.push { cls := .type "dict", data := .dict #[] }).objs.size) (acc := cloFrom X.env.cells scope.names []) (PySem.mem_of_lookup e)
          obtain ⟨c', e'⟩ := mem_lookup hm
          exact ⟨c', by rw [hcl]; exact e'⟩
        · obtain ⟨c, h1, _⟩ := look e
          exact ⟨c, h1⟩
      rcases hy with hy | hy
      · exact key _ hy (.inl rfl)
      · exact key _ hy (.inr rfl)
    · have z : (scope.names.lookup y == some NameKind.cell) = true := z
      have z : scope.names.lookup y = some .cell := by simpa using z
      have e : cenv.cells.lookup y = some c := e
      rw [hcl] at e
      rcases cells_mem (PySem.mem_of_lookup e) with hm | ⟨_, h2, _⟩
      · rcases cloFrom_mem hm with hm | ⟨h1, _⟩
        · cases hm
        · have q := ok.uniq _ h1
          rw [z] at q; cases q
      · rw [Heap.size_push] at h2
        exact Nat.le_of_succ_le h2
    · show b ≠ cenv.locals
      rw [hL]; exact Nat.ne_of_lt (hfp b hb).2
    · have e : cenv.cells.lookup y = some c := e
      rcases mem e with ⟨h1, _⟩ | ⟨h1, _⟩
      · exact (hfp b hb).1.2.2.2.2.1 y c h1 z
      · have h2 : s.heap.objs.size + 1 ≤ b := by rw [← z]; exact h1
        exact absurd (Nat.lt_of_lt_of_le (hfp b hb).2 (Nat.le_of_succ_le h2)) (Nat.lt_irrefl _)
    · rcases (hfp b hb).1.2.2.2.1 with z | z
      · exact I.ok.noex b o e z
      · exact absurd (Nat.lt_of_lt_of_le (Heap.lt_size e) (Nat.le_trans I.ok.bsz z)) (Nat.lt_irrefl _)
    · rcases List.mem_cons.mp (I.stkSub b z) with z | z
      · exact (hfp b hb).1.2.1 z
      · exact (hfp b hb).1.2.2.1 z
  refine ⟨okB, rfl, I.bare, Un.kept kp, ⟨fun _ => none, ?_, fun i y av e1 e2 e3 => ?_⟩, fun y c e => ?_, ?_, fun y c e => ?_, fun p hp => ?_, I.hok.kept kp, by rw [wipe_length]; exact I.len⟩
  · show Heap.Ns _ cenv.locals _
    rw [hL]
    exact Heap.Ns.keeps (Heap.Ns.new ..) fun b o e => pushCells_keeps _ _ _ _ e
  · obtain ⟨e2, hne⟩ := wipe_some e2
    have hfr : scope.names.lookup y = some .free ∧ (cenv.kindOf y = some .cell ∨ cenv.kindOf y = some .free) := by
      have key : ∀ k, cenv.scope.names.lookup y = some k → k = .local ∨ k = .cell ∨ k = .free → scope.names.lookup y = some .free ∧ (cenv.kindOf y = some .cell ∨ cenv.kindOf y = some .free) := fun k hk hk' => by
        have hk0 := hk
        rw [hsc] at hk
        obtain ⟨k', e, r⟩ := lookup_relS hk
        have no : ¬ (k' = .local ∨ k' = .cell) := fun hh => by
          rcases ok.own _ (PySem.mem_of_lookup e) hh with e' | e'
          · obtain ⟨p, hp, hpy⟩ := List.mem_map.mp e'
            have e3 := ok.ix p hp
            have : p.1 = y := hpy
            rw [this] at e3
            exact hne (List.mem_map.mpr ⟨p, hp, nodup_ix hN e3 e1⟩)
          · exact e' (List.mem_of_getElem? e1)
        rcases r with rfl | ⟨rfl, rfl⟩
        · rcases hk' with rfl | rfl | rfl
          · exact absurd (.inl rfl) no
          · exact absurd (.inr rfl) no
          · exact ⟨e, .inr hk0⟩
        · exact ⟨e, .inl hk0⟩
      have e3 : Vis cenv.scope y := e3
      rcases e3 with e3 | e3 | e3
      · exact key _ e3 (.inl rfl)
      · exact key _ e3 (.inr (.inl rfl))
      · exact key _ e3 (.inr (.inr rfl))
    obtain ⟨m, hn, hl⟩ := I.loc
    have hvis : Vis X.env.scope y := (ok.free _ (PySem.mem_of_lookup hfr.1) rfl).elim (fun k => .inr (.inl k)) (fun k => .inr (.inr k))
    obtain ⟨w, r, q⟩ := hl i y av e1 e2 hvis
    refine ⟨w, r, .inr ⟨hfr.2, ?_⟩⟩
    obtain ⟨c, h1, h2⟩ := look hfr.1
    rcases q with ⟨k, _⟩ | ⟨_, c', e', z⟩
    · have k : X.env.scope.names.lookup y = some .local := k
      rcases ok.free _ (PySem.mem_of_lookup hfr.1) rfl with k' | k' <;> rw [show X.env.scope.names.lookup y = _ from k'] at k <;> cases k
    · rw [h2] at e'; cases e'
      exact ⟨c, h1, z.keeps kp⟩
  · have e : cenv.cells.lookup y = some c := e
    rcases mem e with ⟨h1, _⟩ | ⟨_, z⟩
    · obtain ⟨w, z⟩ := I.cell y c h1
      exact ⟨w, z.keeps kp⟩
    · exact ⟨_, z⟩
  · show H cenv.locals = none
    rw [hL]; exact I.hok.fresh (Nat.le_refl _)
  · have e : cenv.cells.lookup y = some c := e
    rcases mem e with ⟨h1, _⟩ | ⟨h1, _⟩
    · exact I.freeC y c h1
    · exact I.hok.fresh (Nat.le_of_succ_le h1)
  · exact absurd (show p ∈ ([] : List (Addr × Obj)) ++ [] from hp) (by simp)

/-- an item appended to a tracked list -/
theorem app_ok {E : Value → Shared → Prop} {D : Addr} {xs : List V} {y : V} {v : Value} {Q : Value → Shared → Prop} (I : Inv X pins σ H s) (hD : H D = some (.lst xs)) (hz : xs.length < sizeLine) (r : RelV y v)
    (h : ∀ s', Inv X pins σ (upd H D (.lst (xs ++ [y]))) s' → Q .none s') : wpAny (model X.prog X.w) X.A (call (.builtin "list.append") [.ref D, v]) Q E s := by
  obtain ⟨hz', its, n, ri, e⟩ := I.hok D _ hD
  have hl := ri.length
  refine append_at (hsz := by rw [List.size_toArray]; omega) e fun h' sb ho' => ?_
  refine h { s with heap := h' } (I.write (t' := s.toks) (by rw [hD]; trivial) (.inl rfl) (fun b u hb q => (sb.2 b hb).trans q) ⟨_, ho'⟩ ⟨by rw [List.length_append]; exact hz, its ++ [v], n + 1, ri.append (.cons r .nil), ?_⟩)
  rw [ho']
  simp

/-- a clause's tests -/
def PTs (X : Cx) (ifs : List Expr) (t : TT) : Prop :=
  ∀ (pins : List (Addr × Obj)) (s : Shared) (σ : St) (H : Hp) (Q : Bool → Hp → Prop), Inv X pins σ H s → t σ H Q →
    wpAny (model X.prog X.w) X.A (forIn ifs true fun c r => if r = true then do let ok ← isTrue c X.env (eval c X.env); pure (ForInStep.yield ok) else pure (ForInStep.yield r)) (TP X pins σ Q) X.xe s
def tYes : TT := fun _ H Q => Q true H
theorem pts_nil : PTs X [] tYes := fun _ _ _ H _ I h => wpAny_tests_nil ⟨H, I, h⟩
theorem pts_one {c : Expr} {t : TT} (h : PT X c t) : PTs X [c] t := fun pins s σ H Q I hw => wpAny_tests_one (h pins s σ H Q I hw)
end

theorem thnF {α : Type} {t : Sem α} {Q Q' : α → Shared → Prop} {M : Model} {A : Around} {E : Value → Shared → Prop} {s : Shared} (h : wpAny M A t Q (fun _ _ => False) s) (hQ : ∀ a s, Q a s → Q' a s) : wpAny M A t Q' E s := wpAny_mono h hQ fun _ _ z => False.elim z

/-- the loop of a list comprehension's block, the target of any form (codeAny_compLoop_tests asks a target that no tuple goes to; statement and proof follow it, PyProof/CompMap.lean:41-61, with the step letOwnedTupleGo kept) -/
theorem compLoop_any {prog : Program} {w : World} {A : Around} {R : Result → Shared → Prop} {s : Shared} {elt target iter : Expr} {ifs : List Expr} {scope : Scope} {pos : Pos} {it acc : Value} {env : Env} (I : Nat → Shared → Prop)
    (turn : ∀ n s, I n s → wpAny (model prog w) A (pyNext it) (fun r s₁ => match r with
      | none => R (.ok .next) s₁
      | some v => wpAny (model prog w) A (letOwnedTupleGo target it v) (fun _ s₁' => wpAny (model prog w) A (assign target env v) (fun _ s₂ =>
          wpAny (model prog w) A (forIn ifs true fun c r => if r = true then do let ok ← isTrue c env (eval c env); pure (ForInStep.yield ok) else pure (ForInStep.yield r)) (fun ok s₃ =>
            if ok = true then wpAny (model prog w) A (eval elt env) (fun x s₄ =>
              wpAny (model prog w) A (call (.builtin "list.append") [acc, x]) (fun _ s₅ => ∃ m, m < n ∧ I m s₅) (notedBy (model prog w) A env fun e s' => R (.error e) s') s₄) (notedBy (model prog w) A env fun e s' => R (.error e) s') s₃
            else ∃ m, m < n ∧ I m s₃) (notedBy (model prog w) A env fun e s' => R (.error e) s') s₂) (notedBy (model prog w) A env fun e s' => R (.error e) s') s₁') (notedBy (model prog w) A env fun e s' => R (.error e) s') s₁) (notedBy (model prog w) A env fun e s' => R (.error e) s') s)
    (n : Nat) (h : I n s) :
    codeAny (model prog w) A (.compLoop (.ListComp elt [⟨target, iter, ifs, 0⟩] scope pos) 0 it acc env) R s := by
  refine codeAny_loop rfl I (fun n s hI => ?_) n h
  show wpAny _ A ((compTurn (.ListComp elt [⟨target, iter, ifs, 0⟩] scope pos) 0 it acc env).onRaise (fun x => do noteFrame x env; theTreesLotGoes x)) _ _ s
  refine wpAny_noted ?_
  rw [compTurn_list]
  refine wpAny_bind (wpAny_standAt (wpAny_bind (wpAny_mono (turn n s hI) (fun r s₁ h₁ => ?_) fun _ _ h' => h')))
  cases r with
  | none => exact wpAny_pure h₁
  | some v =>
    refine wpAny_bind (wpAny_mono h₁ (fun _ s₁' h₁' => ?_) fun _ _ h' => h')
    refine wpAny_bind (wpAny_mono h₁' (fun _ s₂ h₂ => wpAny_bind (wpAny_mono h₂ (fun ok s₃ h₃ => ?_) fun _ _ h' => h')) fun _ _ h' => h')
    cases ok with
    | false => exact wpAny_pure ⟨rfl, h₃⟩
    | true =>
      exact wpAny_bind (wpAny_bind (wpAny_mono h₃ (fun x s₄ h₄ => wpAny_bind (wpAny_mono h₄ (fun _ s₅ h₅ => wpAny_pure (wpAny_pure ⟨rfl, h₅⟩)) fun _ _ h' => h')) fun _ _ h' => h'))

section
variable {X : Cx}
/-- [elt for target in iter if ..]: D the new list; W by the turn and a measure, Nx what a turn is to reach -/
def tLc (wi : TI) (g : TG) (tt : TT) (te : TE) (vs : List Nat) : TE := fun σ H Q => wi σ H fun J H1 => ∀ D, H1 D = none → ∃ W : Nat → Nat → Hp → Prop, (∃ m, W 0 m (upd H1 D (.lst []))) ∧ ∀ i m H, W i m H →
  (J.stop i H ∧ Q (.ref D) H) ∨ (J.go i H ∧ ∃ Nx : Hp → Prop, (∀ H', Nx H' → ∃ m', m' < m ∧ W (i + 1) m' H') ∧ ∀ x H', J.yld i H x H' → g x (wipe σ vs) H' fun σ2 H2 => wipe σ2 vs = wipe σ vs ∧ tt σ2 H2 fun b H3 =>
    if b = true then te σ2 H3 fun y H4 => ∃ acc, H4 D = some (.lst acc) ∧ acc.length < sizeLine ∧ Nx (upd H4 D (.lst (acc ++ [y]))) else Nx H3)
theorem lc_core {pins : List (Addr × Obj)} {s : Shared} {σ : St} {H : Hp} {Q : VK} {elt tg iter : Expr} {ifs : List Expr} {scope : Scope} {own : List (Str × Nat)} {pos pos' : Pos} {wi : TI} {g : TG} {tt : TT} {te : TE} {use : Option (Value → Sem Unit)} {Qf : Value → Shared → Prop}
    (hc : X.calm = true) (hN : X.N.Nodup) (I : Inv X pins σ H s) (hi : PI X tg iter wi) (ok : BlkOk X.N X.env.scope scope own)
    (hg : ∀ (s : Shared) (H : Hp) (C : Addr) (cl : List (Str × Addr)) (fp : List Addr), PG (X.blk s H scope (compEnvC scope cl C X.env) fp) tg g) (ht : ∀ (s : Shared) (H : Hp) (C : Addr) (cl : List (Str × Addr)) (fp : List Addr), PTs (X.blk s H scope (compEnvC scope cl C X.env) fp) ifs tt)
    (he : ∀ (s : Shared) (H : Hp) (C : Addr) (cl : List (Str × Addr)) (fp : List Addr), PE (X.blk s H scope (compEnvC scope cl C X.env) fp) elt te) (hs : ∀ x, foldedSetIterable iter X.env x = pure x)
    (h : tLc wi g tt te (own.map (·.2)) σ H Q)
    (hRR : ∀ D C s' m H', Inv X pins σ H' s' → Q (.ref D) H' → s'.heap.Ns C m → FpOk X pins H' C → compPost (model X.prog X.w) X.A X.xe use Qf (.ref D) C (.ok .next) s') :
    wpAny (model X.prog X.w) X.A (comprehension (.ListComp elt [⟨tg, iter, ifs, 0⟩] scope pos) scope X.env pos' (newList []) false (eval iter X.env) use) Qf X.xe s := by
  have hfree : ∀ y ∈ scope.names, y.2 = .free → ∃ c, X.env.cells.lookup y.1 = some c := fun y hy e => by
    rcases ok.free y hy e with k | k
    · exact I.ok.has _ (.inl k)
    · exact I.ok.has _ (.inr k)
  refine wpAny_comprehension_free (use := use) rfl hs (closure_ok hfree) ok.kind (fun y hy e => by rw [ok.uniq y hy, e])
    (thn (hi pins s σ H _ I h) fun xv s1 hx => thn hx fun itv s2 h2 => ?_)
  obtain ⟨it, fp, tn, J, H2, e, I2, T, st2, f2, q⟩ := h2
  subst e
  refine wpAny_newObj_type (newEnv_comp ?_) (by show 0 ≤ sizeLine; decide)
  generalize hD : s2.heap.objs.size = D
  have hDn : H2 D = none := I2.hok.fresh (Nat.le_of_eq hD)
  obtain ⟨W, ⟨m0, w0⟩, turn⟩ := q D hDn
  -- the new list
  generalize hs3 : ({ s2 with heap := s2.heap.push { cls := .type "list", data := .seq ([] : List Value).toArray } } : Shared) = s3
  have I3 : Inv X pins σ (upd H2 D (.lst [])) s3 := by
    rw [← hs3]
    refine I2.laid (t' := s2.toks) (fun b o e => Heap.get?_push_of_some _ e) (Nat.le_of_eq hD) ⟨Nat.zero_le _, [], 0, .nil, ?_⟩
    rw [← hD]
    exact Heap.get?_push_size _ rfl
  have h3 : s3.heap = s2.heap.push { cls := .type "list", data := .seq ([] : List Value).toArray } := by rw [← hs3]
  have sz : ∀ b ∈ fp, b < s2.heap.objs.size := fun b hb => by
    obtain ⟨o, e, _⟩ := T.obj _ _ st2 b hb
    exact Heap.lt_size e
  have f3 : ∀ b ∈ fp, FpOk X pins (upd H2 D (.lst [])) b ∧ b < s3.heap.objs.size := fun b hb => by
    have hlt := sz b hb
    refine ⟨⟨?_, (f2 b hb).2⟩, by rw [h3, Heap.size_push]; exact Nat.lt_succ_of_lt hlt⟩
    rw [upd_ne (by rw [← hD]; exact Nat.ne_of_lt hlt)]
    exact (f2 b hb).1
  have st3 : tn 0 s3.heap := T.keep _ _ _ st2 fun b _ o e => by rw [h3]; exact Heap.get?_push_of_some _ e
  have I4 := block_start I3 ok hN f3
  have pg := hg s3 (upd H2 D (.lst [])) s3.heap.objs.size (cellsFrom (s3.heap.objs.size + 1) scope.names (cloFrom X.env.cells scope.names [])) fp
  have pt := ht s3 (upd H2 D (.lst [])) s3.heap.objs.size (cellsFrom (s3.heap.objs.size + 1) scope.names (cloFrom X.env.cells scope.names [])) fp
  have pe := he s3 (upd H2 D (.lst [])) s3.heap.objs.size (cellsFrom (s3.heap.objs.size + 1) scope.names (cloFrom X.env.cells scope.names [])) fp
  show codeAny _ _ (.compStart (.ListComp elt [⟨tg, iter, ifs, 0⟩] scope pos) 0 (.ref it) (.ref D) (compEnvC scope (cellsFrom (s3.heap.objs.size + 1) scope.names (cloFrom X.env.cells scope.names [])) s3.heap.objs.size X.env)) (compPost (model X.prog X.w) X.A X.xe use Qf (.ref D) s3.heap.objs.size) { s3 with heap := pushCells (s3.heap.push { cls := .type "dict", data := .dict #[] }) scope.names }
  have nfp : ∀ b ∈ fp, (upd H2 D (.lst [])) b = none := fun b hb => (f3 b hb).1.1
  generalize hce : compEnvC scope (cellsFrom (s3.heap.objs.size + 1) scope.names (cloFrom X.env.cells scope.names [])) s3.heap.objs.size X.env = ce at I4 pg pt pe ⊢
  have cL : ce.locals = s3.heap.objs.size := by subst hce; rfl
  generalize hH3 : upd H2 D (.lst []) = H3 at I3 I4 pg pt pe w0 nfp f3
  generalize hs4 : ({ s3 with heap := pushCells (s3.heap.push { cls := .type "dict", data := .dict #[] }) scope.names } : Shared) = s4 at I4 ⊢
  have st4 : tn 0 s4.heap := T.keep _ _ _ st3 fun b _ o e => by rw [← hs4]; exact pushCells_keeps _ _ _ _ (Heap.get?_push_of_some _ e)
  have stat : ∀ {σ' : St} {H' : Hp} {s' : Shared}, Inv (X.blk s3 H3 scope ce fp) [] σ' H' s' → (∀ b ∈ fp, H' b = none) → ∀ b ∈ fp, FpOk (X.blk s3 H3 scope ce fp) [] H' b := fun {σ' H' s'} I' hn b hb =>
    ⟨hn b hb, (I'.ok.exf b hb).1, I'.ok.exfs b hb, .inl hb, fun x c e => (I'.ok.exf b hb).2 x c e, fun p hp => absurd (show p ∈ ([] : List (Addr × Obj)) ++ [] from hp) (by simp)⟩
  have loop : codeAny (model X.prog X.w) X.A (.compLoop (.ListComp elt [⟨tg, iter, ifs, 0⟩] scope pos) 0 (.ref it) (.ref D) ce) (compPost (model X.prog X.w) X.A X.xe use Qf (.ref D) s3.heap.objs.size) s4 := by
    refine compLoop_any (fun n s' => ∃ i H', Inv (X.blk s3 H3 scope ce fp) [] (wipe σ (own.map (·.2))) H' s' ∧ tn i s'.heap ∧ (∀ b ∈ fp, H' b = none) ∧ W i n H') ?_ m0 ⟨0, H3, I4, st4, nfp, w0⟩
    rintro n s5 ⟨i, H5, I5, st5, n5, w5⟩
    rcases turn i n H5 w5 with ⟨stop, qq⟩ | ⟨go, Nx, hNx, step⟩
    · have td := T.done (X.blk s3 H3 scope ce fp) rfl rfl rfl hc i [] s5 _ H5 (fun _ _ => False) I5 (stat I5 n5) st5 stop
      refine thnF td fun r s6 ⟨hr, I6⟩ => ?_
      subst hr
      -- back in the def's context
      have I7 : Inv X pins σ H5 s6 := I3.call' (ch := fp) I6.os I6.base I6.hok I6.bare fun b hb => ⟨(f3 b hb).1.2.2.2.1, (f3 b hb).1.2.1, (f3 b hb).1.2.2.2.2.1, (f3 b hb).1.2.2.2.2.2⟩
      have nC : H5 s3.heap.objs.size = none := by
        have z : H5 ce.locals = none := I6.free
        rw [cL] at z
        exact z
      obtain ⟨m, hn, _⟩ := I6.loc
      have hn : s6.heap.Ns ce.locals m := hn
      rw [cL] at hn
      exact hRR D s3.heap.objs.size s6 m H5 I7 qq hn (I3.fpOk (Nat.le_refl _) nC)
    · have ti := T.item (X.blk s3 H3 scope ce fp) rfl rfl rfl hc i [] s5 _ H5 (fun _ _ => False) I5 (stat I5 n5) st5 go
      refine thnF ti fun r s6 ⟨u, hr, h6⟩ => ?_
      subst hr
      refine thnF h6 fun _ s7 ⟨x, H7, I7, r7, y7, st7, n7⟩ => ?_
      have I7' := I7.pinned (stat I7 n7) (T.obj _ _ st7)
      refine thnF (pg _ s7 _ H7 x u _ I7' r7 (step x H7 y7)) fun _ s8 ⟨σ8, H8, I8, hw8, q8⟩ => ?_
      refine thnF (pt _ s8 σ8 H8 _ I8 q8) fun b s9 ⟨H9, I9, q9⟩ => ?_
      -- the turn's end
      have fin : ∀ {s' : Shared} {H' : Hp}, Inv (X.blk s3 H3 scope ce fp) ([] ++ pinsAt fp s7.heap) σ8 H' s' → Nx H' → ∃ m, m < n ∧ ∃ i H', Inv (X.blk s3 H3 scope ce fp) [] (wipe σ (own.map (·.2))) H' s' ∧ tn i s'.heap ∧ (∀ b ∈ fp, H' b = none) ∧ W i m H' := fun {s' H'} I' nx => by
        obtain ⟨m', hm, w'⟩ := hNx H' nx
        have pin' : ∀ b ∈ fp, ∀ o, s7.heap.get? b = some o → s'.heap.get? b = some o ∧ H' b = none := fun b hb o e =>
          let z := I'.pin (b, o) (List.mem_append_right _ (List.mem_append_right _ (mem_pinsAt hb e)))
          ⟨z.1, z.2.1⟩
        have hl : (wipe σ (own.map (·.2))).length = σ8.length := by rw [← hw8, wipe_length]
        refine ⟨m', hm, i + 1, H', (I'.unpinned (pins := [])).weak hl (fun j v e => ?_), T.keep _ _ _ st7 fun b hb o e => (pin' b hb o e).1, fun b hb => ?_, w'⟩
        · rw [← hw8] at e
          exact (wipe_some e).1
        · obtain ⟨o, e, _⟩ := T.obj _ _ st7 b hb
          exact (pin' b hb o e).2
      cases b with
      | false =>
        simp only [Bool.false_eq_true, if_false] at q9 ⊢
        exact fin I9 q9
      | true =>
        simp only [if_true] at q9 ⊢
        refine thnF (pe _ s9 σ8 H9 _ I9 q9) fun z s10 ⟨yv, H10, I10, r10, acc, hD10, hz10, nx⟩ => ?_
        exact app_ok (X := X.blk s3 H3 scope ce fp) I10 hD10 hz10 r10 fun s11 I11 => fin I11 nx
  exact codeAny_compStart_list loop (T.self X.A 0 _ _ _ st4 loop)
/-- as a value -/
theorem pe_lc {elt tg iter : Expr} {ifs : List Expr} {scope : Scope} {own : List (Str × Nat)} {pos : Pos} {wi : TI} {g : TG} {tt : TT} {te : TE} (hc : X.calm = true) (hN : X.N.Nodup) (hi : PI X tg iter wi) (ok : BlkOk X.N X.env.scope scope own)
    (hg : ∀ (s : Shared) (H : Hp) (C : Addr) (cl : List (Str × Addr)) (fp : List Addr), PG (X.blk s H scope (compEnvC scope cl C X.env) fp) tg g) (ht : ∀ (s : Shared) (H : Hp) (C : Addr) (cl : List (Str × Addr)) (fp : List Addr), PTs (X.blk s H scope (compEnvC scope cl C X.env) fp) ifs tt)
    (he : ∀ (s : Shared) (H : Hp) (C : Addr) (cl : List (Str × Addr)) (fp : List Addr), PE (X.blk s H scope (compEnvC scope cl C X.env) fp) elt te) (hs : ∀ x, foldedSetIterable iter X.env x = pure x := by intro _; rfl) :
    PE X (.ListComp elt [⟨tg, iter, ifs, 0⟩] scope pos) (tLc wi g tt te (own.map (·.2))) := by
  intro pins s σ H Q I h
  rw [eval_ListComp]
  refine lc_core hc hN I hi ok hg ht he hs h fun D C s' m H' I' q hn f => ⟨m, hn, fun h'' sb => ?_⟩
  obtain ⟨f0, f1, f2, f3, f4, f5⟩ := f
  exact ⟨.ref D, H', I'.turned (t' := s'.toks) (fun b o hb e => (sb.2 b hb).trans e) f0 f1 f3 f4 f5, rfl, q⟩
end

/-! ### the forms one uses -/
/-- over a range: Pv by the turn and the heap (the new list at D within) -/
theorem lc_range {lo : Int} {n : Nat} {g : TG} {tt : TT} {te : TE} {vs : List Nat} {σ : St} {H1 : Hp} {D : Addr} {Qd : Hp → Prop} (Pv : Nat → Hp → Prop) (h0 : Pv 0 (upd H1 D (.lst [])))
    (hs : ∀ i H, i < n → Pv i H → g (.int (lo + i)) (wipe σ vs) H fun σ2 H2 => wipe σ2 vs = wipe σ vs ∧ tt σ2 H2 fun b H3 =>
      if b = true then te σ2 H3 fun y H4 => ∃ acc, H4 D = some (.lst acc) ∧ acc.length < sizeLine ∧ Pv (i + 1) (upd H4 D (.lst (acc ++ [y]))) else Pv (i + 1) H3) (hd : ∀ H, Pv n H → Qd H) :
    ∃ W : Nat → Nat → Hp → Prop, (∃ m, W 0 m (upd H1 D (.lst []))) ∧ ∀ i m H, W i m H →
      ((Itr lo n).stop i H ∧ Qd H) ∨ ((Itr lo n).go i H ∧ ∃ Nx : Hp → Prop, (∀ H', Nx H' → ∃ m', m' < m ∧ W (i + 1) m' H') ∧ ∀ x H', (Itr lo n).yld i H x H' → g x (wipe σ vs) H' fun σ2 H2 => wipe σ2 vs = wipe σ vs ∧ tt σ2 H2 fun b H3 =>
        if b = true then te σ2 H3 fun y H4 => ∃ acc, H4 D = some (.lst acc) ∧ acc.length < sizeLine ∧ Nx (upd H4 D (.lst (acc ++ [y]))) else Nx H3) := by
  refine ⟨fun i m H => m = n - i ∧ i ≤ n ∧ Pv i H, ⟨n, by simp, Nat.zero_le _, h0⟩, ?_⟩
  rintro i m H ⟨rfl, hi, p⟩
  by_cases hlt : i < n
  · refine .inr ⟨hlt, Pv (i + 1), fun H' p' => ⟨n - (i + 1), by omega, rfl, hlt, p'⟩, fun x H' y => ?_⟩
    obtain ⟨e, y⟩ := y
    subst e y
    exact hs i _ hlt p
  · have e : i = n := by omega
    subst e
    exact .inl ⟨Nat.le_refl _, hd H p⟩
/-- over a list that the block leaves as it is -/
theorem lc_list {K : PySem.W.Frag} {a : Addr} {xs : List V} {g : TG} {tt : TT} {te : TE} {vs : List Nat} {σ : St} {H1 : Hp} {D : Addr} {Qd : Hp → Prop} (Pv : Nat → Hp → Prop) (h0 : Pv 0 (upd H1 D (.lst []))) (hl : ∀ i H, i ≤ xs.length → Pv i H → SqL K H a xs)
    (hs : ∀ i x H, xs[i]? = some x → Pv i H → g x (wipe σ vs) H fun σ2 H2 => wipe σ2 vs = wipe σ vs ∧ tt σ2 H2 fun b H3 =>
      if b = true then te σ2 H3 fun y H4 => ∃ acc, H4 D = some (.lst acc) ∧ acc.length < sizeLine ∧ Pv (i + 1) (upd H4 D (.lst (acc ++ [y]))) else Pv (i + 1) H3) (hd : ∀ H, Pv xs.length H → Qd H) :
    ∃ W : Nat → Nat → Hp → Prop, (∃ m, W 0 m (upd H1 D (.lst []))) ∧ ∀ i m H, W i m H →
      ((Itl K a).stop i H ∧ Qd H) ∨ ((Itl K a).go i H ∧ ∃ Nx : Hp → Prop, (∀ H', Nx H' → ∃ m', m' < m ∧ W (i + 1) m' H') ∧ ∀ x H', (Itl K a).yld i H x H' → g x (wipe σ vs) H' fun σ2 H2 => wipe σ2 vs = wipe σ vs ∧ tt σ2 H2 fun b H3 =>
        if b = true then te σ2 H3 fun y H4 => ∃ acc, H4 D = some (.lst acc) ∧ acc.length < sizeLine ∧ Nx (upd H4 D (.lst (acc ++ [y]))) else Nx H3) := by
  refine ⟨fun i m H => m = xs.length - i ∧ i ≤ xs.length ∧ Pv i H, ⟨xs.length, by simp, Nat.zero_le _, h0⟩, ?_⟩
  rintro i m H ⟨rfl, hi, p⟩
  have q := hl i H hi p
  by_cases hlt : i < xs.length
  · refine .inr ⟨⟨xs, xs[i], q, by simp [hlt]⟩, Pv (i + 1), fun H' p' => ⟨xs.length - (i + 1), by omega, rfl, hlt, p'⟩, fun x H' y => ?_⟩
    obtain ⟨e, y⟩ := y
    subst e
    exact hs i x _ (y xs q) p
  · have e : i = xs.length := by omega
    subst e
    exact .inl ⟨⟨xs, q, Nat.le_refl _⟩, hd H p⟩
/-- over a tuple -/
theorem lc_tup {K : PySem.W.Frag} {a : Addr} {xs : List V} {g : TG} {tt : TT} {te : TE} {vs : List Nat} {σ : St} {H1 : Hp} {D : Addr} {Qd : Hp → Prop} (Pv : Nat → Hp → Prop) (h0 : Pv 0 (upd H1 D (.lst []))) (hl : ∀ i H, i ≤ xs.length → Pv i H → SqT K H a xs)
    (hs : ∀ i x H, xs[i]? = some x → Pv i H → g x (wipe σ vs) H fun σ2 H2 => wipe σ2 vs = wipe σ vs ∧ tt σ2 H2 fun b H3 =>
      if b = true then te σ2 H3 fun y H4 => ∃ acc, H4 D = some (.lst acc) ∧ acc.length < sizeLine ∧ Pv (i + 1) (upd H4 D (.lst (acc ++ [y]))) else Pv (i + 1) H3) (hd : ∀ H, Pv xs.length H → Qd H) :
    ∃ W : Nat → Nat → Hp → Prop, (∃ m, W 0 m (upd H1 D (.lst []))) ∧ ∀ i m H, W i m H →
      ((Itt K a).stop i H ∧ Qd H) ∨ ((Itt K a).go i H ∧ ∃ Nx : Hp → Prop, (∀ H', Nx H' → ∃ m', m' < m ∧ W (i + 1) m' H') ∧ ∀ x H', (Itt K a).yld i H x H' → g x (wipe σ vs) H' fun σ2 H2 => wipe σ2 vs = wipe σ vs ∧ tt σ2 H2 fun b H3 =>
        if b = true then te σ2 H3 fun y H4 => ∃ acc, H4 D = some (.lst acc) ∧ acc.length < sizeLine ∧ Nx (upd H4 D (.lst (acc ++ [y]))) else Nx H3) := by
  refine ⟨fun i m H => m = xs.length - i ∧ i ≤ xs.length ∧ Pv i H, ⟨xs.length, by simp, Nat.zero_le _, h0⟩, ?_⟩
  rintro i m H ⟨rfl, hi, p⟩
  have q := hl i H hi p
  by_cases hlt : i < xs.length
  · refine .inr ⟨⟨xs, xs[i], q, by simp [hlt]⟩, Pv (i + 1), fun H' p' => ⟨xs.length - (i + 1), by omega, rfl, hlt, p'⟩, fun x H' y => ?_⟩
    obtain ⟨e, y⟩ := y
    subst e
    exact hs i x _ (y xs q) p
  · have e : i = xs.length := by omega
    subst e
    exact .inl ⟨⟨xs, q, Nat.le_refl _⟩, hd H p⟩
def blkC (N : List Str) (sc scope : Scope) (own : List (Str × Nat)) : Bool :=
  (match scope.kind with | .function => true | _ => false) && (scope.names.all fun y => decide (scope.names.lookup y.1 = some y.2)) && (own.all fun p => decide (N[p.2]? = some p.1)) &&
    (scope.names.all fun y => match y.2 with
      | .free => (match sc.names.lookup y.1 with | some .cell => true | some .free => true | _ => false)
      | .local => decide (y.1 ∈ own.map (·.1)) || decide (y.1 ∉ N)
      | .cell => decide (y.1 ∈ own.map (·.1)) || decide (y.1 ∉ N)
      | _ => true)
theorem blkOk_by {N : List Str} {sc scope : Scope} {own : List (Str × Nat)} (h : blkC N sc scope own = true) : BlkOk N sc scope own := by
  unfold blkC at h
  simp only [Bool.and_eq_true, List.all_eq_true, decide_eq_true_eq] at h
  obtain ⟨⟨⟨h1, h2⟩, h3⟩, h4⟩ := h
  refine ⟨?_, h2, h3, fun y hy e => ?_, fun y hy e => ?_⟩
  · split at h1
    · assumption
    · cases h1
  · have q := h4 y hy
    simp only [e] at q
    split at q <;> first | exact .inl (by assumption) | exact .inr (by assumption) | cases q
  · have q := h4 y hy
    rcases e with e | e <;> (simp only [e, Bool.or_eq_true, decide_eq_true_eq] at q; exact q)
end L2

namespace L2
open PySem PySem.Spec PyProof.Rows

section
variable {prog : Program} {w : World} {A : Around} {R : Result → Shared → Prop} {s : Shared} {elt t0 i0 t1 i1 : Expr} {ifs0 ifs1 : List Expr} {scope : Scope} {pos : Pos} {it acc : Value} {env : Env}
end

section
variable {X : Cx}
end
end L2

namespace L2
open PySem PySem.Spec PyProof.Rows

/-! ### lists of pairs as tables -/
section
variable {κ : Type} [DecidableEq κ]
end


/-! ### a tracked dict, its keys ints and texts or tuples of these -/
section
variable {P : Program} {w : World} {H : Hp} {h : Heap} {a : Addr}
end

section
variable {X : Cx} {pins : List (Addr × Obj)} {σ : St} {H : Hp} {s : Shared} {a : Addr} {y v : V} {u r : Value} {o : Option V} {A : Around} {E : Value → Shared → Prop}

end

section
variable {X : Cx} {pins : List (Addr × Obj)} {σ : St} {H : Hp} {s : Shared} {a : Addr} {kvs : List (Key × V)} {k : Key} {u : Value} {A : Around} {E : Value → Shared → Prop}
end


/-! ### readings and rules -/
section
variable {X : Cx} {o i e value : Expr} {pos pos' tpos : Pos} {td ty tv : TE}
end


/-! ### displays -/
section
variable {X : Cx} {pos : Pos}
end

/-! ### methods -/
/-- a method call o.m(e) of a built-in, with one argument: what must be seen of the text -/
structure M1 (X : Cx) (o : Expr) (m : Str) (apos : Pos) (e : Expr) (cpos : Pos) : Prop where
  base : attributeBase o m X.env (eval o X.env) = eval o X.env
  few : ((backTo cpos (starEach [e] X.env)).all (fun x => !x.1) && (backToKw cpos (keywordEach [] X.env)).all (fun x => x.1.isSome)
    && decide (([e] : List Expr).length + ([] : List Keyword).length + (if ([] : List Keyword).isEmpty then 0 else 1) < 30)) = true
  line : (apos.endLine == cpos.line) = true
  trees : backTo cpos (starEach [e] X.env) = [(false, eval e X.env)]
structure M2 (X : Cx) (o : Expr) (m : Str) (apos : Pos) (e f : Expr) (cpos : Pos) : Prop where
  base : attributeBase o m X.env (eval o X.env) = eval o X.env
  few : ((backTo cpos (starEach [e, f] X.env)).all (fun x => !x.1) && (backToKw cpos (keywordEach [] X.env)).all (fun x => x.1.isSome)
    && decide (([e, f] : List Expr).length + ([] : List Keyword).length + (if ([] : List Keyword).isEmpty then 0 else 1) < 30)) = true
  line : (apos.endLine == cpos.line) = true
  trees : backTo cpos (starEach [e, f] X.env) = [(false, eval e X.env), (false, eval f X.env)]

section
variable {X : Cx} {pins : List (Addr × Obj)} {σ : St} {H : Hp} {s : Shared} {a : Addr} {y d : V} {u r : Value} {o : Option V} {A : Around} {E : Value → Shared → Prop}
end

section
variable {X : Cx} {o e f : Expr} {apos cpos : Pos} {td ty tx : TE}
end

/-! ### dict(d): a copy -/
section
variable {X : Cx} {pins : List (Addr × Obj)} {σ : St} {H : Hp} {s : Shared} {a : Addr} {kvs : List (Key × V)} {A : Around} {E : Value → Shared → Prop}
end


section
variable {X : Cx} {pins : List (Addr × Obj)} {σ : St} {H : Hp} {s : Shared} {a : Addr} {y : V} {u : Value} {A : Around} {E : Value → Shared → Prop}
end
end L2

namespace L2
open PySem PySem.Spec PyProof.Rows

section
variable {prog : Program} {w : World} {A : Around} {E : Value → Shared → Prop}
end

section
variable {X : Cx}
end
end L2

namespace L2
open PySem PySem.Spec PyProof.Rows

section
variable {X : Cx} {pins : List (Addr × Obj)} {σ : St} {H : Hp} {s : Shared} {h' : Heap}
/-- .. and one new object is laid -/
theorem Inv.turnedNew {t' : Nat} {ch : List Addr} {T : Addr} {ob : HO} (I : Inv X pins σ H s) (k : ∀ b o, b ∉ ch → s.heap.get? b = some o → h'.get? b = some o) (hf : ∀ b ∈ ch, FpOk X pins H b) (hT : s.heap.objs.size ≤ T)
    (new : ObjOk X.prog X.w (upd H T ob) h' T ob) : Inv X pins σ (upd H T ob) { s with heap := h', toks := t' } := by
  have hn : H T = none := I.hok.fresh hT
  have nit : ∀ b u, H b = some u → b ∉ ch := fun b u e z => by
    have q := (hf b z).1
    rw [q] at e; cases e
  refine I.step (g' := s.gens) (d' := s.drawn) (ch := ch) (fun b hb => ⟨(hf b hb).2.2.2.1, (hf b hb).2.1, (hf b hb).2.2.2.2.1, (hf b hb).2.2.2.2.2⟩) (fun b o _ _ hc e _ => k b o hc e) (fun b o _ _ hc e _ => ⟨o.slots, k b o hc e⟩)
    (fun b o _ e n => ?_) (fun b o hc e => ⟨o, k b o hc e⟩) (fun b xs e => ?_) (fun b o u e => ?_) (fun b ps e => ⟨#[], ?_⟩) (fun m hm => ?_) (fun b u e => ?_) I.bare
  · rw [upd_ne (Nat.ne_of_lt (Nat.lt_of_lt_of_le (Heap.lt_size e) hT))]; exact n
  · rw [upd_ne (ne_of_none e hn)]; exact e
  · rw [upd_ne (ne_of_none e hn)]; exact e
  · rw [upd_ne (ne_of_none e hn), e]; simp
  · obtain ⟨o, es, ep, ho, r⟩ := hm
    exact ⟨o, es, ep, k _ o (fun z => (hf _ z).2.1 rfl) ho, r⟩
  · by_cases hb : b = T
    · subst hb
      rw [upd_same] at e
      cases e
      exact new
    · rw [upd_ne hb] at e
      refine (I.hok b u e).stay (fun c v hc q => k c v ?_ q) (fun c q => by rw [upd_ne (ne_of_none q hn)]; exact q) fun c xs q => by rw [upd_ne (ne_of_none q hn)]; exact q
      rcases hc with z | z
      · rw [z]; exact nit b u e
      · exact nit c _ z

/-! ### locking a thing while a statement runs -/
theorem Inv.lock {d : Addr} {u : HO} (I : Inv X pins σ H s) (h : H d = some u) (mu : Mut (some u)) : ∃ od, Inv X pins σ (upd H d (.frz od u)) s := by
  have x := I.hok d u h
  have ex : ∃ od, s.heap.get? d = some od := by
    cases u with
    | lst xs => obtain ⟨_, _, _, _, e⟩ := x; exact ⟨_, e⟩
    | dK kvs => obtain ⟨_, _, _, _, o, _, _, e, _⟩ := x; exact ⟨o, e⟩
    | dT kvs => obtain ⟨_, _, _, _, o, _, _, e, _⟩ := x; exact ⟨o, e⟩
    | set S n => obtain ⟨o, _, _, _, e, _⟩ := x; exact ⟨o, e⟩
    | ins C dx fs => obtain ⟨_, _, _, e, _⟩ := x; exact ⟨_, e⟩
    | ext φ => obtain ⟨_, ⟨_, e⟩, _⟩ := x; exact ⟨_, e⟩
    | _ => exact False.elim mu
  obtain ⟨od, e⟩ := ex
  have new : ObjOk X.prog X.w (upd H d (.frz od u)) s.heap d (.frz od u) := by
    refine ⟨e, x.stay (fun b v _ q => q) (fun b q => ?_) fun b xs q => ?_⟩
    · rw [upd_ne (fun z => by rw [z, h] at q; cases q; exact mu)]; exact q
    · rw [upd_ne (fun z => by rw [z, h] at q; cases q; exact mu)]; exact q
  exact ⟨od, I.write (x := d) (e := d) (t' := s.toks) (h' := s.heap) (by rw [h]; exact mu) (.inl rfl) (fun b v _ q => q) ⟨od, e⟩ new⟩
theorem Inv.nofrz {d : Addr} {u : HO} (I : Inv X pins σ H s) (h : H d = some u) (mu : Mut (some u)) : ∀ o' u', X.H_0 d ≠ some (.frz o' u') := fun o' u' e => by
  have q := I.base.frzs d o' u' e
  rw [h] at q
  cases q
  exact mu
theorem Inv.unlock {d : Addr} {od : Obj} {u : HO} (I : Inv X pins σ H s) (h : H d = some (.frz od u)) (hn : ∀ o' u', X.H_0 d ≠ some (.frz o' u')) : Inv X pins σ (upd H d u) s := by
  have neH : ∀ b o, H b = some o → (∀ o' u', o ≠ .frz o' u') → b ≠ d := fun b o e hne z => by
    rw [z, h] at e
    cases e
    exact hne _ _ rfl
  have neN : ∀ b, H b = none → b ≠ d := fun b e z => by rw [z, h] at e; cases e
  refine ⟨I.ok, I.os, I.bare, ⟨I.base.keep, I.base.slot, fun b o e n hx => ?_, I.base.there, fun b xs e => ?_, fun b o x e => ?_, fun b ps e => ?_⟩, I.loc, I.cell, ?_, fun x c e => ?_, fun p hp => ?_, fun b o e => ?_, I.len⟩
  · rw [upd_ne (neN b (I.base.free b o e n hx))]; exact I.base.free b o e n hx
  · have q := I.base.tups b xs e
    rw [upd_ne (neH b _ q (fun _ _ z => nomatch z))]; exact q
  · have q := I.base.frzs b o x e
    rw [upd_ne (fun z => by rw [z] at e; exact hn _ _ e)]; exact q
  · obtain ⟨m, q⟩ := I.base.tbls b ps e
    exact ⟨m, by rw [upd_ne (neH b _ q (fun _ _ z => nomatch z))]; exact q⟩
  · rw [upd_ne (neN _ I.free)]; exact I.free
  · rw [upd_ne (neN c (I.freeC x c e))]; exact I.freeC x c e
  · obtain ⟨e, n, r⟩ := I.pin p hp
    exact ⟨e, by rw [upd_ne (neN _ n)]; exact n, r⟩
  · by_cases hb : b = d
    · rw [hb, upd_same] at e
      cases e
      rw [hb]
      obtain ⟨_, x⟩ := I.hok d _ h
      exact x.stay (fun c v _ q => q) (fun c q => by rw [upd_ne (neH c _ q (fun _ _ z => nomatch z))]; exact q) fun c xs q => by rw [upd_ne (neH c _ q (fun _ _ z => nomatch z))]; exact q
    · rw [upd_ne hb] at e
      exact (I.hok b o e).stay (fun c v _ q => q) (fun c q => by rw [upd_ne (neH c _ q (fun _ _ z => nomatch z))]; exact q) fun c xs q => by rw [upd_ne (neH c _ q (fun _ _ z => nomatch z))]; exact q
end
def tLockE (t : TE) : TE := fun σ H Q => ∃ d u, H d = some u ∧ Mut (some u) ∧ ∀ od, t σ (upd H d (.frz od u)) fun v H' => H' d = some (.frz od u) ∧ Q v (upd H' d u)
section
variable {X : Cx}
theorem pe_lock {e : Expr} {t : TE} (h : PE X e t) : PE X e (tLockE t) := by
  intro pins s σ H Q I hw
  obtain ⟨d, u, hd, mu, hw⟩ := hw
  obtain ⟨od, I1⟩ := I.lock hd mu
  refine thn (h pins s σ _ _ I1 (hw od)) fun v s1 ⟨x, H1, I2, r, e2, q⟩ => ?_
  exact ⟨x, _, I2.unlock e2 (I.nofrz hd mu), r, q⟩

/-! ### one iterator just laid -/
end

/-! ### range with a step -/
/-- range(i, j, c): small bounds, n items -/
def RgC (i j c : Int) (n : Nat) : Prop := c ≠ 0 ∧ c.natAbs < 1073741824 ∧ Builtin.Range.small i j c = true ∧ Builtin.Range.rangeSize i j c = n
section
variable {X : Cx} {tg : Expr}
end
/-! ### reversed(list) -/
section
variable {X : Cx} {tg : Expr}
end

/-! ### a str -/
/-! ### a dict's keys: any dict's entries -/
section
variable {prog : Program} {w : World} {A : Around} {E : Value → Shared → Prop} {s : Shared}
end

/-! ### a locked dict -/
section
variable {X : Cx} {pins : List (Addr × Obj)} {σ : St} {H : Hp} {s : Shared} {d : Addr} {o : Obj}
end

section
variable {P : Program} {w : World} {K : PySem.W.Frag} {tg : Expr} {d : Addr} {o : Obj} {es : Array DictEntry} {ep : Nat}
end

/-! ### for k in d, d.keys(), d.values(), d.items() -/
section
variable {X : Cx} {tg e : Expr} {td : TE} {apos cpos : Pos}
end

/-! ### enumerate(list) -/
/-! ### zip(list, list) -/
end L2

section 
namespace Bits
open PySem PyProof.Rows

end Bits
end 

section 
namespace TL
open PySem PySem.Builtin PySem.Builtin.Str PySem.StrLaws

/-! ### the list functions -/
/-! ### the model's split and partition are these -/
/-! ### computing spl and par -/
/-! ### digits -/
/-! ### words: x.split() -/
end TL
end 

namespace L2
open PySem PySem.Spec PyProof.Rows

section
variable {X : Cx} {pins : List (Addr × Obj)} {σ : St} {H : Hp} {s : Shared} {Q : VK}
end

section
variable {X : Cx}

/-! ### of a text alone -/
/-! ### of a text and a text -/
end

section
variable {X : Cx} {o e : Expr} {to te : TE}
end
end L2

namespace L2
open PySem PySem.Spec PyProof.Rows

section
variable {X : Cx}
end

/-! ### slices of a text -/
end L2

namespace Att
open PySem PySem.W PySem.Calls PyProof.Rows

/-! ### the script -/
/-! ### the attachment: holds_open's last premise (the goal 'hc' behind k_head) from a wpAny of the law's body -/
/-! ### rules over ANY heap (no ledger) from facts about the written part K: the library's own take a ledger (News) for what they write -/
section
variable {prog : Program} {w : World} {A : Around} {E : Value → Shared → Prop} {s : Shared} {K : Frag}

/-! the whole heap as the ledger: makes every rule that writes through a ledger a rule over any heap -/
end
end Att

namespace L2
open PySem PySem.Spec PyProof.Rows

end L2

namespace L2
open PySem PySem.Spec PyProof.Rows

end L2

/- THE LAST THEOREM (shape; LID, My.* are yours):
   My.Adr: a structure of the addresses that your layer names (classes, functions); My.Txt K t: a structure (Prop) of the equations over K;
   My.txt_mk : {K} {implicit addresses ..} (e1 : nsIn K mainGlobals "law" = some (some (.ref f))) (e2 : K.lookup f = some ⟨oc, od, .func (fnOf "law" "law" params body scope dV kV doc pm an cdv ct), sl⟩) (e3 : codeIn K cdv "law" = true) .. : ∃ t, My.Txt K t

set_option maxRecDepth 100000 in
set_option maxHeartbeats 0 in
theorem PySem.Challenge.cw_LID_holds : PySem.Challenge.rw_LID.Holds := by
  w_on; o_law; k_head; (case hw => w_witness2)
  k_fill
  refine L2.walk_of (l := PySem.Challenge.rw_LID) (n := 63) (k := 40) (x := "script") (CX := fun w => ..) (sp := fun _ => My.sp_law) rfl (by decide) rfl ⟨rfl, by decide, by decide⟩ (fun w h Y => PySem.W.kIn_of Y) ?F ?S ?C
  case F =>
    intro w mg fa h KX G hmg
    have T : ∃ t, My.Txt (L2.KOf KX) t := by
      dsimp only [L2.KOf]                          -- K must stand as «<heap const> w.params» for k_is
      refine' My.txt_mk ?e1 ?e2 ?e3 ..
      (case e1 => PySem.W.k_is)                    -- in the order: a name -> its address -> its object -> its parts
      (case e2 => PySem.W.k_is)
      ..
    obtain ⟨t, T⟩ := T
    have e0 := hmg.symm.trans (PySem.W.mg_of KX G T.law)
    cases e0                                       -- fa is the law's own address
    exact ⟨_, fun s u => .of_eq rfl, fun base kb nb => My.law_fn T kb nb⟩     -- if «.of_eq rfl» comes too early: refine' ⟨_, ?b, fun base kb nb => My.law_fn T kb nb⟩; exact fun s u => .of_eq rfl
  case S => exact fun w H a ns hl hO hS => ..
  case C => exact ..
(the tactic k_is has no namespace: write k_is) -/

/-! SHORT WORDS over the layer: a def of the text, its body, what a loop and a test want. -/
namespace L2
open PySem PySem.Spec PyProof.Rows

/-! ### the text by places -/
/-- the j-th statement of a class's body -/
def inClass (s : Stmt) (j : Nat) : Stmt := match s with
  | .ClassDef _ _ _ body _ _ _ _ _ _ _ => body.getD j (.Pass ⟨0, 0, 0, 0⟩)
  | _ => .Pass ⟨0, 0, 0, 0⟩
def defArgs (s : Stmt) : Arguments := match s with
  | .FunctionDef _ a _ _ _ _ _ _ _ _ => a
  | _ => { posonlyargs := [], args := [], vararg := none, kwonlyargs := [], kw_defaults := [], kwarg := none, defaults := [] }
def defBody (s : Stmt) : List Stmt := match s with
  | .FunctionDef _ _ b _ _ _ _ _ _ _ => b
  | _ => []
def defScope (s : Stmt) : Scope := match s with
  | .FunctionDef _ _ _ _ _ _ sc _ _ _ => sc
  | _ => { kind := .function, names := [], isGenerator := false, isCoroutine := false }

/-! ### no exception leaves a def -/
abbrev CX0 : CXT := fun _ _ _ _ _ _ => False
abbrev E0 : XK := fun _ _ _ => False
theorem pass0 {X : Cx} : Passes CX0 X E0 := fun _ _ _ _ _ _ _ h => h.elim

/-! ### a def (or method) of the text as it stands behind the top -/
structure Fun (K : PySem.W.Frag) (x qual : Str) (st : Stmt) (f : Addr) (fd : FuncData) : Prop where
  ex : ∃ (oc : Value) (od : Option Addr) (kV doc pm : Value) (an : Option Addr) (cdv ct : Value) (osl : Array (Option Value)),
    fd = PySem.W.fnOf x qual (defArgs st) (defBody st) (defScope st) .none kV doc pm an cdv ct ∧ K.lookup f = some ⟨oc, od, .func fd, osl⟩ ∧ PySem.W.codeIn K cdv qual = true
  kp : PySem.W.keepIn K (.ref f) = true
section
variable {P : Program} {w : World} {K : PySem.W.Frag} {mg : Str → Option Value} {base : Heap}
/-- THE RULE for a def: its body as a term of rules, and the reading of that term -/
theorem Fun.ok {x qual : Str} {st : Stmt} {f : Addr} {fd : FuncData} {N ps : List Str} {k : Nat} {sp : Sp} (F : Fun K x qual st f fd) (S : FnScope N ps (defScope st)) (len : ∀ vs H Q E, sp vs H Q E → vs.length = ps.length)
    (hbody : ∀ (cdv : Value) (A : Around) (outer : List Env) (s : Shared) (H : Hp) (vs : List V) (Q : VK) (E : XK), Room k (A.deeper (envOfC qual (defScope st) s.heap.objs.size f cdv)) → sp vs H Q E →
      ∃ t, PSs (cxOf CX0 P w K mg base N qual (defScope st) f cdv A outer s H E).nox (defBody st) t ∧ t { nx := fun _ H' => Q .non H', rt := Q } (start N vs) H) : FnOk P w K mg base CX0 (k + 1) f fd ps sp := by
  obtain ⟨oc, od, kV, doc, pm, an, cdv, ct, osl, rfl, lk, hcd⟩ := F.ex
  refine fn_of lk hcd S len fun A outer s H vs Q E hr hsp => ?_
  obtain ⟨t, h, q⟩ := hbody cdv A outer s H vs Q E hr hsp
  exact ⟨t, h.nox, q⟩
/-- how its arguments bind (no defaults): h is «fun _ _ _ _ _ _ us hl => match us, hl with | [_, _], _ => rfl», one _ a parameter -/
theorem Fun.binds {x qual : Str} {st : Stmt} {f : Addr} {fd : FuncData} {ps : List Str} (F : Fun K x qual st f fd)
    (h : ∀ (kV doc pm : Value) (an : Option Addr) (cdv ct : Value) (us : List Value), us.length = ps.length → bindArgs (PySem.W.fnOf x qual (defArgs st) (defBody st) (defScope st) .none kV doc pm an cdv ct) ⟨us, []⟩ = pure (ps.zip us)) : Binds K fd ps [] := by
  obtain ⟨oc, od, kV, doc, pm, an, cdv, ct, osl, rfl, lk, hcd⟩ := F.ex
  exact .all (h kV doc pm an cdv ct)
theorem fun_mk {x qual : Str} {st : Stmt} {f : Addr} {oc : Value} {od an : Option Addr} {osl : Array (Option Value)} {kV doc pm cdv ct : Value} (l : K.lookup f = some ⟨oc, od, .func (PySem.W.fnOf x qual (defArgs st) (defBody st) (defScope st) .none kV doc pm an cdv ct), osl⟩)
    (c : PySem.W.codeIn K cdv qual = true) (k : PySem.W.keepIn K (.ref f) = true) : Fun K x qual st f (PySem.W.fnOf x qual (defArgs st) (defBody st) (defScope st) .none kV doc pm an cdv ct) := ⟨⟨oc, od, kV, doc, pm, an, cdv, ct, osl, rfl, l, c⟩, k⟩
end
theorem small1000 {n : Nat} (h : n ≤ 1000) : n < sizeLine := Nat.lt_of_le_of_lt h (by decide)

/-! ### expressions in short: the name that stands in the i-th slot -/
section
variable {X : Cx}
theorem pv (i : Nat) {x : Str} {pos : Pos} (hN : X.N[i]? = some x := by rfl) (hv : Vis X.env.scope x := by first | exact Or.inl rfl | exact Or.inr (Or.inl rfl) | exact Or.inr (Or.inr rfl)) (hd : (x == ("__debug__" : Str)) = false := by decide)
    (hcd : (x == ("__classdict__" : Str)) = false := by decide) : PE X (.Name x pos) (tVar i) := pe_var hN hv hd hcd
end

/-! ### tests -/
theorem iteF {A B : Prop} (h : B) : if false = true then A else B := by
  rw [if_neg Bool.false_ne_true]
  exact h
theorem iteT {A B : Prop} (h : A) : if true = true then A else B := by
  rw [if_pos rfl]
  exact h
theorem ite2 {c A B : Prop} [Decidable c] (h1 : c → A) (h2 : ¬ c → B) : if c then A else B := by
  by_cases h : c
  · rw [if_pos h]
    exact h1 h
  · rw [if_neg h]
    exact h2 h
theorem iteNS {c A B : Prop} [Decidable c] (hc : c) (h : B) : if (!decide c) = true then A else B := by
  rw [decide_eq_true hc]
  exact iteF h

/-! ### heaps -/
/-- all that was tracked is as it was -/
def Same (H H' : Hp) : Prop := ∀ b o, H b = some o → H' b = some o
theorem Same.refl (H : Hp) : Same H H := fun _ _ h => h
theorem Same.trans {H H1 H2 : Hp} (a : Same H H1) (b : Same H1 H2) : Same H H2 := fun c o h => b c o (a c o h)
theorem Same.free {H H' : Hp} (e : Same H H') {l : Addr} (h : H' l = Option.none) : H l = Option.none := by
  cases q : H l with
  | none => rfl
  | some o =>
    rw [e l o q] at h
    cases h
theorem Same.seq {K : PySem.W.Frag} {H H' : Hp} {a : Addr} {xs : List V} (e : Same H H') (h : SqL K H a xs) : SqL K H' a xs := by
  rcases h with (h | ⟨o, h⟩) | h
  · exact .inl (.inl (e _ _ h))
  · exact .inl (.inr ⟨o, e _ _ h⟩)
  · exact .inr h

/-! ### a dict's pairs: keys that differ -/
section
variable {κ : Type} [DecidableEq κ]
end
/-! ### lists -/
/-- a new instance and its __init__ leave all that was tracked as it was -/
theorem Same.made {H H1 : Hp} {x dx C : Addr} (nx : H x = Option.none) (nd : H dx = Option.none) (k : ∀ b o, (upd (upd H dx (.own x)) x (.ins C dx [])) b = some o → b ≠ x → H1 b = some o) : Same H H1 := fun b o e =>
  k b o (by rw [upd_ne (ne_of_none e nx), upd_ne (ne_of_none e nd)]; exact e) (ne_of_none e nx)
end L2

end
section
set_option Elab.async false
set_option linter.all false
set_option maxRecDepth 100000
set_option maxHeartbeats 2000000
namespace L2
open PySem PySem.Spec PyProof.Rows
open PySem.W (WData Codec OpenSpec Well WellAll ReadsW ReadsAllW)
/-! ### an answer as data -/
mutual
/-- x stands for the datum d, lists and tuples all the way -/
inductive Dw (K : PySem.W.Frag) (H : Hp) : V → WData → Prop
  | non : Dw K H .non .none
  | bl (b : Bool) : Dw K H (.bl b) (.bool b)
  | int (i : Int) : Dw K H (.int i) (.int i)
  | str (x : Str) : Dw K H (.str x) (.str x)
  | byt (b : Array UInt8) : Dw K H (.byt b) (.bytes b.toList)
  | lst {a : Addr} {xs : List V} {ds : List WData} : SqL K H a xs → DwAll K H xs ds → Dw K H (.ref a) (.list ds)
  | tup {a : Addr} {xs : List V} {ds : List WData} : SqT K H a xs → DwAll K H xs ds → Dw K H (.ref a) (.tuple ds)
inductive DwAll (K : PySem.W.Frag) (H : Hp) : List V → List WData → Prop
  | nil : DwAll K H [] []
  | cons {v : V} {vs : List V} {d : WData} {ds : List WData} : Dw K H v d → DwAll K H vs ds → DwAll K H (v :: vs) (d :: ds)
end
theorem dw_ints {K : PySem.W.Frag} {H : Hp} : ∀ ns : List Int, DwAll K H (ns.map V.int) (ns.map WData.int)
  | [] => .nil
  | n :: r => .cons (.int n) (dw_ints r)
theorem ints_dw {K : PySem.W.Frag} {H : Hp} : ∀ (ns : List Int) (xs : List V), DwAll K H xs (ns.map WData.int) → xs = ns.map V.int
  | [], xs, h => by
    cases h
    rfl
  | n :: r, xs, h => by
    cases h with
    | cons h1 h2 =>
      cases h1
      rw [ints_dw r _ h2] <;> rfl
section
variable {P : Program} {w : World} {K : PySem.W.Frag} {H : Hp} {h : Heap} {R : PySem.W.WRecords} {cl : Str → Option Addr}
theorem sqL_at {a : Addr} {xs : List V} (hok : HOk P w H h) (KX : K.In h) (q : SqL K H a xs) : ∃ (its : List Value) (o : Obj) (n : Nat), Vals xs its ∧ h.get? a = some o ∧ o.cls = .type "list" ∧ o.data = .seq its.toArray n := by
  rcases q with q | ⟨o, its, n, e, hc, _, hd, _, hv⟩
  · obtain ⟨_, its, n, hv, e⟩ := (show ObjOk P w H h a (.lst xs) from q.ok hok)
    exact ⟨its, _, n, hv, e, rfl, rfl⟩
  · exact ⟨its.toList, o, n, hv, KX _ _ e, hc, by simp [hd]⟩
theorem sqT_at {a : Addr} {xs : List V} (hok : HOk P w H h) (KX : K.In h) (q : SqT K H a xs) : ∃ (its : List Value) (o : Obj) (n : Nat), Vals xs its ∧ h.get? a = some o ∧ o.cls = .type "tuple" ∧ o.data = .seq its.toArray n := by
  rcases q with q | ⟨o, its, n, e, hc, hd, _, hv⟩
  · obtain ⟨_, its, hv, o, e, hc, n, hd⟩ := (show ObjOk P w H h a (.tup xs) from q.ok hok)
    exact ⟨its, o, n, hv, e, hc, hd⟩
  · exact ⟨its.toList, o, n, hv, KX _ _ e, hc, by simp [hd]⟩
mutual
theorem Dw.reads (hok : HOk P w H h) (KX : K.In h) : ∀ (d : WData) (v : V) (u : Value), Dw K H v d → RelV v u → ∃ as, ReadsW R cl h u d as
  | .none, _, _, x, r => by
    cases x
    cases r
    exact ⟨_, ReadsW.none⟩
  | .bool b, _, _, x, r => by
    cases x
    cases r
    exact ⟨_, ReadsW.bool b⟩
  | .int i, _, _, x, r => by
    cases x
    obtain ⟨t, rfl⟩ := r
    exact ⟨_, ReadsW.int i t⟩
  | .str s, _, _, x, r => by
    cases x
    obtain ⟨t, rfl⟩ := r
    exact ⟨_, ReadsW.str s t⟩
  | .bytes b, _, _, x, r => by
    cases x
    obtain ⟨t, rfl⟩ := r
    exact ⟨_, ReadsW.bytes _ t⟩
  | .list ds, _, _, x, r => by
    cases x with
    | lst hs ha =>
      cases r
      obtain ⟨its, o, n, rv, ho, hc, hd⟩ := sqL_at hok KX hs
      obtain ⟨as, hr⟩ := Dw.readsAll hok KX ds _ its ha rv
      exact ⟨_, ReadsW.list ho hc hd hr⟩
  | .tuple ds, _, _, x, r => by
    cases x with
    | tup hs ha =>
      cases r
      obtain ⟨its, o, n, rv, ho, hc, hd⟩ := sqT_at hok KX hs
      obtain ⟨as, hr⟩ := Dw.readsAll hok KX ds _ its ha rv
      exact ⟨_, ReadsW.tuple ho hc hd hr⟩
  | .float _, _, _, x, _ => by cases x
  | .dict _, _, _, x, _ => by cases x
  | .bytearray _, _, _, x, _ => by cases x
  | .set _, _, _, x, _ => by cases x
  | .frozenset _, _, _, x, _ => by cases x
  | .obj _ _, _, _, x, _ => by cases x
theorem Dw.readsAll (hok : HOk P w H h) (KX : K.In h) : ∀ (ds : List WData) (vs : List V) (us : List Value), DwAll K H vs ds → Vals vs us → ∃ as, ReadsAllW R cl h us ds as
  | [], _, _, x, r => by
    cases x
    cases r
    exact ⟨_, ReadsAllW.nil⟩
  | d :: ds, _, _, x, r => by
    cases x with
    | cons h1 h2 =>
      cases r with
      | cons r1 r2 =>
        obtain ⟨as, q1⟩ := Dw.reads hok KX d _ _ h1 r1
        obtain ⟨bs, q2⟩ := Dw.readsAll hok KX ds _ _ h2 r2
        exact ⟨_, ReadsAllW.cons q1 q2⟩
end
end
/-! ### the arguments -/
mutual
/-- data that a codec tells -/
def plW : WData → Bool
  | .none => true
  | .bool _ => true
  | .int _ => true
  | .str _ => true
  | .bytes _ => true
  | .list xs => plWs xs
  | .tuple xs => plWs xs
  | _ => false
def plWs : List WData → Bool
  | [] => true
  | x :: r => plW x && plWs r
end
theorem plWs_map {α : Type} {f : α → WData} (h : ∀ a, plW (f a) = true) : ∀ l : List α, plWs (l.map f) = true
  | [] => rfl
  | x :: r => by
    show (plW (f x) && plWs (r.map f)) = true
    rw [h x, plWs_map h r] <;> rfl
theorem pl_enc : ∀ (c : Codec) (a : c.denote), plW (c.enc a) = true
  | .unit, _ => rfl
  | .bool, _ => rfl
  | .int _ _, _ => rfl
  | .nat _ _, _ => rfl
  | .u8, _ => rfl
  | .bytes _ _, _ => rfl
  | .text _ _ _ _, _ => rfl
  | .list _ _ c, a => plWs_map (fun x => pl_enc c x) a
  | .pair c d, a => by
    show (plW (c.enc a.1) && (plW (d.enc a.2) && true)) = true
    rw [pl_enc c a.1, pl_enc d a.2] <;> rfl
  | .triple c d e, a => by
    show (plW (c.enc a.1) && (plW (d.enc a.2.1) && (plW (e.enc a.2.2) && true))) = true
    rw [pl_enc c a.1, pl_enc d a.2.1, pl_enc e a.2.2] <;> rfl
  | .option c, none => rfl
  | .option c, some x => pl_enc c x
theorem pl_encAll : ∀ (cs : List Codec) (a : Codec.denoteAll cs), plWs (Codec.encAll cs a) = true
  | [], _ => rfl
  | c :: cs, a => by
    show (plW (c.enc a.1) && plWs (Codec.encAll cs a.2)) = true
    rw [pl_enc c a.1, pl_encAll cs a.2] <;> rfl
theorem weight_mem : ∀ {xs : List WData} {d : WData}, d ∈ xs → d.weight ≤ WData.weightAll xs
  | [], d, h => absurd h (by simp)
  | x :: r, d, h => by
    show d.weight ≤ x.weight + 1 + WData.weightAll r
    rcases List.mem_cons.mp h with e | m
    · rw [e]
      omega
    · have z := weight_mem m
      omega
def toV : Value → V
  | .none => .non
  | .bool b => .bl b
  | .int i _ => .int i
  | .str x _ => .str x
  | .bytes b _ => .byt b
  | .ref a => .ref a
  | _ => .non
/-- a value of the arguments, its objects among A -/
def OkU (A : List Addr) : Value → Prop
  | .none => True
  | .bool _ => True
  | .int _ _ => True
  | .str _ _ => True
  | .bytes _ _ => True
  | .ref a => a ∈ A
  | _ => False
theorem OkU.mono {A B : List Addr} (h : ∀ a ∈ A, a ∈ B) : ∀ {u : Value}, OkU A u → OkU B u := fun {u} x => by
  cases u with
  | ref a => exact h a x
  | none => trivial
  | bool b => trivial
  | int i t => trivial
  | str s t => trivial
  | bytes b t => trivial
  | _ => exact False.elim x
theorem relV_toV {A : List Addr} {u : Value} (x : OkU A u) : RelV (toV u) u := by
  cases u with
  | ref a => rfl
  | none => rfl
  | bool b => rfl
  | int i t => exact ⟨t, rfl⟩
  | str s t => exact ⟨t, rfl⟩
  | bytes b t => exact ⟨t, rfl⟩
  | _ => exact False.elim x
theorem vals_toV {A : List Addr} : ∀ {vs : List Value}, (∀ u ∈ vs, OkU A u) → Vals (vs.map toV) vs
  | [], _ => .nil
  | u :: r, h => .cons (relV_toV (h u (List.mem_cons_self ..))) (vals_toV fun x hx => h x (List.mem_cons_of_mem _ hx))
/-- an object of the arguments -/
def ArgOb (h : Heap) (A : List Addr) (a : Addr) : Prop := ∃ vs : List Value, vs.length ≤ sizeLine ∧ (∀ u ∈ vs, OkU A u) ∧
  (h.get? a = some { cls := .type "list", data := .seq vs.toArray } ∨ h.get? a = some { cls := .type "tuple", data := .seq vs.toArray })
theorem ArgOb.mono {h : Heap} {A B : List Addr} {a : Addr} (k : ∀ a ∈ A, a ∈ B) (x : ArgOb h A a) : ArgOb h B a := by
  obtain ⟨vs, h1, h2, h3⟩ := x
  exact ⟨vs, h1, fun u hu => (h2 u hu).mono k, h3⟩
theorem wellAll_len {P : Params} {h : Heap} : ∀ {vs : List Value} {ds : List WData}, WellAll P h vs ds → vs.length = ds.length
  | _, _, .nil => rfl
  | _, _, .cons _ b => by
    show _ + 1 = _ + 1
    rw [wellAll_len b]
theorem well_list {P : Params} {h : Heap} {v : Value} {ds : List WData} (x : Well P h v (.list ds)) : ∃ (a : Addr) (vs : List Value), v = .ref a ∧ h.get? a = some { cls := .type "list", data := .seq vs.toArray } ∧ WellAll P h vs ds := by
  cases x with
  | list ho hall => exact ⟨_, _, rfl, ho, hall⟩
theorem well_tuple {P : Params} {h : Heap} {v : Value} {ds : List WData} (x : Well P h v (.tuple ds)) : ∃ (a : Addr) (vs : List Value), v = .ref a ∧ h.get? a = some { cls := .type "tuple", data := .seq vs.toArray } ∧ WellAll P h vs ds := by
  cases x with
  | tuple ho hall => exact ⟨_, _, rfl, ho, hall⟩
theorem well_cons {P : Params} {h : Heap} {us : List Value} {d : WData} {ds : List WData} (x : WellAll P h us (d :: ds)) : ∃ (v : Value) (vs : List Value), us = v :: vs ∧ Well P h v d ∧ WellAll P h vs ds := by
  cases x with
  | cons a b => exact ⟨_, _, rfl, a, b⟩
theorem line_of {n : Nat} (h : n ≤ 1048576) : n ≤ sizeLine := Nat.le_trans h (by decide)
section
variable {P : Params} {h : Heap}
mutual
theorem area_one : ∀ (d : WData) (v : Value), Well P h v d → plW d = true → d.weight ≤ 1048576 → ∃ A : List Addr, OkU A v ∧ ∀ a ∈ A, ArgOb h A a
  | .none, _, x, _, _ => by
    cases x
    exact ⟨[], trivial, fun a m => absurd m (by simp)⟩
  | .bool b, _, x, _, _ => by
    cases x
    exact ⟨[], trivial, fun a m => absurd m (by simp)⟩
  | .int i, _, x, _, _ => by
    cases x
    exact ⟨[], trivial, fun a m => absurd m (by simp)⟩
  | .str s, _, x, _, _ => by
    cases x
    exact ⟨[], trivial, fun a m => absurd m (by simp)⟩
  | .bytes b, _, x, _, _ => by
    cases x
    exact ⟨[], trivial, fun a m => absurd m (by simp)⟩
  | .list ds, _, x, p, z => by
    obtain ⟨a, vs, rfl, ho, hall⟩ := well_list x
    have z2 : WData.weightAll ds ≤ 1048576 := z
    obtain ⟨A, h1, h2⟩ := area_all ds _ hall p fun d hd => Nat.le_trans (weight_mem hd) z2
    have k : ∀ b ∈ A, b ∈ a :: A := fun b hb => List.mem_cons_of_mem _ hb
    refine ⟨a :: A, List.mem_cons_self .., fun b hb => ?_⟩
    rcases List.mem_cons.mp hb with e | m
    · rw [e]
      exact ⟨vs, line_of (by rw [wellAll_len hall]; exact Nat.le_trans (PySem.W.length_le_weightAllW ds) z2), fun u hu => (h1 u hu).mono k, .inl ho⟩
    · exact (h2 b m).mono k
  | .tuple ds, _, x, p, z => by
    obtain ⟨a, vs, rfl, ho, hall⟩ := well_tuple x
    have z2 : WData.weightAll ds ≤ 1048576 := z
    obtain ⟨A, h1, h2⟩ := area_all ds _ hall p fun d hd => Nat.le_trans (weight_mem hd) z2
    have k : ∀ b ∈ A, b ∈ a :: A := fun b hb => List.mem_cons_of_mem _ hb
    refine ⟨a :: A, List.mem_cons_self .., fun b hb => ?_⟩
    rcases List.mem_cons.mp hb with e | m
    · rw [e]
      exact ⟨vs, line_of (by rw [wellAll_len hall]; exact Nat.le_trans (PySem.W.length_le_weightAllW ds) z2), fun u hu => (h1 u hu).mono k, .inr ho⟩
    · exact (h2 b m).mono k
  | .float _, _, _, p, _ => Bool.noConfusion (show false = true from p)
  | .dict _, _, _, p, _ => Bool.noConfusion (show false = true from p)
  | .bytearray _, _, _, p, _ => Bool.noConfusion (show false = true from p)
  | .set _, _, _, p, _ => Bool.noConfusion (show false = true from p)
  | .frozenset _, _, _, p, _ => Bool.noConfusion (show false = true from p)
  | .obj _ _, _, _, p, _ => Bool.noConfusion (show false = true from p)
theorem area_all : ∀ (ds : List WData) (vs : List Value), WellAll P h vs ds → plWs ds = true → (∀ d ∈ ds, d.weight ≤ 1048576) → ∃ A : List Addr, (∀ u ∈ vs, OkU A u) ∧ ∀ a ∈ A, ArgOb h A a
  | [], _, x, _, _ => by
    cases x
    exact ⟨[], fun u m => absurd m (by simp), fun a m => absurd m (by simp)⟩
  | d :: ds, _, x, p, z => by
    obtain ⟨v, vs, rfl, x1, x2⟩ := well_cons x
    have q : plW d = true ∧ plWs ds = true := Bool.and_eq_true_iff.mp p
    obtain ⟨A, a1, a2⟩ := area_one d v x1 q.1 (z d (List.mem_cons_self ..))
    obtain ⟨B, b1, b2⟩ := area_all ds vs x2 q.2 fun e he => z e (List.mem_cons_of_mem _ he)
    have kA : ∀ b ∈ A, b ∈ A ++ B := fun b hb => List.mem_append.mpr (.inl hb)
    have kB : ∀ b ∈ B, b ∈ A ++ B := fun b hb => List.mem_append.mpr (.inr hb)
    refine ⟨A ++ B, fun u hu => ?_, fun b hb => ?_⟩
    · rcases List.mem_cons.mp hu with e | m
      · rw [e]
        exact a1.mono kA
      · exact (b1 u m).mono kB
    · rcases List.mem_append.mp hb with m | m
      · exact (a2 b m).mono kA
      · exact (b2 b m).mono kB
end
end
/-- what is tracked of an argument's object -/
def hoOf (o : Obj) : Option HO := match o.data with
  | .seq vs _ => if (o.cls == Value.type "list") = true then some (.frz o (.lst (vs.toList.map toV))) else some (.frz o (.tup (vs.toList.map toV)))
  | _ => none
def argH (K : PySem.W.Frag) (h : Heap) (A : List Addr) : Hp := fun b => if b ∈ A then (if (K.lookup b).isNone = true then (h.get? b).bind hoOf else none) else none
/-- nothing is tracked but what is known to the object -/
def OnlyF (H : Hp) : Prop := ∀ b, H b = none ∨ ∃ o u, H b = some (.frz o u)
theorem hoOf_lst (vs : List Value) : hoOf { cls := .type "list", data := .seq vs.toArray } = some (.frz { cls := .type "list", data := .seq vs.toArray } (.lst (vs.map toV))) := by
  show (if (Value.type "list" == Value.type "list") = true then some (HO.frz { cls := .type "list", data := .seq vs.toArray } (.lst (vs.toArray.toList.map toV))) else some (HO.frz { cls := .type "list", data := .seq vs.toArray } (.tup (vs.toArray.toList.map toV)))) = _
  rw [if_pos (beq_self_eq_true _)]
theorem hoOf_tup (vs : List Value) : hoOf { cls := .type "tuple", data := .seq vs.toArray } = some (.frz { cls := .type "tuple", data := .seq vs.toArray } (.tup (vs.map toV))) := by
  show (if (Value.type "tuple" == Value.type "list") = true then some (HO.frz { cls := .type "tuple", data := .seq vs.toArray } (.lst (vs.toArray.toList.map toV))) else some (HO.frz { cls := .type "tuple", data := .seq vs.toArray } (.tup (vs.toArray.toList.map toV)))) = _
  rw [if_neg (by decide)]
section
variable {P : Program} {w : World} {K : PySem.W.Frag} {h : Heap} {A : List Addr}
theorem argH_at {b : Addr} {o : Obj} (hb : b ∈ A) (hk : K.lookup b = none) (e : h.get? b = some o) : argH K h A b = hoOf o := by
  unfold argH
  rw [if_pos hb, hk, if_pos (show (none : Option Obj).isNone = true from rfl), e] <;> rfl
theorem of_argH {b : Addr} {u : HO} (q : argH K h A b = some u) : b ∈ A ∧ K.lookup b = none := by
  unfold argH at q
  by_cases hb : b ∈ A
  · rw [if_pos hb] at q
    cases hk : K.lookup b with
    | none => exact ⟨hb, rfl⟩
    | some o =>
      rw [hk, if_neg (by simp)] at q
      cases q
  · rw [if_neg hb] at q
    cases q
/-- what stands tracked -/
theorem argH_is (ar : ∀ a ∈ A, ArgOb h A a) {b : Addr} {u : HO} (q : argH K h A b = some u) : K.lookup b = none ∧ ∃ vs : List Value, vs.length ≤ sizeLine ∧ (∀ u ∈ vs, OkU A u) ∧
    ((h.get? b = some { cls := .type "list", data := .seq vs.toArray } ∧ u = .frz { cls := .type "list", data := .seq vs.toArray } (.lst (vs.map toV))) ∨
     (h.get? b = some { cls := .type "tuple", data := .seq vs.toArray } ∧ u = .frz { cls := .type "tuple", data := .seq vs.toArray } (.tup (vs.map toV)))) := by
  obtain ⟨hb, hk⟩ := of_argH q
  obtain ⟨vs, h1, h2, h3⟩ := ar b hb
  refine ⟨hk, vs, h1, h2, ?_⟩
  rcases h3 with e | e
  · rw [argH_at hb hk e, hoOf_lst] at q
    exact .inl ⟨e, (Option.some.inj q).symm⟩
  · rw [argH_at hb hk e, hoOf_tup] at q
    exact .inr ⟨e, (Option.some.inj q).symm⟩
theorem argH_only (ar : ∀ a ∈ A, ArgOb h A a) : OnlyF (argH K h A) := fun b => by
  cases q : argH K h A b with
  | none => exact .inl rfl
  | some u =>
    obtain ⟨_, vs, _, _, ⟨_, e⟩ | ⟨_, e⟩⟩ := argH_is ar q
    · exact .inr ⟨_, _, by rw [e]⟩
    · exact .inr ⟨_, _, by rw [e]⟩
theorem argH_ok (ar : ∀ a ∈ A, ArgOb h A a) : HOk P w (argH K h A) h := fun b u q => by
  obtain ⟨_, vs, h1, h2, ⟨e, rfl⟩ | ⟨e, rfl⟩⟩ := argH_is ar q
  · exact ⟨e, by rw [List.length_map]; exact h1, vs, _, vals_toV h2, e⟩
  · exact ⟨e, by rw [List.length_map]; exact h1, vs, vals_toV h2, _, e, rfl, _, rfl⟩
theorem seq_inj {c c' : Value} {vs us : List Value} (e : (some { cls := c, data := .seq vs.toArray } : Option Obj) = some { cls := c', data := .seq us.toArray }) : c = c' ∧ vs = us := by
  have e1 := Option.some.inj e
  have e2 : c = c' := congrArg Obj.cls e1
  have e3 : Data.seq vs.toArray = Data.seq us.toArray := congrArg Obj.data e1
  injection e3 with e4
  refine ⟨e2, ?_⟩
  have e5 := congrArg Array.toList e4
  simpa using e5
/-- a list argument -/
theorem argL (KX : K.In h) (ar : ∀ a ∈ A, ArgOb h A a) {a : Addr} {vs : List Value} (ha : a ∈ A) (e : h.get? a = some { cls := .type "list", data := .seq vs.toArray }) : (∀ u ∈ vs, OkU A u) ∧ SqL K (argH K h A) a (vs.map toV) := by
  obtain ⟨us, h1, h2, h3⟩ := ar a ha
  have hu : us = vs := by
    rcases h3 with q | q
    · rw [e] at q
      exact (seq_inj q).2.symm
    · rw [e] at q
      exact absurd (Value.type.inj (seq_inj q).1) (by decide)
  subst hu
  refine ⟨h2, ?_⟩
  cases hk : K.lookup a with
  | none => exact .inl (.inr ⟨_, by rw [argH_at ha hk e, hoOf_lst]⟩)
  | some o =>
    have e2 := KX a o hk
    rw [e] at e2
    obtain rfl := Option.some.inj e2
    exact .inr ⟨_, us.toArray, _, hk, rfl, rfl, rfl, by rw [List.size_toArray]; exact h1, by simpa using vals_toV h2⟩
theorem argT (KX : K.In h) (ar : ∀ a ∈ A, ArgOb h A a) {a : Addr} {vs : List Value} (ha : a ∈ A) (e : h.get? a = some { cls := .type "tuple", data := .seq vs.toArray }) : (∀ u ∈ vs, OkU A u) ∧ SqT K (argH K h A) a (vs.map toV) := by
  obtain ⟨us, h1, h2, h3⟩ := ar a ha
  have hu : us = vs := by
    rcases h3 with q | q
    · rw [e] at q
      exact absurd (Value.type.inj (seq_inj q).1) (by decide)
    · rw [e] at q
      exact (seq_inj q).2.symm
  subst hu
  refine ⟨h2, ?_⟩
  cases hk : K.lookup a with
  | none => exact .inl (.inr ⟨_, by rw [argH_at ha hk e, hoOf_tup]⟩)
  | some o =>
    have e2 := KX a o hk
    rw [e] at e2
    obtain rfl := Option.some.inj e2
    exact .inr ⟨_, us.toArray, _, hk, rfl, rfl, by rw [List.size_toArray]; exact h1, by simpa using vals_toV h2⟩
mutual
theorem dw_one {Pm : Params} (KX : K.In h) (ar : ∀ a ∈ A, ArgOb h A a) : ∀ (d : WData) (v : Value), Well Pm h v d → plW d = true → OkU A v → Dw K (argH K h A) (toV v) d
  | .none, _, x, _, _ => by
    cases x
    exact .non
  | .bool b, _, x, _, _ => by
    cases x
    exact .bl b
  | .int i, _, x, _, _ => by
    cases x
    exact .int i
  | .str s, _, x, _, _ => by
    cases x
    exact .str s
  | .bytes b, _, x, _, _ => by
    cases x
    have z := Dw.byt (K := K) (H := argH K h A) b.toArray
    exact z
  | .list ds, _, x, p, hu => by
    obtain ⟨a, vs, rfl, ho, hall⟩ := well_list x
    obtain ⟨h2, hs⟩ := argL KX ar hu ho
    exact .lst hs (dw_all KX ar ds _ hall p h2)
  | .tuple ds, _, x, p, hu => by
    obtain ⟨a, vs, rfl, ho, hall⟩ := well_tuple x
    obtain ⟨h2, hs⟩ := argT KX ar hu ho
    exact .tup hs (dw_all KX ar ds _ hall p h2)
  | .float _, _, _, p, _ => Bool.noConfusion (show false = true from p)
  | .dict _, _, _, p, _ => Bool.noConfusion (show false = true from p)
  | .bytearray _, _, _, p, _ => Bool.noConfusion (show false = true from p)
  | .set _, _, _, p, _ => Bool.noConfusion (show false = true from p)
  | .frozenset _, _, _, p, _ => Bool.noConfusion (show false = true from p)
  | .obj _ _, _, _, p, _ => Bool.noConfusion (show false = true from p)
theorem dw_all {Pm : Params} (KX : K.In h) (ar : ∀ a ∈ A, ArgOb h A a) : ∀ (ds : List WData) (vs : List Value), WellAll Pm h vs ds → plWs ds = true → (∀ u ∈ vs, OkU A u) → DwAll K (argH K h A) (vs.map toV) ds
  | [], _, x, _, _ => by
    cases x
    exact .nil
  | d :: ds, _, x, p, hu => by
    obtain ⟨v, vs, rfl, x1, x2⟩ := well_cons x
    have q : plW d = true ∧ plWs ds = true := Bool.and_eq_true_iff.mp p
    exact .cons (dw_one KX ar d v x1 q.1 (hu _ (List.mem_cons_self ..))) (dw_all KX ar ds vs x2 q.2 fun u m => hu u (List.mem_cons_of_mem _ m))
end
end
/-! ### the call -/
/-! ### the row -/
theorem layable_weight {ds : List WData} (h : WData.layableAll ds = true) : ∀ d ∈ ds, d.weight ≤ 1048576 := fun d hd =>
  (PySem.W.layableW_iff.mp (List.all_eq_true.mp h d hd)).2.2
theorem encAll_len : ∀ (cs : List Codec) (a : Codec.denoteAll cs), (Codec.encAll cs a).length = cs.length
  | [], _ => rfl
  | c :: cs, a => by
    show (Codec.encAll cs a.2).length + 1 = cs.length + 1
    rw [encAll_len cs a.2]
end L2
-- rests on (row put in by the clerk, for the bench that shows a file only what it spells): KE.SpHead KE.OsShapes
end


set_option Elab.async false
set_option linter.all false
set_option maxRecDepth 100000
set_option maxHeartbeats 2000000
/-! RULES OF MY OWN over the layer: defs, methods, classes bundled; a call of a local name; list(range(a, b, c)); min of three; tuple + tuple, any. -/
namespace Sd
open PySem PySem.Spec PyProof.Rows L2

theorem szl {n : Nat} (h : n.ble 100 = true) : n ≤ sizeLine := Nat.le_trans (Nat.le_of_ble_eq_true h) (by decide)
theorem sz1000 {n : Nat} (h : n.ble 100 = true) : n < 1000 := Nat.lt_of_le_of_lt (Nat.le_of_ble_eq_true h) (by decide)
/-- the last k -/
theorem cut_last {xs : List V} {k : Nat} (h : 0 < k) : cutV xs (some (-(k : Int))) none = xs.drop (xs.length - k) := by
  unfold cutV
  rw [HT.sIx_none, show HT.sIx xs.length 0 (some (-(k : Int))) = xs.length - k from ?_]
  · exact List.take_of_length_le (by rw [List.length_drop]; exact Nat.le_refl _)
  · show (if (-(k : Int)) < 0 then ((-(k : Int)) + (xs.length : Int)).toNat else min (-(k : Int)).toNat xs.length) = _
    rw [if_pos (by omega)]
    omega
theorem cut_but_last {xs : List V} {x : V} : cutV (xs ++ [x]) none (some (-1)) = xs := by
  unfold cutV
  rw [HT.sIx_none, show HT.sIx (xs ++ [x]).length (xs ++ [x]).length (some (-1)) = xs.length from ?_]
  · simp
  · show (if (-1 : Int) < 0 then ((-1 : Int) + ((xs ++ [x]).length : Int)).toNat else min (-1 : Int).toNat (xs ++ [x]).length) = _
    rw [if_pos (by decide), List.length_append, List.length_singleton]
    omega
/-! ### built-in names -/
theorem bt_len : bootBuiltins "len" = some (.builtin "len") := by decide +kernel
theorem bt_any : bootBuiltins "any" = some (.builtin "any") := by decide +kernel
theorem bt_all : bootBuiltins "all" = some (.builtin "all") := by decide +kernel
theorem bt_min : bootBuiltins "min" = some (.builtin "min") := by decide +kernel
theorem bt_max : bootBuiltins "max" = some (.builtin "max") := by decide +kernel
theorem bt_list : bootBuiltins "list" = some (.type "list") := by decide +kernel
theorem bt_tuple : bootBuiltins "tuple" = some (.type "tuple") := by decide +kernel
theorem bt_range : bootBuiltins "range" = some (.type "range") := by decide +kernel
/-- a name of the top that is given a plain value -/
structure Cst (mg : Str → Option Value) (x : Str) (v : V) : Prop where
  ex : ∃ u, mg x = some u ∧ RelV v u
theorem pe_cst {X : Cx} {x : Str} {v : V} {pos : Pos} (h : Cst X.mg x v) (hg : Gl X x) (hd : (x == ("__debug__" : Str)) = false := by decide) : PE X (.Name x pos) (tC v) := by
  obtain ⟨u, hm, r⟩ := h.ex
  exact pe_glob hg hm r hd

/-! ### heaps -/
/-- all that was tracked is as it was, but the object at W -/
def But (W : Addr) (H H' : Hp) : Prop := ∀ b o, H b = some o → b ≠ W → H' b = some o
theorem Same.but {W : Addr} {H H' : Hp} (e : Same H H') : But W H H' := fun b o h _ => e b o h
theorem But.trans {W : Addr} {H H1 H2 : Hp} (a : But W H H1) (b : But W H1 H2) : But W H H2 := fun c o h n => b c o (a c o h n) n
theorem same_upd {H : Hp} {p : Addr} {o : HO} (h : H p = none) : Same H (upd H p o) := fun b u e => by
  rw [upd_ne (ne_of_none e h)]
  exact e
theorem Same.upd {H H' : Hp} {p : Addr} {o : HO} (s : Same H H') (h : H' p = none) : Same H (upd H' p o) := s.trans (same_upd h)
theorem but_upd {W : Addr} {H : Hp} {o : HO} : But W H (upd H W o) := fun b u e n => by
  rw [upd_ne n]
  exact e
theorem Same.tup {K : PySem.W.Frag} {H H' : Hp} {a : Addr} {xs : List V} (e : Same H H') (h : SqT K H a xs) : SqT K H' a xs := by
  rcases h with (h | ⟨o, h⟩) | h
  · exact .inl (.inl (e _ _ h))
  · exact .inl (.inr ⟨o, e _ _ h⟩)
  · exact .inr h
/-- a tuple, behind a change of an instance -/
theorem But.tup {K : PySem.W.Frag} {W C dx : Addr} {fs : List (Str × V)} {H H' : Hp} {a : Addr} {xs : List V} (e : But W H H') (hW : H W = some (.ins C dx fs)) (h : SqT K H a xs) : SqT K H' a xs := by
  rcases h with (h | ⟨o, h⟩) | h
  · exact .inl (.inl (e _ _ h (ne_of h hW (by intro z; cases z))))
  · exact .inl (.inr ⟨o, e _ _ h (ne_of h hW (by intro z; cases z))⟩)
  · exact .inr h
theorem But.lst {K : PySem.W.Frag} {W C dx : Addr} {fs : List (Str × V)} {H H' : Hp} {a : Addr} {xs : List V} (e : But W H H') (hW : H W = some (.ins C dx fs)) (h : SqL K H a xs) : SqL K H' a xs := by
  rcases h with (h | ⟨o, h⟩) | h
  · exact .inl (.inl (e _ _ h (ne_of h hW (by intro z; cases z))))
  · exact .inl (.inr ⟨o, e _ _ h (ne_of h hW (by intro z; cases z))⟩)
  · exact .inr h

theorem vals_of_get : ∀ {xs : List V} {us : List Value}, xs.length = us.length → (∀ (i : Nat) (x : V) (u : Value), xs[i]? = some x → us[i]? = some u → RelV x u) → Vals xs us
  | [], [], _, _ => .nil
  | x :: xs, u :: us, h, k => .cons (k 0 x u rfl rfl) (vals_of_get (by simpa using h) fun i y v e1 e2 => k (i + 1) y v (by simpa using e1) (by simpa using e2))
  | [], _ :: _, h, _ => by simp at h
  | _ :: _, [], h, _ => by simp at h

/-! ### defs of the text, as a caller needs them -/
section
variable (P : Program) (w : World) (K : PySem.W.Frag) (mg : Str → Option Value) (base : Heap)
/-- a def at the top -/
structure Def (x : Str) (k : Nat) (ps : List Str) (sp : Sp) : Prop where
  ex : ∃ (f : Addr) (fd : FuncData), FnOk P w K mg base CX0 k f fd ps sp ∧ mg x = some (.ref f) ∧ PySem.W.keepIn K (.ref f) = true ∧ Binds K fd ps []
/-- a method of the class at C -/
structure MethD (C : Addr) (m : Str) (k : Nat) (ps : List Str) (sp : Sp) : Prop where
  ex : ∃ (f : Addr) (fd : FuncData), FnOk P w K mg base CX0 k f fd ps sp ∧ Meth K C m f ∧ Binds K fd ps []
/-- a class, its __init__ -/
structure MakeD (x : Str) (C : Addr) (k : Nat) (ps : List Str) (sp : Sp) : Prop where
  ex : ∃ (f : Addr) (fd : FuncData), FnOk P w K mg base CX0 k f fd ps sp ∧ Mk K C f ∧ mg x = some (.ref C) ∧ Binds K fd ps []
end
/-- what the top has written of a def -/
structure Glob (K : PySem.W.Frag) (mg : Str → Option Value) (x : Str) (st : Stmt) : Prop where
  ex : ∃ (f : Addr) (fd : FuncData), Fun K x x st f fd ∧ mg x = some (.ref f)
/-- .. of a method -/
structure GMeth (K : PySem.W.Frag) (C : Addr) (m qual : Str) (st : Stmt) : Prop where
  ex : ∃ (f : Addr) (fd : FuncData), Fun K m qual st f fd ∧ Meth K C m f

section
variable {P : Program} {w : World} {K : PySem.W.Frag} {mg : Str → Option Value} {base : Heap}
abbrev BindsSt (x qual : Str) (st : Stmt) (ps : List Str) : Prop :=
  ∀ (kV doc pm : Value) (an : Option Addr) (cdv ct : Value) (us : List Value), us.length = ps.length → bindArgs (PySem.W.fnOf x qual (defArgs st) (defBody st) (defScope st) .none kV doc pm an cdv ct) ⟨us, []⟩ = pure (ps.zip us)
theorem Glob.mk_def {x : Str} {st : Stmt} {N ps : List Str} {k : Nat} {sp : Sp} (G : Glob K mg x st) (S : FnScope N ps (defScope st)) (hb : BindsSt x x st ps) (len : ∀ vs H Q E, sp vs H Q E → vs.length = ps.length)
    (hbody : ∀ (f : Addr) (cdv : Value) (A : Around) (outer : List Env) (s : Shared) (H : Hp) (vs : List V) (Q : VK) (E : XK), Room k (A.deeper (envOfC x (defScope st) s.heap.objs.size f cdv)) → sp vs H Q E →
      ∃ t, PSs (cxOf CX0 P w K mg base N x (defScope st) f cdv A outer s H E).nox (defBody st) t ∧ t { nx := fun _ H' => Q .non H', rt := Q } (start N vs) H) : Def P w K mg base x (k + 1) ps sp := by
  obtain ⟨f, fd, F, hm⟩ := G.ex
  exact ⟨f, fd, F.ok S len (fun cdv A outer s H vs Q E hr h => hbody f cdv A outer s H vs Q E hr h), hm, F.kp, F.binds hb⟩
theorem GMeth.mk_meth {C : Addr} {m qual : Str} {st : Stmt} {N ps : List Str} {k : Nat} {sp : Sp} (G : GMeth K C m qual st) (S : FnScope N ps (defScope st)) (hb : BindsSt m qual st ps) (len : ∀ vs H Q E, sp vs H Q E → vs.length = ps.length)
    (hbody : ∀ (f : Addr) (cdv : Value) (A : Around) (outer : List Env) (s : Shared) (H : Hp) (vs : List V) (Q : VK) (E : XK), Room k (A.deeper (envOfC qual (defScope st) s.heap.objs.size f cdv)) → sp vs H Q E →
      ∃ t, PSs (cxOf CX0 P w K mg base N qual (defScope st) f cdv A outer s H E).nox (defBody st) t ∧ t { nx := fun _ H' => Q .non H', rt := Q } (start N vs) H) : MethD P w K mg base C m (k + 1) ps sp := by
  obtain ⟨f, fd, F, hm⟩ := G.ex
  exact ⟨f, fd, F.ok S len (fun cdv A outer s H vs Q E hr h => hbody f cdv A outer s H vs Q E hr h), hm, F.binds hb⟩
theorem MethD.make {x : Str} {C : Addr} {k : Nat} {ps : List Str} {sp : Sp} (M : MethD P w K mg base C "__init__" k ps sp) (hmk : PySem.W.makesIn K C = true) (hk : PySem.W.keepIn K (.ref C) = true) (hm : mg x = some (.ref C)) : MakeD P w K mg base x C k ps sp := by
  obtain ⟨f, fd, F, h, b⟩ := M.ex
  exact ⟨f, fd, F, ⟨hmk, h.at_, h.fn, hk⟩, hm, b⟩
end

section
variable {X : Cx} {k : Nat} {C : Addr} {ps : List Str} {sp : Sp} {x m : Str} {p pos apos : Pos} {e o : Expr} {es : List Expr} {ta : TE} {t : TA}
theorem pe_def (D : Def X.prog X.w X.K X.mg X.base x k ps sp) (hr : Room k X.A) (hg : Gl X x) (ha : PA X (e :: es) t) (hdb : (x == ("__debug__" : Str)) = false := by decide)
    (he : starEach (e :: es) X.env = (false, eval e X.env) :: starEach es X.env := by rfl) (hpl : (backTo pos (starEach es X.env)).any (·.1) = false := by rfl) : PE X (.Call (.Name x p) (e :: es) [] pos) (tCall sp [] E0 t) := by
  obtain ⟨f, fd, F, hm, hk, hb⟩ := D.ex
  exact pe_call F hr hg hm hk hb .nil pass0 ha hdb he hpl
theorem pe_def0 (D : Def X.prog X.w X.K X.mg X.base x k ps sp) (hr : Room k X.A) (hg : Gl X x) (hdb : (x == ("__debug__" : Str)) = false := by decide) : PE X (.Call (.Name x p) [] [] pos) (tCall sp [] E0 tNil) := by
  obtain ⟨f, fd, F, hm, hk, hb⟩ := D.ex
  exact pe_call0 F hr hg hm hk hb .nil pass0 hdb
theorem pe_mk (D : MakeD X.prog X.w X.K X.mg X.base x C k ps sp) (hr : Room (k + 1) X.A) (hg : Gl X x) (ha : PA X (e :: es) t) (hdb : (x == ("__debug__" : Str)) = false := by decide)
    (he : starEach (e :: es) X.env = (false, eval e X.env) :: starEach es X.env := by rfl) (hpl : (backTo pos (starEach es X.env)).any (·.1) = false := by rfl) : PE X (.Call (.Name x p) (e :: es) [] pos) (tMake C sp [] E0 t) := by
  obtain ⟨f, fd, F, M, hm, hb⟩ := D.ex
  exact pe_make M F hr hg hm hb .nil pass0 ha hdb he hpl
theorem pe_mk0 (D : MakeD X.prog X.w X.K X.mg X.base x C k ps sp) (hr : Room (k + 1) X.A) (hg : Gl X x) (hdb : (x == ("__debug__" : Str)) = false := by decide) : PE X (.Call (.Name x p) [] [] pos) (tMake C sp [] E0 tNil) := by
  obtain ⟨f, fd, F, M, hm, hb⟩ := D.ex
  exact pe_make0 M F hr hg hm hb .nil pass0 hdb
theorem pe_md {pl : Sem Bool} (D : MethD X.prog X.w X.K X.mg X.base C m k ps sp) (c : Cls X.K C) (hr : Room k X.A) (he : PE X o ta) (ha : PA X (e :: es) t)
    (hst : starEach (e :: es) X.env = (false, eval e X.env) :: starEach es X.env := by rfl) (hpl : (backTo pos (starEach es X.env)).any (·.1) = false := by rfl)
    (ht : eval (.Call (.Attribute o m apos) (e :: es) [] pos) X.env = (do
      let ov ← eval o X.env
      standAt apos.atName
      let (f, first) ← holding [ov] (getMethod ov m pl)
      callWith pos f first (backTo pos (starEach (e :: es) X.env)) (backToKw pos (keywordEach [] X.env))) := by rfl) :
    PE X (.Call (.Attribute o m apos) (e :: es) [] pos) (tMeth C m sp [] E0 ta t) := by
  obtain ⟨f, fd, F, M, hb⟩ := D.ex
  exact pe_meth he c M F hr hb .nil pass0 ha hst hpl ht
theorem pe_md0 {pl : Sem Bool} (D : MethD X.prog X.w X.K X.mg X.base C m k ps sp) (c : Cls X.K C) (hr : Room k X.A) (he : PE X o ta)
    (ht : eval (.Call (.Attribute o m apos) [] [] pos) X.env = (do
      let ov ← eval o X.env
      standAt apos.atName
      let (f, first) ← holding [ov] (getMethod ov m pl)
      callWith pos f first (backTo pos (starEach [] X.env)) (backToKw pos (keywordEach [] X.env))) := by rfl) :
    PE X (.Call (.Attribute o m apos) [] [] pos) (tMeth C m sp [] E0 ta tNil) := by
  obtain ⟨f, fd, F, M, hb⟩ := D.ex
  exact pe_meth0 he c M F hr hb .nil pass0 ht
/-- a value that is a def of the text -/
def IsFn (X : Cx) (f : Addr) (sp : Sp) : Prop := ∃ (k : Nat) (fd : FuncData) (ps : List Str), FnOk X.prog X.w X.K X.mg X.base CX0 k f fd ps sp ∧ Room k X.A ∧ PySem.W.keepIn X.K (.ref f) = true ∧ Binds X.K fd ps []
/-- v(e, ..), v a name that holds a def of the text -/
def tCallV (X : Cx) (ti : TE) (t : TA) : TE := fun σ H Q => ti σ H fun v H1 => ∃ (f : Addr) (sp : Sp), v = .ref f ∧ IsFn X f sp ∧ t σ H1 fun vs H2 => sp vs H2 Q E0
theorem pe_callV {ti : TE} (hf : PE X (.Name x p) ti) (ha : PA X (e :: es) t)
    (he : starEach (e :: es) X.env = (false, eval e X.env) :: starEach es X.env := by rfl) (hpl : (backTo pos (starEach es X.env)).any (·.1) = false := by rfl) : PE X (.Call (.Name x p) (e :: es) [] pos) (tCallV X ti t) := by
  intro pins s σ H Q I h
  refine wpAny_Call_Name_kw (thn (hf pins s σ H _ I h) fun u s0 ⟨v, H0, I0, r0, f, sp, ev, ⟨k, fd, ps, F, hr, hk, hb⟩, q⟩ => ?_)
  subst ev
  obtain rfl : u = Value.ref f := r0
  refine PySem.W.callWith_K (h₀ := X.base) I.ok.mod.kin hk (thn (ha pos pins s0 σ H0 _ I0 q) fun us s1 ⟨vs, H1, I1, r, q1⟩ => ⟨I1.kIn, ?_⟩) he hpl
  exact run_fn (dvs := []) F hr hb .nil pass0 I1 r (by rw [List.append_nil]; exact q1)
end

/-! ### list(range(a, b, c)) -/
def tListRange (ta : TA) : TE := fun σ H Q => ta σ H fun vs H1 => ∃ (i j c : Int) (n : Nat), vs = [.int i, .int j, .int c] ∧ RgC i j c n ∧ n ≤ 2 ^ 24 ∧
  ∀ p, H1 p = none → Q (.ref p) (upd H1 p (.lst ((List.range n).map fun k : Nat => V.int (i + (k : Int) * c))))
theorem pe_listRange {X : Cx} {a b c : Expr} {ta : TA} {p0 p pos pos0 : Pos} (hc : X.calm = true) (hgl : Gl X "list") (hml : X.mg "list" = none) (hg : Gl X "range") (hm : X.mg "range" = none) (ha : PA X [a, b, c] ta)
    (hs : starEach [a, b, c] X.env = (false, eval a X.env) :: starEach [b, c] X.env := by rfl) (hpl : (backTo pos (starEach [b, c] X.env)).any (·.1) = false := by rfl)
    (hs0 : starEach [.Call (.Name "range" p) [a, b, c] [] pos] X.env = (false, eval (.Call (.Name "range" p) [a, b, c] [] pos) X.env) :: starEach [] X.env := by rfl) (hpl0 : (backTo pos0 (starEach [] X.env)).any (·.1) = false := by rfl) :
    PE X (.Call (.Name "list" p0) [.Call (.Name "range" p) [a, b, c] [] pos] [] pos0) (tListRange ta) := by
  intro pins s σ H Q I h
  refine wpAny_Call_Name_kw (ld_blt I hgl hml bt_list ?_)
  refine PyProof.Rows.callWith_type1 (Q := EP X pins σ Q) ?_ hs0 hpl0
  rw [hs0]
  show wpAny _ _ (spliced ((false, eval (.Call (.Name "range" p) [a, b, c] [] pos) X.env) :: backTo pos0 (starEach [] X.env))) _ _ s
  refine Calls.spliced_cons ?_
  refine Call_ (ld_blt I hg hm bt_range (PyProof.Rows.callWith_type1 (thn (ha pos pins s σ H _ I h) fun us s1 ⟨vs, H1, I1, r1, q1⟩ => ?_) hs hpl))
  obtain ⟨i, j, k, n, e, ⟨c0, c1, c2, c3⟩, hn, q⟩ := q1
  subst e
  cases r1 with
  | cons r rr =>
    cases rr with
    | cons r' rr =>
      cases rr with
      | cons r'' rr =>
        cases rr
        obtain ⟨t, rfl⟩ := r
        obtain ⟨t', rfl⟩ := r'
        obtain ⟨t'', rfl⟩ := r''
        refine call_range_3 c0 ?_ (.inl (PyProof.noPylong_small c1))
        have I2 : Inv X pins σ H1 { s1 with heap := s1.heap.push { cls := .type "range", data := .fields #[.int i t, .int j t', .int k t''] }, toks := s1.toks } := I1.kept (t' := s1.toks) fun b o e => Heap.get?_push_of_some _ e
        refine Calls.spliced_nil ?_
        refine call_list_range (I.ok.hd hc) (IsRange.new ..) c2 c3 hn fun h' tk acc' c' hk hS' hacc => ?_
        refine ⟨.ref _, _, I2.laid (t' := tk) hk (Nat.le_refl _) (show ObjOk X.prog X.w _ h' _ (.lst ((List.range n).map fun k' : Nat => V.int (i + (k' : Int) * k))) from ⟨by rw [List.length_map, List.length_range]; exact hn, acc'.toList, c', ?_, by simpa using hS'⟩), rfl, q _ (I2.hok.fresh (Nat.le_refl _))⟩
        refine vals_of_get ?_ fun m x u e1 e2 => ?_
        · rw [List.length_map, List.length_range, Array.length_toList, hacc.1]
        · obtain ⟨tk', rfl⟩ := hacc.2 m u (by simpa using e2)
          rw [List.getElem?_map] at e1
          have hm : m < n := by
            have := (List.getElem?_eq_some_iff.mp e2).1
            rw [Array.length_toList, hacc.1] at this
            exact this
          rw [List.getElem?_range hm] at e1
          cases e1
          exact ⟨tk', rfl⟩

/-! ### min of three ints -/
theorem call_min3 {X : Cx} (hc : X.calm = true) : CallR X (.builtin "min") (fun xs H Q => ∃ i j k, xs = [.int i, .int j, .int k] ∧ Q (.int (min (min i j) k)) H) := by
  intro pins s σ H xs us Q I r h
  obtain ⟨i, j, k, rfl, q⟩ := h
  cases r with
  | cons r1 rr =>
    cases rr with
    | cons r2 rr =>
      cases rr with
      | cons r3 rr =>
        cases rr
        obtain ⟨t, rfl⟩ := r1
        obtain ⟨t', rfl⟩ := r2
        obtain ⟨t'', rfl⟩ := r3
        refine min_three_ints (I.ok.hd hc) fun h' tk kk => ⟨_, H, I.kept kk, ?_, q⟩
        by_cases h1 : j < i
        · rw [if_pos h1]
          by_cases h2 : k < j
          · rw [if_pos h2]; exact ⟨_, by rw [show min (min i j) k = k by omega]⟩
          · rw [if_neg h2]; exact ⟨_, by rw [show min (min i j) k = j by omega]⟩
        · rw [if_neg h1]
          by_cases h2 : k < i
          · rw [if_pos h2]; exact ⟨_, by rw [show min (min i j) k = k by omega]⟩
          · rw [if_neg h2]; exact ⟨_, by rw [show min (min i j) k = i by omega]⟩

/-! ### t + u, any tuples -/
def rCatA (K : PySem.W.Frag) : R2 := fun x y H Q => ∃ a b xs ys, x = .ref a ∧ y = .ref b ∧ SqT K H a xs ∧ SqT K H b ys ∧ xs.length + ys.length ≤ sizeLine ∧ ∀ p H', Same H H' → SqT K H' p (xs ++ ys) → Q (.ref p) H'
theorem cat_tup0 {prog : Program} {w : World} {A : Around} {E : Value → Shared → Prop} {s : Shared} {t b : Addr} {ws : List Value} {Q : Value → Shared → Prop} (ht : IsTup s.heap t ([] : List Value).toArray) (hb : IsTup s.heap b ws.toArray) (h1 : Q (.ref b) s) :
    wpAny (model prog w) A (binaryOp .Add (.ref t) (.ref b)) Q E s := by
  obtain ⟨⟨cls, dd, data, sl⟩, ho, hc, n, hd⟩ := id ht
  obtain ⟨⟨cls2, dd2, data2, sl2⟩, ho2, hc2, n2, hd2⟩ := id hb
  simp only at hc hd hc2 hd2
  subst hc hd hc2 hd2
  exact concat_meets ⟨_, ho, rfl⟩ ⟨_, ho2, rfl⟩ noFill_tuple_add seq_tuple_add PySem.F.slot_tuple_add PySem.F.entry_tuple_add (PySem.F.args_tuple_add_2 _ _)
    (tuple_addW0 t b ([] : List Value).toArray ws.toArray n n2 dd dd2 sl sl2 (by simp)) ⟨ho, ho2, h1⟩
theorem op_catA {X : Cx} : OpR X (binaryOp .Add) (rCatA X.K) := by
  intro pins s σ H x y v u Q I rx ry h
  obtain ⟨a, b, xs, ys, ex, ey, ha, hb, hz, q⟩ := h
  cases xs with
  | nil =>
    subst ex ey
    cases rx
    cases ry
    obtain ⟨its, r1, p1, _⟩ := I.tuple ha
    obtain ⟨its2, r2, p2, _⟩ := I.tuple hb
    cases r1
    exact cat_tup0 p1 p2 ⟨.ref b, H, I, rfl, q b H (fun _ _ z => z) hb⟩
  | cons x0 xr =>
    refine op_catT pins s σ H x y v u Q I rx ry ⟨a, b, x0 :: xr, ys, ex, ey, ha, hb, by simp, hz, fun e => ?_, fun _ p hp => ?_⟩
    · subst e
      exact q a H (fun _ _ z => z) (by rw [List.append_nil]; exact ha)
    · exact q p _ (same_upd hp) (SqT.of upd_same)
/-! ### comprehensions whose blocks leave all as it was: the items of the places p, each as f says -/
theorem range_snoc_fm {α : Type} (p : Nat → Bool) (f : Nat → α) (i : Nat) : ((List.range (i + 1)).filter p).map f = ((List.range i).filter p).map f ++ (if p i = true then [f i] else []) := by
  rw [List.range_succ, List.filter_append, List.map_append]
  congr 1
  by_cases h : p i = true
  · rw [if_pos h, List.filter_cons, if_pos h]
    rfl
  · rw [if_neg h, List.filter_cons, if_neg h]
    rfl
theorem fm_len {α : Type} (p : Nat → Bool) (f : Nat → α) (i : Nat) : (((List.range i).filter p).map f).length ≤ i := by
  rw [List.length_map]
  exact Nat.le_trans (List.length_filter_le _ _) (by rw [List.length_range]; exact Nat.le_refl _)
/-- the turn, whatever is walked -/
theorem fm_turn {H1 H' : Hp} {D : Addr} {p : Nat → Bool} {f : Nat → V} {i n : Nat} (hD : H1 D = none) (hn : n < sizeLine) (hi : i < n) (s : Same H1 H') (hacc : H' D = some (.lst (((List.range i).filter p).map f))) :
    (p i = true → ∀ H4, Same H' H4 → ∃ acc, H4 D = some (.lst acc) ∧ acc.length < sizeLine ∧ (Same H1 (upd H4 D (.lst (acc ++ [f i]))) ∧ (upd H4 D (.lst (acc ++ [f i]))) D = some (.lst (((List.range (i + 1)).filter p).map f)))) ∧
    (p i = false → ∀ H4, Same H' H4 → (Same H1 H4 ∧ H4 D = some (.lst (((List.range (i + 1)).filter p).map f)))) := by
  refine ⟨fun h H4 s4 => ⟨_, s4 _ _ hacc, Nat.lt_of_le_of_lt (fm_len p f i) (by omega), fun b o e => ?_, ?_⟩, fun h H4 s4 => ⟨s.trans s4, ?_⟩⟩
  · rw [upd_ne (ne_of_none e hD)]
    exact s4 _ _ (s _ _ e)
  · rw [upd_same, range_snoc_fm, if_pos h]
  · rw [range_snoc_fm, if_neg (by rw [h]; exact Bool.false_ne_true), List.append_nil]
    exact s4 _ _ hacc
theorem lc_tup_fm {K : PySem.W.Frag} {a : Addr} {xs : List V} {g : TG} {tt : TT} {te : TE} {vs : List Nat} {σ : L2.St} {H1 : Hp} {D : Addr} {Qd : Hp → Prop} (p : Nat → Bool) (f : Nat → V) (hD : H1 D = none) (hn : xs.length < sizeLine) (hS : SqT K H1 a xs)
    (hs : ∀ (i : Nat) (x : V) (H' : Hp) (R : VK) (R' : Hp → Prop), xs[i]? = some x → Same H1 H' → (p i = true → ∀ H4, Same H' H4 → R (f i) H4) → (p i = false → ∀ H4, Same H' H4 → R' H4) →
      g x (wipe σ vs) H' fun σ2 H2 => wipe σ2 vs = wipe σ vs ∧ tt σ2 H2 fun b H3 => if b = true then te σ2 H3 R else R' H3)
    (hd : ∀ H', Same H1 H' → H' D = some (.lst (((List.range xs.length).filter p).map f)) → Qd H') :
    ∃ W : Nat → Nat → Hp → Prop, (∃ m, W 0 m (upd H1 D (.lst []))) ∧ ∀ i m H, W i m H →
      ((Itt K a).stop i H ∧ Qd H) ∨ ((Itt K a).go i H ∧ ∃ Nx : Hp → Prop, (∀ H', Nx H' → ∃ m', m' < m ∧ W (i + 1) m' H') ∧ ∀ x H', (Itt K a).yld i H x H' → g x (wipe σ vs) H' fun σ2 H2 => wipe σ2 vs = wipe σ vs ∧ tt σ2 H2 fun b H3 =>
        if b = true then te σ2 H3 fun y H4 => ∃ acc, H4 D = some (.lst acc) ∧ acc.length < sizeLine ∧ Nx (upd H4 D (.lst (acc ++ [y]))) else Nx H3) := by
  refine lc_tup (K := K) (a := a) (xs := xs) (fun i H' => Same H1 H' ∧ H' D = some (.lst (((List.range i).filter p).map f))) ⟨same_upd hD, upd_same⟩ (fun i H' _ q => Same.tup q.1 hS) (fun i x H' hi q => ?_) (fun H' q => hd H' q.1 q.2)
  have hlt : i < xs.length := (List.getElem?_eq_some_iff.mp hi).1
  obtain ⟨h1, h2⟩ := fm_turn (f := f) (p := p) hD hn hlt q.1 q.2
  exact hs i x H' _ _ hi q.1 h1 h2
theorem lc_list_fm {K : PySem.W.Frag} {a : Addr} {xs : List V} {g : TG} {tt : TT} {te : TE} {vs : List Nat} {σ : L2.St} {H1 : Hp} {D : Addr} {Qd : Hp → Prop} (p : Nat → Bool) (f : Nat → V) (hD : H1 D = none) (hn : xs.length < sizeLine) (hS : SqL K H1 a xs)
    (hs : ∀ (i : Nat) (x : V) (H' : Hp) (R : VK) (R' : Hp → Prop), xs[i]? = some x → Same H1 H' → (p i = true → ∀ H4, Same H' H4 → R (f i) H4) → (p i = false → ∀ H4, Same H' H4 → R' H4) →
      g x (wipe σ vs) H' fun σ2 H2 => wipe σ2 vs = wipe σ vs ∧ tt σ2 H2 fun b H3 => if b = true then te σ2 H3 R else R' H3)
    (hd : ∀ H', Same H1 H' → H' D = some (.lst (((List.range xs.length).filter p).map f)) → Qd H') :
    ∃ W : Nat → Nat → Hp → Prop, (∃ m, W 0 m (upd H1 D (.lst []))) ∧ ∀ i m H, W i m H →
      ((Itl K a).stop i H ∧ Qd H) ∨ ((Itl K a).go i H ∧ ∃ Nx : Hp → Prop, (∀ H', Nx H' → ∃ m', m' < m ∧ W (i + 1) m' H') ∧ ∀ x H', (Itl K a).yld i H x H' → g x (wipe σ vs) H' fun σ2 H2 => wipe σ2 vs = wipe σ vs ∧ tt σ2 H2 fun b H3 =>
        if b = true then te σ2 H3 fun y H4 => ∃ acc, H4 D = some (.lst acc) ∧ acc.length < sizeLine ∧ Nx (upd H4 D (.lst (acc ++ [y]))) else Nx H3) := by
  refine lc_list (K := K) (a := a) (xs := xs) (fun i H' => Same H1 H' ∧ H' D = some (.lst (((List.range i).filter p).map f))) ⟨same_upd hD, upd_same⟩ (fun i H' _ q => Same.seq q.1 hS) (fun i x H' hi q => ?_) (fun H' q => hd H' q.1 q.2)
  have hlt : i < xs.length := (List.getElem?_eq_some_iff.mp hi).1
  obtain ⟨h1, h2⟩ := fm_turn (f := f) (p := p) hD hn hlt q.1 q.2
  exact hs i x H' _ _ hi q.1 h1 h2
theorem lc_range_fm {lo : Int} {n : Nat} {g : TG} {tt : TT} {te : TE} {vs : List Nat} {σ : L2.St} {H1 : Hp} {D : Addr} {Qd : Hp → Prop} (p : Nat → Bool) (f : Nat → V) (hD : H1 D = none) (hn : n < sizeLine)
    (hs : ∀ (i : Nat) (H' : Hp) (R : VK) (R' : Hp → Prop), i < n → Same H1 H' → (p i = true → ∀ H4, Same H' H4 → R (f i) H4) → (p i = false → ∀ H4, Same H' H4 → R' H4) →
      g (.int (lo + i)) (wipe σ vs) H' fun σ2 H2 => wipe σ2 vs = wipe σ vs ∧ tt σ2 H2 fun b H3 => if b = true then te σ2 H3 R else R' H3)
    (hd : ∀ H', Same H1 H' → H' D = some (.lst (((List.range n).filter p).map f)) → Qd H') :
    ∃ W : Nat → Nat → Hp → Prop, (∃ m, W 0 m (upd H1 D (.lst []))) ∧ ∀ i m H, W i m H →
      ((Itr lo n).stop i H ∧ Qd H) ∨ ((Itr lo n).go i H ∧ ∃ Nx : Hp → Prop, (∀ H', Nx H' → ∃ m', m' < m ∧ W (i + 1) m' H') ∧ ∀ x H', (Itr lo n).yld i H x H' → g x (wipe σ vs) H' fun σ2 H2 => wipe σ2 vs = wipe σ vs ∧ tt σ2 H2 fun b H3 =>
        if b = true then te σ2 H3 fun y H4 => ∃ acc, H4 D = some (.lst acc) ∧ acc.length < sizeLine ∧ Nx (upd H4 D (.lst (acc ++ [y]))) else Nx H3) := by
  refine lc_range (lo := lo) (n := n) (fun i H' => Same H1 H' ∧ H' D = some (.lst (((List.range i).filter p).map f))) ⟨same_upd hD, upd_same⟩ (fun i H' hi q => ?_) (fun H' q => hd H' q.1 q.2)
  obtain ⟨h1, h2⟩ := fm_turn (f := f) (p := p) hD hn hi q.1 q.2
  exact hs i H' _ _ hi q.1 h1 h2

/-! ### in a block: the rules whose readings name K, with K given -/
theorem ixT {X : Cx} (K : PySem.W.Frag) (h : X.K = K := by rfl) : IxR X (rIxT K) := h ▸ ix_tup
theorem ixL {X : Cx} (K : PySem.W.Frag) (h : X.K = K := by rfl) : IxR X (rIxL K) := h ▸ ix_list
theorem slT {X : Cx} (K : PySem.W.Frag) (h : X.K = K := by rfl) : SlR X (rSlT K) := h ▸ sl_tup
theorem slL {X : Cx} (K : PySem.W.Frag) (h : X.K = K := by rfl) : SlR X (rSlL K) := h ▸ sl_list
theorem catA {X : Cx} (K : PySem.W.Frag) (h : X.K = K := by rfl) : OpR X (binaryOp .Add) (rCatA K) := h ▸ op_catA
theorem lenK {X : Cx} (K : PySem.W.Frag) (h : X.K = K := by rfl) : CallR X (.builtin "len") (fun xs H Q => ∃ p ys, xs = [.ref p] ∧ (SqL K H p ys ∨ SqT K H p ys) ∧ Q (.int ys.length) H) := h ▸ call_len_seq
theorem pe_fldK {X : Cx} (K : PySem.W.Frag) {e : Expr} {ta : TE} {f : Str} {pos : Pos} (he : PE X e ta) (hb : attributeBase e f X.env (eval e X.env) = eval e X.env) (h : X.K = K := by rfl) : PE X (.Attribute e f pos) (tFld K ta f) := h ▸ pe_fld he hb

end Sd

set_option Elab.async false
set_option linter.all false
set_option maxRecDepth 100000
set_option maxHeartbeats 2000000
/-! t > u OF TUPLES OF INTS. -/
namespace Sd
open PySem PyProof.Rows L2 HT
/-- t > u of tuples of ints -/
def lexGt : List Int → List Int → Bool
  | [], [] => false
  | [], _ :: _ => false
  | _ :: _, [] => true
  | x :: xs, y :: ys => if x = y then lexGt xs ys else decide (y < x)
theorem lexGt_cons (x y : Int) (xs ys : List Int) : lexGt (x :: xs) (y :: ys) = if x = y then lexGt xs ys else decide (y < x) := rfl
theorem lexGt_nil_nil : lexGt [] [] = false := rfl
theorem lexGt_nil_cons (y : Int) (ys : List Int) : lexGt [] (y :: ys) = false := rfl
theorem lexGt_cons_nil (x : Int) (xs : List Int) : lexGt (x :: xs) [] = true := rfl
theorem rcGt_int (A : Around) (s : Shared) (a : Int) (t : Tok) (c : Int) (u : Tok) (prog : Program) (w : World) (E : Value → Shared → Prop) (Q : Value → Shared → Prop) (h : Q (.bool (decide (c < a))) s) :
    wpAny (model prog w) A (richCompare .Gt (.int a t) (.int c u)) Q E s :=
  (PyProof.Rows.gt_int h : wpAny (model prog w) A (compareOp .Gt (.int a t) (.int c u)) Q E s)

section
open PySem.SeqAt
open PySem.AutoSeq1 (wpAny_loadPart')
open PySem.MeetsSeq PySem.MeetsSeq2 PySem.MeetsSeq3
theorem tuple_gt_ints (l b : Addr) (items items2 : Array Value) (n n2 : Nat) (dd dd2 : Option Addr) (sl sl2 : Array (Option Value)) (ns ms : List Int) (hi : IntsAre items.toList ns) (hj : IntsAre items2.toList ms) :
    Meets (Builtin.«tuple.__gt__» ⟨[.ref l, .ref b], []⟩)
      (fun _ R s => s.heap.get? l = some { cls := .type "tuple", dict := dd, data := .seq items n, slots := sl } ∧ s.heap.get? b = some { cls := .type "tuple", dict := dd2, data := .seq items2 n2, slots := sl2 } ∧
        R (.ok (.ret (.bool (lexGt ns ms)))) s) :=
  .of_wp fun prog w A R s h => by
    obtain ⟨hp, g, d, tk, os⟩ := s; obtain ⟨hl, hb, h⟩ := h
    have f2 := AutoSeq1.sub_tuple_tuple
    have z1 : items.size = ns.length := by rw [← hi.length]; simp
    have z2 : items2.size = ms.length := by rw [← hj.length]; simp
    wp_walk using wpAny_loadPart' hl, wpAny_loadPart' hb, wpAny_forIn_list _ (fun rest b s' => b.1 = none ∧ s' = ⟨hp, g, d, tk, os⟩ ∧ ∃ (vs ws : List Value) (ns' ms' : List Int), rest = vs.zip ws ∧
      IntsAre vs ns' ∧ IntsAre ws ms' ∧ ns'.length + items2.size = ms'.length + items.size ∧ R (.ok (.ret (.bool (lexGt ns' ms')))) ⟨hp, g, d, tk, os⟩) _
    case turn =>
      rintro ⟨y, x⟩ rest b s' ⟨hb', rfl, vs, ws, ns', ms', hz, hvi, hwi, hlen, hR⟩
      cases hvi with
      | nil => rw [List.zip_nil_left] at hz; cases hz
      | cons a t hvi' =>
        cases hwi with
        | nil => rw [List.zip_nil_right] at hz; cases hz
        | cons c u hwi' =>
          rw [List.zip_cons_cons] at hz
          injection hz with hyx hrest
          injection hyx with hy hx
          subst hy hx
          rw [lexGt_cons] at hR
          simp only [List.length_cons] at hlen
          obtain ⟨e, he, hiff⟩ := eqAt_int A.in1 ⟨hp, g, d, tk, os⟩ a t c u
          refine wpAny_bind (he prog w _ _ ?_)
          cases e with
          | true =>
            rw [if_pos (hiff.mp rfl)] at hR
            wp_walk
            exact ⟨rfl, rfl, _, _, _, _, hrest, hvi', hwi', by omega, hR⟩
          | false =>
            rw [if_neg (fun q => absurd (hiff.mpr q) Bool.false_ne_true)] at hR
            have hri := rcGt_int A.in1 ⟨hp, g, d, tk, os⟩ a t c u prog w
            wp_walk using hri
            exact ⟨_, rfl, by simpa using hR⟩
    case fin =>
      rintro ⟨b1, b2⟩ s' ⟨hb', rfl, vs, ws, ns', ms', hz, hvi, hwi, hlen, hR⟩
      simp only at hb'
      subst hb'
      have hv : lexGt ns' ms' = decide (items2.size < items.size) := by
        cases hvi with
        | nil =>
          cases hwi with
          | nil =>
            simp only [List.length_nil] at hlen
            rw [lexGt_nil_nil]
            exact (decide_eq_false (by omega)).symm
          | cons c u hw =>
            simp only [List.length_nil, List.length_cons] at hlen
            rw [lexGt_nil_cons]
            exact (decide_eq_false (by omega)).symm
        | cons a t hv =>
          cases hwi with
          | nil =>
            simp only [List.length_nil, List.length_cons] at hlen
            rw [lexGt_cons_nil]
            exact (decide_eq_true (by omega)).symm
          | cons c u hw =>
            rw [List.zip_cons_cons] at hz
            cases hz
      rw [hv] at hR
      wp_walk
      exact ⟨_, rfl, by simpa [Builtin.Tuple.tupleCompareSizes] using hR⟩
    case h =>
      exact ⟨rfl, rfl, items.toList, items2.toList, ns, ms, rfl, hi, hj, by omega, h⟩
end
section
variable {prog : Program} {w : World} {A : Around} {E : Value → Shared → Prop} {s : Shared}
theorem gt_tupInts {l b : Addr} {items items2 : Array Value} {ns ms : List Int} {Q : Value → Shared → Prop} (hl : IsTup s.heap l items) (hb : IsTup s.heap b items2) (hi : IntsAre items.toList ns) (hj : IntsAre items2.toList ms)
    (hu : A.units < cLine) (h : Q (.bool (lexGt ns ms)) s) : wpAny (model prog w) A (compareOp .Gt (.ref l) (.ref b)) Q E s := by
  obtain ⟨⟨cls, dd, data, sl⟩, ho, hc, n, hd⟩ := id hl
  obtain ⟨⟨cls2, dd2, data2, sl2⟩, ho2, hc2, n2, hd2⟩ := id hb
  simp only at hc hd hc2 hd2
  subst hc hd hc2 hd2
  exact richCompare_meets_room (op := .Gt) ⟨_, ho, rfl⟩ ⟨_, ho2, rfl⟩ PySem.F.slot_tuple_gt PySem.F.entry_tuple_gt (PySem.F.args_tuple_gt_2 _ _) (tuple_gt_ints l b items items2 n n2 dd dd2 sl sl2 ns ms hi hj)
    ⟨ho, ho2, show Value.bool (lexGt ns ms) ≠ Value.notImplemented ∧ Q (.bool (lexGt ns ms)) s from ⟨(fun x => nomatch x), h⟩⟩ hu

end
section
variable {X : Cx}
def rGtT (K : PySem.W.Frag) : R2 := fun x y H Q => ∃ a b ns ms, x = .ref a ∧ y = .ref b ∧ SqT K H a (ns.map V.int) ∧ SqT K H b (ms.map V.int) ∧ Q (.bl (lexGt ns ms)) H
theorem op_gtT (hu : X.A.units < cLine) : OpR X (compareOp .Gt) (rGtT X.K) := by
  intro pins s σ H x y v u Q I rx ry h
  obtain ⟨a, b, ns, ms, rfl, rfl, ha, hb, q⟩ := h
  cases rx
  cases ry
  obtain ⟨its, r1, p1, _⟩ := I.tuple ha
  obtain ⟨its2, r2, p2, _⟩ := I.tuple hb
  have i1 : IntsAre its.toArray.toList ns := intsAre_of r1
  have i2 : IntsAre its2.toArray.toList ms := intsAre_of r2
  exact gt_tupInts p1 p2 i1 i2 hu ⟨.bl (lexGt ns ms), H, I, rfl, q⟩
end
end Sd

set_option Elab.async false
set_option linter.all false
set_option maxRecDepth 100000
set_option maxHeartbeats 2000000
/-! MIN AND MAX with a default, and with a key. -/
namespace Sd
open PySem PySem.Spec PyProof.Rows L2
/-- the context, a step into a builtin; nothing is raised there -/
abbrev inn (X : Cx) : Cx := { X with A := X.A.in1, xe := fun _ _ => False }
section
variable {X : Cx} {pins : List (Addr × Obj)} {σ : L2.St} {H : Hp} {s : Shared}
theorem ok_inn (ok : X.Ok) : (inn X).Ok := ⟨ok.mod, ok.kind, ok.glob, ok.blt, ok.above, ok.inj, ok.has, ok.cab, ok.hd, ok.frames, ok.stk, ok.exf, ok.bs, ok.bsz, ok.noex, ok.exfs, ok.funs, ok.frf⟩
theorem ok_out (ok : (inn X).Ok) : X.Ok := ⟨ok.mod, ok.kind, ok.glob, ok.blt, ok.above, ok.inj, ok.has, ok.cab, ok.hd, ok.frames, ok.stk, ok.exf, ok.bs, ok.bsz, ok.noex, ok.exfs, ok.funs, ok.frf⟩
theorem inv_inn (I : Inv X pins σ H s) : Inv (inn X) pins σ H s := ⟨ok_inn I.ok, I.os, I.bare, I.base, I.loc, I.cell, I.free, I.freeC, I.pin, I.hok, I.len⟩
theorem inv_out (I : Inv (inn X) pins σ H s) : Inv X pins σ H s := ⟨ok_out I.ok, I.os, I.bare, I.base, I.loc, I.cell, I.free, I.freeC, I.pin, I.hok, I.len⟩
theorem pin_get {fp : List Addr} {h : Heap} (I : Inv X (pins ++ pinsAt fp h) σ H s) {b : Addr} {o : Obj} (hb : b ∈ fp) (e : h.get? b = some o) : s.heap.get? b = some o ∧ H b = none :=
  let z := I.pin (b, o) (List.mem_append_right _ (List.mem_append_right _ (mem_pinsAt hb e)))
  ⟨z.1, z.2.1⟩
theorem fp_turned {h' : Heap} {t' : Nat} {it : Addr} (I : Inv X pins σ H s) (f : FpOk X pins H it) (k : ∀ b o, b ≠ it → s.heap.get? b = some o → h'.get? b = some o) : Inv X pins σ H { s with heap := h', toks := t' } :=
  I.turned k f.1 f.2.1 f.2.2.2.1 f.2.2.2.2.1 f.2.2.2.2.2
end
/-- what the best one so far is kept as -/
def RelI : Option (V × V) → Array Value → Prop
  | none, its => its = #[]
  | some p, its => ∃ u w, its = #[u, w] ∧ RelV p.1 u ∧ RelV p.2 w
/-- the key's call -/
def KeyR (X : Cx) (σ : L2.St) (q : Addr) (x : V) (H : Hp) (R : VK) : Prop := ∀ (pins : List (Addr × Obj)) (s : Shared) (u : Value), RelV x u → Inv (inn X) pins σ H s →
  wpAny (model X.prog X.w) X.A.in1 (call (.ref q) [u]) (EP (inn X) pins σ R) (fun _ _ => False) s
/-- behind the item x, whose value is y -/
def After (r : R2) (W : Nat → Option (V × V) → Hp → Prop) (i : Nat) (o : Option (V × V)) (x y : V) (H : Hp) : Prop := match o with
  | none => W (i + 1) (some (x, y)) H
  | some p => r y p.2 H fun b H' => ∃ c : Bool, b = .bl c ∧ W (i + 1) (some (if c = true then (x, y) else p)) H'
def ME (X : Cx) (pins : List (Addr × Obj)) (σ : L2.St) (Q : VK) (r : Result) (s' : Shared) : Prop :=
  match r with | .ok (.ret v) => EP X pins σ Q v s' | .ok _ => False | .error e => X.xe e s'
theorem ob_two {h : Heap} {it S l : Addr} {i : Nat} {its : Array Value} {c : Nat} (st : h.IsListIter it l i) (hS : h.get? S = some (seqObj "list" its c)) : ∀ b ∈ [it, S], ∃ o, h.get? b = some o ∧ ∀ v, o.data ≠ .cell v := by
  intro b hb
  rcases List.mem_cons.mp hb with e | hb
  · subst e
    obtain ⟨o, ho, _, hd⟩ := st
    exact ⟨o, ho, fun v z => by rw [hd] at z; cases z⟩
  · have e : b = S := by simpa using hb
    subst e
    exact ⟨_, hS, fun v z => by cases z⟩

section
variable {X : Cx} {pins : List (Addr × Obj)} {σ : L2.St}
theorem loop_max_key (hc : X.calm = true) {r : R2} (hop : OpR (inn X) (compareOp .Gt) r) {Q : VK} {l it S q : Addr} {xs : List V} {dv : V} {d : Value} (W : Nat → Option (V × V) → Hp → Prop) (hl : ∀ i o H, W i o H → SqL X.K H l xs)
    (hk : ∀ i o x H, xs[i]? = some x → W i o H → KeyR X σ q x H fun y H2 => After r W i o x y H2) (hd : RelV dv d) (f0 : ∀ H, W xs.length none H → Q dv H) (f1 : ∀ x y H, W xs.length (some (x, y)) H → Q x H) (hne : S ≠ it) :
    ∀ (m i : Nat) (o : Option (V × V)) (H : Hp) (s : Shared) (c : Nat) (its : Array Value), xs.length - i = m → i ≤ xs.length → Inv X pins σ H s → FpOk X pins H it → FpOk X pins H S → s.heap.IsListIter it l i → s.heap.get? S = some (seqObj "list" its c) →
      RelI o its → W i o H → codeAny (model X.prog X.w) X.A (.builtin "max.loop" ⟨[.ref it, .ref q, .ref S], [(Str.ofString "default", d)]⟩) (ME X pins σ Q) s := by
  have hname : (toString "max" ++ toString ".loop" : String) = "max.loop" := by decide
  intro m
  induction m with
  | zero =>
    intro i o H s c its hm hi I fI fS st hS hr hW
    obtain ⟨us, rv, p, hz⟩ := I.list (hl i o H hW)
    have hlen := rv.length
    have e : i = xs.length := by omega
    subst e
    refine codeAny_builtin PySem.F.entry_max_loop ?_
    rw [Around.under_plainId PySem.F.plain_max_loop _]
    show wpAny _ X.A.in1 (seqItems? (.ref S) >>= _) _ _ _
    refine wpAny_bind (wpAny_seqItems hS rfl ?_)
    show wpAny _ X.A.in1 (tryCatch (pyNext (.ref it)) _ >>= _) _ _ _
    refine wpAny_bind (wpAny_tryCatch (wpAny_pyNext_list_end (I.ok.hd hc) st p.isList (by simp; omega) fun h' eb => ?_))
    have I1 : Inv X pins σ H { s with heap := h' } := fp_turned (t' := s.toks) I fI (fun b o hb e => eb b o hb e)
    cases o with
    | none =>
      obtain rfl : its = #[] := hr
      show wpAny _ X.A.in1 (rule _ >>= _) _ _ _
      exact wpAny_bind (wpAny_rule (wpAny_pure ⟨dv, H, I1, hd, f0 H hW⟩))
    | some pr =>
      obtain ⟨u, w, rfl, ru, rw'⟩ := hr
      have hS' := eb S _ hne hS
      show wpAny _ X.A.in1 (updateSeq S (fun _ => #[]) >>= _) _ _ _
      refine wpAny_bind ?_
      refine wpAny_updateSeq hS' rfl (wpAny_bind (wpAny_letGo (wpAny_pure ?_)))
      have s1 := Heap.SameBut.update h' S (Obj.mapSeq fun _ => (#[] : Array Value))
      exact ⟨pr.1, H, fp_turned (t' := s.toks) I1 fS (fun b o hb e => (s1.2 b hb).trans e), ru, f1 pr.1 pr.2 H hW⟩
  | succ m ih =>
    intro i o H s c its hm hi I fI fS st hS hr hW
    have hlt : i < xs.length := by omega
    obtain ⟨us, rv, p, hz⟩ := I.list (hl i o H hW)
    obtain ⟨x, hx⟩ : ∃ x, xs[i]? = some x := ⟨_, List.getElem?_eq_getElem hlt⟩
    obtain ⟨u, hu, ru⟩ := rv.get hx
    refine codeAny_builtin PySem.F.entry_max_loop ?_
    rw [Around.under_plainId PySem.F.plain_max_loop _]
    show wpAny _ X.A.in1 (seqItems? (.ref S) >>= _) _ _ _
    refine wpAny_bind (wpAny_seqItems hS rfl ?_)
    show wpAny _ X.A.in1 (tryCatch (pyNext (.ref it)) _ >>= _) _ _ _
    refine wpAny_bind (wpAny_tryCatch (wpAny_pyNext_list_item st p.isList (x := u) (by simpa using hu) fun h' st' sb => ?_))
    have I1 : Inv X pins σ H { s with heap := h' } := fp_turned (t' := s.toks) I fI (fun b o hb e => (sb.2 b hb).trans e)
    have hS1 : h'.get? S = some (seqObj "list" its c) := (sb.2 S hne).trans hS
    have I2 := (inv_inn I1).pinned (fp := [it, S]) (fun b hb => by
      rcases List.mem_cons.mp hb with e | hb
      · subst e; exact fI
      · have e : b = S := by simpa using hb
        subst e; exact fS) (ob_two st' hS1)
    show wpAny _ X.A.in1 (tryCatch (holding [u] (call (.ref q) [u])) _ >>= _) _ _ _
    refine wpAny_bind (wpAny_tryCatch (wpAny_holding (wpAny_mono (hk i o x H hx hW _ _ u ru I2) (fun w2 s2 h2 => ?_) fun _ _ z => False.elim z)))
    obtain ⟨y, H2, I3, ry, qy⟩ := h2
    obtain ⟨oI, hoI, hcI, hdI⟩ := id st'
    have pI := pin_get I3 (fp := [it, S]) (by simp) hoI
    have pS := pin_get I3 (fp := [it, S]) (by simp) hS1
    have I3' := inv_out I3.unpinned
    have fI2 : FpOk X pins H2 it := ⟨pI.2, fI.2⟩
    have fS2 : FpOk X pins H2 S := ⟨pS.2, fS.2⟩
    have st2 : s2.heap.IsListIter it l (i + 1) := ⟨oI, pI.1, hcI, hdI⟩
    cases o with
    | none =>
      obtain rfl : its = #[] := hr
      show wpAny _ X.A.in1 (updateSeq S (fun _ => #[u, w2]) >>= _) _ _ _
      refine wpAny_bind ?_
      refine wpAny_updateSeq pS.1 rfl ?_
      rw [hname]
      have s1 := Heap.SameBut.update s2.heap S (Obj.mapSeq fun _ => #[u, w2])
      refine wpAny_pure ⟨plainId_quiet PySem.F.plain_max_loop _, ih (i + 1) (some (x, y)) H2 _ _ _ (by omega) hlt (fp_turned (t' := s2.toks) I3' fS2 (fun b o hb e => (s1.2 b hb).trans e)) fI2 fS2 ⟨oI, (s1.2 it hne.symm).trans pI.1, hcI, hdI⟩
        (get?_update_seq pS.1 fun _ => #[u, w2]) ⟨u, w2, rfl, ru, ry⟩ qy⟩
    | some pr =>
      obtain ⟨u0, w0, rfl, ru0, rw0⟩ := hr
      show wpAny _ X.A.in1 (tryCatch (holding [u, w2] (richCompare .Gt w2 w0 >>= _)) _ >>= _) _ _ _
      refine wpAny_bind (wpAny_tryCatch (wpAny_holding (wpAny_bind (wpAny_mono (hop _ s2 σ H2 y pr.2 w2 w0 _ I3 ry rw0 qy) (fun b s3 h3 => ?_) fun _ _ z => False.elim z))))
      obtain ⟨bv, H3, I4, rb, cc, rfl, hW3⟩ := h3
      obtain rfl : b = .bool cc := rb
      refine wpAny_bind (wpAny_holding (wpAny_truthy_bool ?_))
      refine wpAny_bind (wpAny_letGo (wpAny_pure ?_))
      have qI := pin_get I4 (fp := [it, S]) (by simp) hoI
      have qS := pin_get I4 (fp := [it, S]) (by simp) hS1
      have I4' := inv_out I4.unpinned
      have fI3 : FpOk X pins H3 it := ⟨qI.2, fI.2⟩
      have fS3 : FpOk X pins H3 S := ⟨qS.2, fS.2⟩
      cases cc with
      | true =>
        simp only [if_true]
        refine wpAny_bind ?_
        refine wpAny_updateSeq qS.1 rfl (wpAny_bind (wpAny_letGo ?_))
        rw [hname]
        have s1 := Heap.SameBut.update s3.heap S (Obj.mapSeq fun _ => #[u, w2])
        refine wpAny_pure ⟨plainId_quiet PySem.F.plain_max_loop _, ih (i + 1) (some (x, y)) H3 _ _ _ (by omega) hlt (fp_turned (t' := s3.toks) I4' fS3 (fun b o hb e => (s1.2 b hb).trans e)) fI3 fS3 ⟨oI, (s1.2 it hne.symm).trans qI.1, hcI, hdI⟩
          (get?_update_seq qS.1 fun _ => #[u, w2]) ⟨u, w2, rfl, ru, ry⟩ hW3⟩
      | false =>
        simp only [Bool.false_eq_true, if_false]
        refine wpAny_bind (wpAny_letGo ?_)
        rw [hname]
        exact wpAny_pure ⟨plainId_quiet PySem.F.plain_max_loop _, ih (i + 1) (some pr) H3 _ _ _ (by omega) hlt I4' fI3 fS3 ⟨oI, qI.1, hcI, hdI⟩ qS.1 ⟨u0, w0, rfl, ru0, rw0⟩ hW3⟩
theorem args_max_key (a k d : Value) : argsOk "max" ⟨[a], [(Str.ofString "key", k), (Str.ofString "default", d)]⟩ := by unfold argsOk; kernel_rfl
theorem run_max_key (hc : X.calm = true) {r : R2} (hop : OpR (inn X) (compareOp .Gt) r) {Q : VK} {l q : Addr} {xs : List V} {dv : V} {d : Value} {H : Hp} {s : Shared} (I : Inv X pins σ H s) (W : Nat → Option (V × V) → Hp → Prop) (w0 : W 0 none H) (hl : ∀ i o H, W i o H → SqL X.K H l xs)
    (hk : ∀ i o x H, xs[i]? = some x → W i o H → KeyR X σ q x H fun y H2 => After r W i o x y H2) (hd : RelV dv d) (f0 : ∀ H, W xs.length none H → Q dv H) (f1 : ∀ x y H, W xs.length (some (x, y)) H → Q x H) :
    wpAny (model X.prog X.w) X.A (call (.builtin "max") [.ref l] [(Str.ofString "key", .ref q), (Str.ofString "default", d)]) (EP X pins σ Q) X.xe s := by
  have hname : (toString "max" ++ toString ".loop" : String) = "max.loop" := by decide
  obtain ⟨us, rv, p, hz⟩ := I.list (hl 0 none H w0)
  refine kmk_tree PySem.F.kind_max PySem.F.plain_max PySem.F.entry_max (args_max_key _ _ _) ?_
  show wpAny _ X.A.in1 (Builtin.Builtins.bindParams "max" ["key", "default"] 0 ⟨[], [(Str.ofString "key", .ref q), (Str.ofString "default", d)]⟩ >>= _) _ _ s
  refine wpAny_bind (wpAny_of_eq (show Builtin.Builtins.bindParams "max" ["key", "default"] 0 ⟨[], [(Str.ofString "key", .ref q), (Str.ofString "default", d)]⟩ = pure [some (.ref q), some d] from rfl) ?_)
  refine wpAny_bind (wpAny_pure ?_)
  refine wpAny_bind (wpAny_pyIter_list p.isList ?_)
  refine wpAny_bind (wpAny_newList ?_ (Nat.zero_le _))
  rw [hname]
  have I1 : Inv X pins σ H { s with heap := s.heap.push { cls := .type "list_iterator", data := .fields #[.ref l, .int 0 0] } } := I.kept (t' := s.toks) fun b o e => Heap.get?_push_of_some _ e
  have I2 : Inv X pins σ H { s with heap := (s.heap.push { cls := .type "list_iterator", data := .fields #[.ref l, .int 0 0] }).push (seqObj "list" #[] 0) } := I1.kept (t' := s.toks) fun b o e => Heap.get?_push_of_some _ e
  have hS : (s.heap.push { cls := .type "list_iterator", data := .fields #[.ref l, .int 0 0] }).objs.size = s.heap.objs.size + 1 := size_push' ..
  have hne : (s.heap.push { cls := .type "list_iterator", data := .fields #[.ref l, .int 0 0] }).objs.size ≠ s.heap.objs.size := by rw [hS]; exact Nat.ne_of_gt (Nat.lt_succ_self _)
  refine wpAny_pure ⟨plainId_quiet PySem.F.plain_max_loop _, ?_⟩
  refine codeAny_mono (loop_max_key hc hop W hl hk hd f0 f1 hne _ 0 none H _ 0 #[] rfl (Nat.zero_le _) I2 (I.fpOk (Nat.le_refl _) (I.hok.fresh (Nat.le_refl _))) (I1.fpOk (Nat.le_refl _) (I1.hok.fresh (Nat.le_refl _)))
    ⟨_, Heap.get?_push_of_some _ (Heap.get?_push_size _ rfl), rfl, rfl⟩ (Heap.get?_push_size _ rfl) rfl w0) fun r s' hq => ?_
  cases r with
  | error e => exact hq
  | ok f => cases f with
    | ret v => exact hq
    | next => exact hq
    | brk => exact hq
    | cont => exact hq
def tMax_key (X : Cx) (r : R2) (t tk : TA) : TE := fun σ H Q => t σ H fun vs H1 => tk σ H1 fun zs H2 => ∃ (l q : Addr) (dv : V) (xs : List V) (W : Nat → Option (V × V) → Hp → Prop), vs = [.ref l] ∧ zs = [.ref q, dv] ∧ W 0 none H2 ∧ (∀ i o H, W i o H → SqL X.K H l xs) ∧
  (∀ i o x H, xs[i]? = some x → W i o H → KeyR X σ q x H fun y H2 => After r W i o x y H2) ∧ (∀ H, W xs.length none H → Q dv H) ∧ ∀ x y H, W xs.length (some (x, y)) H → Q x H
theorem pe_max_key {e ek ed : Expr} {t tk : TA} {p pos p1 p2 : Pos} {r : R2} (hop : OpR (inn X) (compareOp .Gt) r) (hc : X.calm = true) (hg : Gl X "max") (hm : X.mg "max" = none) (ha : PA X [e] t) (hkw : PK X [⟨some "key", ek, p1⟩, ⟨some "default", ed, p2⟩] tk)
    (h1 : backTo pos (starEach [e] X.env) = (false, eval e X.env) :: backTo pos (starEach [] X.env) := by rfl) (h2 : (backTo pos (starEach [e] X.env)).any (·.1) = false := by rfl)
    (h3 : (backToKw pos (keywordEach [⟨some "key", ek, p1⟩, ⟨some "default", ed, p2⟩] X.env)).all (·.1.isSome) = true := by rfl) (h4 : (backToKw pos (keywordEach [⟨some "key", ek, p1⟩, ⟨some "default", ed, p2⟩] X.env)).any (·.1.isNone) = false := by rfl)
    (h5 : (backToKw pos (keywordEach [⟨some "key", ek, p1⟩, ⟨some "default", ed, p2⟩] X.env)).filterMap (·.1) = [Str.ofString "key", Str.ofString "default"] := by rfl) :
    PE X (.Call (.Name "max" p) [e] [⟨some "key", ek, p1⟩, ⟨some "default", ed, p2⟩] pos) (tMax_key X r t tk) := by
  intro pins s σ H Q I h
  refine wpAny_Call_Name_kw (ld_blt I hg hm bt_max ?_)
  refine PyProof.Rows.callWith_kw (thn (ha pos pins s σ H _ I h) fun us s1 ⟨vs, H1, I1, r1, q1⟩ => thn (hkw pos pins s1 σ H1 _ I1 q1) fun ws s2 ⟨zs, H2, I2, r2, z⟩ => ?_) h1 h2 h3 h4
  obtain ⟨l, q, dv, xs, W, e1, e2, w0, hl, hk, f0, f1⟩ := z
  subst e1 e2
  rw [h5]
  cases r1 with
  | cons ra rb =>
    cases rb
    cases ra
    cases r2 with
    | cons rc rd =>
      cases rd with
      | cons re rf =>
        cases rf
        cases rc
        exact run_max_key hc hop I2 W w0 hl hk re f0 f1
end

section
variable {X : Cx} {pins : List (Addr × Obj)} {σ : L2.St}
theorem loop_max_dflt (hc : X.calm = true) {r : R2} (hop : OpR (inn X) (compareOp .Gt) r) {Q : VK} {l it S : Addr} {xs : List V} {dv : V} {d : Value} (W : Nat → Option (V × V) → Hp → Prop) (hl : ∀ i o H, W i o H → SqL X.K H l xs)
    (hk : ∀ i o x H, xs[i]? = some x → W i o H → After r W i o x x H) (hd : RelV dv d) (f0 : ∀ H, W xs.length none H → Q dv H) (f1 : ∀ x y H, W xs.length (some (x, y)) H → Q x H) (hne : S ≠ it) :
    ∀ (m i : Nat) (o : Option (V × V)) (H : Hp) (s : Shared) (c : Nat) (its : Array Value), xs.length - i = m → i ≤ xs.length → Inv X pins σ H s → FpOk X pins H it → FpOk X pins H S → s.heap.IsListIter it l i → s.heap.get? S = some (seqObj "list" its c) →
      RelI o its → W i o H → codeAny (model X.prog X.w) X.A (.builtin "max.loop" ⟨[.ref it, .none, .ref S], [(Str.ofString "default", d)]⟩) (ME X pins σ Q) s := by
  have hname : (toString "max" ++ toString ".loop" : String) = "max.loop" := by decide
  intro m
  induction m with
  | zero =>
    intro i o H s c its hm hi I fI fS st hS hr hW
    obtain ⟨us, rv, p, hz⟩ := I.list (hl i o H hW)
    have hlen := rv.length
    have e : i = xs.length := by omega
    subst e
    refine codeAny_builtin PySem.F.entry_max_loop ?_
    rw [Around.under_plainId PySem.F.plain_max_loop _]
    show wpAny _ X.A.in1 (seqItems? (.ref S) >>= _) _ _ _
    refine wpAny_bind (wpAny_seqItems hS rfl ?_)
    show wpAny _ X.A.in1 (tryCatch (pyNext (.ref it)) _ >>= _) _ _ _
    refine wpAny_bind (wpAny_tryCatch (wpAny_pyNext_list_end (I.ok.hd hc) st p.isList (by simp; omega) fun h' eb => ?_))
    have I1 : Inv X pins σ H { s with heap := h' } := fp_turned (t' := s.toks) I fI (fun b o hb e => eb b o hb e)
    cases o with
    | none =>
      obtain rfl : its = #[] := hr
      show wpAny _ X.A.in1 (rule _ >>= _) _ _ _
      exact wpAny_bind (wpAny_rule (wpAny_pure ⟨dv, H, I1, hd, f0 H hW⟩))
    | some pr =>
      obtain ⟨u, w, rfl, ru, rw'⟩ := hr
      have hS' := eb S _ hne hS
      show wpAny _ X.A.in1 (updateSeq S (fun _ => #[]) >>= _) _ _ _
      refine wpAny_bind ?_
      refine wpAny_updateSeq hS' rfl (wpAny_bind (wpAny_letGo (wpAny_pure ?_)))
      have s1 := Heap.SameBut.update h' S (Obj.mapSeq fun _ => (#[] : Array Value))
      exact ⟨pr.1, H, fp_turned (t' := s.toks) I1 fS (fun b o hb e => (s1.2 b hb).trans e), ru, f1 pr.1 pr.2 H hW⟩
  | succ m ih =>
    intro i o H s c its hm hi I fI fS st hS hr hW
    have hlt : i < xs.length := by omega
    obtain ⟨us, rv, p, hz⟩ := I.list (hl i o H hW)
    obtain ⟨x, hx⟩ : ∃ x, xs[i]? = some x := ⟨_, List.getElem?_eq_getElem hlt⟩
    obtain ⟨u, hu, ru⟩ := rv.get hx
    refine codeAny_builtin PySem.F.entry_max_loop ?_
    rw [Around.under_plainId PySem.F.plain_max_loop _]
    show wpAny _ X.A.in1 (seqItems? (.ref S) >>= _) _ _ _
    refine wpAny_bind (wpAny_seqItems hS rfl ?_)
    show wpAny _ X.A.in1 (tryCatch (pyNext (.ref it)) _ >>= _) _ _ _
    refine wpAny_bind (wpAny_tryCatch (wpAny_pyNext_list_item st p.isList (x := u) (by simpa using hu) fun h' st' sb => ?_))
    have I1 : Inv X pins σ H { s with heap := h' } := fp_turned (t' := s.toks) I fI (fun b o hb e => (sb.2 b hb).trans e)
    have hS1 : h'.get? S = some (seqObj "list" its c) := (sb.2 S hne).trans hS
    have I2 := (inv_inn I1).pinned (fp := [it, S]) (fun b hb => by
      rcases List.mem_cons.mp hb with e | hb
      · subst e; exact fI
      · have e : b = S := by simpa using hb
        subst e; exact fS) (ob_two st' hS1)
    have qy := hk i o x H hx hW
    have I3 := I2
    have ry := ru
    obtain ⟨oI, hoI, hcI, hdI⟩ := id st'
    have pI := pin_get I3 (fp := [it, S]) (by simp) hoI
    have pS := pin_get I3 (fp := [it, S]) (by simp) hS1
    have I3' := inv_out I3.unpinned
    have fI2 : FpOk X pins H it := ⟨pI.2, fI.2⟩
    have fS2 : FpOk X pins H S := ⟨pS.2, fS.2⟩
    have st2 : h'.IsListIter it l (i + 1) := ⟨oI, pI.1, hcI, hdI⟩
    cases o with
    | none =>
      obtain rfl : its = #[] := hr
      show wpAny _ X.A.in1 (updateSeq S (fun _ => #[u, u]) >>= _) _ _ _
      refine wpAny_bind ?_
      refine wpAny_updateSeq pS.1 rfl ?_
      rw [hname]
      have s1 := Heap.SameBut.update h' S (Obj.mapSeq fun _ => #[u, u])
      refine wpAny_pure ⟨plainId_quiet PySem.F.plain_max_loop _, ih (i + 1) (some (x, x)) H _ _ _ (by omega) hlt (fp_turned (t' := s.toks) I3' fS2 (fun b o hb e => (s1.2 b hb).trans e)) fI2 fS2 ⟨oI, (s1.2 it hne.symm).trans pI.1, hcI, hdI⟩
        (get?_update_seq pS.1 fun _ => #[u, u]) ⟨u, u, rfl, ru, ry⟩ qy⟩
    | some pr =>
      obtain ⟨u0, w0, rfl, ru0, rw0⟩ := hr
      show wpAny _ X.A.in1 (tryCatch (holding [u, u] (richCompare .Gt u w0 >>= _)) _ >>= _) _ _ _
      refine wpAny_bind (wpAny_tryCatch (wpAny_holding (wpAny_bind (wpAny_mono (hop _ _ σ H x pr.2 u w0 _ I3 ry rw0 qy) (fun b s3 h3 => ?_) fun _ _ z => False.elim z))))
      obtain ⟨bv, H3, I4, rb, cc, rfl, hW3⟩ := h3
      obtain rfl : b = .bool cc := rb
      refine wpAny_bind (wpAny_holding (wpAny_truthy_bool ?_))
      refine wpAny_bind (wpAny_letGo (wpAny_pure ?_))
      have qI := pin_get I4 (fp := [it, S]) (by simp) hoI
      have qS := pin_get I4 (fp := [it, S]) (by simp) hS1
      have I4' := inv_out I4.unpinned
      have fI3 : FpOk X pins H3 it := ⟨qI.2, fI.2⟩
      have fS3 : FpOk X pins H3 S := ⟨qS.2, fS.2⟩
      cases cc with
      | true =>
        simp only [if_true]
        refine wpAny_bind ?_
        refine wpAny_updateSeq qS.1 rfl (wpAny_bind (wpAny_letGo ?_))
        rw [hname]
        have s1 := Heap.SameBut.update s3.heap S (Obj.mapSeq fun _ => #[u, u])
        refine wpAny_pure ⟨plainId_quiet PySem.F.plain_max_loop _, ih (i + 1) (some (x, x)) H3 _ _ _ (by omega) hlt (fp_turned (t' := s3.toks) I4' fS3 (fun b o hb e => (s1.2 b hb).trans e)) fI3 fS3 ⟨oI, (s1.2 it hne.symm).trans qI.1, hcI, hdI⟩
          (get?_update_seq qS.1 fun _ => #[u, u]) ⟨u, u, rfl, ru, ry⟩ hW3⟩
      | false =>
        simp only [Bool.false_eq_true, if_false]
        refine wpAny_bind (wpAny_letGo ?_)
        rw [hname]
        exact wpAny_pure ⟨plainId_quiet PySem.F.plain_max_loop _, ih (i + 1) (some pr) H3 _ _ _ (by omega) hlt I4' fI3 fS3 ⟨oI, qI.1, hcI, hdI⟩ qS.1 ⟨u0, w0, rfl, ru0, rw0⟩ hW3⟩
theorem args_max_dflt (a d : Value) : argsOk "max" ⟨[a], [(Str.ofString "default", d)]⟩ := by unfold argsOk; kernel_rfl
theorem run_max_dflt (hc : X.calm = true) {r : R2} (hop : OpR (inn X) (compareOp .Gt) r) {Q : VK} {l : Addr} {xs : List V} {dv : V} {d : Value} {H : Hp} {s : Shared} (I : Inv X pins σ H s) (W : Nat → Option (V × V) → Hp → Prop) (w0 : W 0 none H) (hl : ∀ i o H, W i o H → SqL X.K H l xs)
    (hk : ∀ i o x H, xs[i]? = some x → W i o H → After r W i o x x H) (hd : RelV dv d) (f0 : ∀ H, W xs.length none H → Q dv H) (f1 : ∀ x y H, W xs.length (some (x, y)) H → Q x H) :
    wpAny (model X.prog X.w) X.A (call (.builtin "max") [.ref l] [(Str.ofString "default", d)]) (EP X pins σ Q) X.xe s := by
  have hname : (toString "max" ++ toString ".loop" : String) = "max.loop" := by decide
  obtain ⟨us, rv, p, hz⟩ := I.list (hl 0 none H w0)
  refine kmk_tree PySem.F.kind_max PySem.F.plain_max PySem.F.entry_max (args_max_dflt _ _) ?_
  show wpAny _ X.A.in1 (Builtin.Builtins.bindParams "max" ["key", "default"] 0 ⟨[], [(Str.ofString "default", d)]⟩ >>= _) _ _ s
  refine wpAny_bind (wpAny_of_eq (show Builtin.Builtins.bindParams "max" ["key", "default"] 0 ⟨[], [(Str.ofString "default", d)]⟩ = pure [none, some d] from rfl) ?_)
  refine wpAny_bind (wpAny_pure ?_)
  refine wpAny_bind (wpAny_pyIter_list p.isList ?_)
  refine wpAny_bind (wpAny_newList ?_ (Nat.zero_le _))
  rw [hname]
  have I1 : Inv X pins σ H { s with heap := s.heap.push { cls := .type "list_iterator", data := .fields #[.ref l, .int 0 0] } } := I.kept (t' := s.toks) fun b o e => Heap.get?_push_of_some _ e
  have I2 : Inv X pins σ H { s with heap := (s.heap.push { cls := .type "list_iterator", data := .fields #[.ref l, .int 0 0] }).push (seqObj "list" #[] 0) } := I1.kept (t' := s.toks) fun b o e => Heap.get?_push_of_some _ e
  have hS : (s.heap.push { cls := .type "list_iterator", data := .fields #[.ref l, .int 0 0] }).objs.size = s.heap.objs.size + 1 := size_push' ..
  have hne : (s.heap.push { cls := .type "list_iterator", data := .fields #[.ref l, .int 0 0] }).objs.size ≠ s.heap.objs.size := by rw [hS]; exact Nat.ne_of_gt (Nat.lt_succ_self _)
  refine wpAny_pure ⟨plainId_quiet PySem.F.plain_max_loop _, ?_⟩
  refine codeAny_mono (loop_max_dflt hc hop W hl hk hd f0 f1 hne _ 0 none H _ 0 #[] rfl (Nat.zero_le _) I2 (I.fpOk (Nat.le_refl _) (I.hok.fresh (Nat.le_refl _))) (I1.fpOk (Nat.le_refl _) (I1.hok.fresh (Nat.le_refl _)))
    ⟨_, Heap.get?_push_of_some _ (Heap.get?_push_size _ rfl), rfl, rfl⟩ (Heap.get?_push_size _ rfl) rfl w0) fun r s' hq => ?_
  cases r with
  | error e => exact hq
  | ok f => cases f with
    | ret v => exact hq
    | next => exact hq
    | brk => exact hq
    | cont => exact hq
def tMax_dflt (X : Cx) (r : R2) (t tk : TA) : TE := fun σ H Q => t σ H fun vs H1 => tk σ H1 fun zs H2 => ∃ (l : Addr) (dv : V) (xs : List V) (W : Nat → Option (V × V) → Hp → Prop), vs = [.ref l] ∧ zs = [dv] ∧ W 0 none H2 ∧ (∀ i o H, W i o H → SqL X.K H l xs) ∧
  (∀ i o x H, xs[i]? = some x → W i o H → After r W i o x x H) ∧ (∀ H, W xs.length none H → Q dv H) ∧ ∀ x y H, W xs.length (some (x, y)) H → Q x H
theorem pe_max_dflt {e ed : Expr} {t tk : TA} {p pos p2 : Pos} {r : R2} (hop : OpR (inn X) (compareOp .Gt) r) (hc : X.calm = true) (hg : Gl X "max") (hm : X.mg "max" = none) (ha : PA X [e] t) (hkw : PK X [⟨some "default", ed, p2⟩] tk)
    (h1 : backTo pos (starEach [e] X.env) = (false, eval e X.env) :: backTo pos (starEach [] X.env) := by rfl) (h2 : (backTo pos (starEach [e] X.env)).any (·.1) = false := by rfl)
    (h3 : (backToKw pos (keywordEach [⟨some "default", ed, p2⟩] X.env)).all (·.1.isSome) = true := by rfl) (h4 : (backToKw pos (keywordEach [⟨some "default", ed, p2⟩] X.env)).any (·.1.isNone) = false := by rfl)
    (h5 : (backToKw pos (keywordEach [⟨some "default", ed, p2⟩] X.env)).filterMap (·.1) = [Str.ofString "default"] := by rfl) :
    PE X (.Call (.Name "max" p) [e] [⟨some "default", ed, p2⟩] pos) (tMax_dflt X r t tk) := by
  intro pins s σ H Q I h
  refine wpAny_Call_Name_kw (ld_blt I hg hm bt_max ?_)
  refine PyProof.Rows.callWith_kw (thn (ha pos pins s σ H _ I h) fun us s1 ⟨vs, H1, I1, r1, q1⟩ => thn (hkw pos pins s1 σ H1 _ I1 q1) fun ws s2 ⟨zs, H2, I2, r2, z⟩ => ?_) h1 h2 h3 h4
  obtain ⟨l, dv, xs, W, e1, e2, w0, hl, hk, f0, f1⟩ := z
  subst e1 e2
  rw [h5]
  cases r1 with
  | cons ra rb =>
    cases rb
    cases ra
    cases r2 with
    | cons rc rd =>
      cases rd
      exact run_max_dflt hc hop I2 W w0 hl hk rc f0 f1
end

section
variable {X : Cx} {pins : List (Addr × Obj)} {σ : L2.St}
theorem loop_min_dflt (hc : X.calm = true) {r : R2} (hop : OpR (inn X) (compareOp .Lt) r) {Q : VK} {l it S : Addr} {xs : List V} {dv : V} {d : Value} (W : Nat → Option (V × V) → Hp → Prop) (hl : ∀ i o H, W i o H → SqL X.K H l xs)
    (hk : ∀ i o x H, xs[i]? = some x → W i o H → After r W i o x x H) (hd : RelV dv d) (f0 : ∀ H, W xs.length none H → Q dv H) (f1 : ∀ x y H, W xs.length (some (x, y)) H → Q x H) (hne : S ≠ it) :
    ∀ (m i : Nat) (o : Option (V × V)) (H : Hp) (s : Shared) (c : Nat) (its : Array Value), xs.length - i = m → i ≤ xs.length → Inv X pins σ H s → FpOk X pins H it → FpOk X pins H S → s.heap.IsListIter it l i → s.heap.get? S = some (seqObj "list" its c) →
      RelI o its → W i o H → codeAny (model X.prog X.w) X.A (.builtin "min.loop" ⟨[.ref it, .none, .ref S], [(Str.ofString "default", d)]⟩) (ME X pins σ Q) s := by
  have hname : (toString "min" ++ toString ".loop" : String) = "min.loop" := by decide
  intro m
  induction m with
  | zero =>
    intro i o H s c its hm hi I fI fS st hS hr hW
    obtain ⟨us, rv, p, hz⟩ := I.list (hl i o H hW)
    have hlen := rv.length
    have e : i = xs.length := by omega
    subst e
    refine codeAny_builtin PySem.F.entry_min_loop ?_
    rw [Around.under_plainId PySem.F.plain_min_loop _]
    show wpAny _ X.A.in1 (seqItems? (.ref S) >>= _) _ _ _
    refine wpAny_bind (wpAny_seqItems hS rfl ?_)
    show wpAny _ X.A.in1 (tryCatch (pyNext (.ref it)) _ >>= _) _ _ _
    refine wpAny_bind (wpAny_tryCatch (wpAny_pyNext_list_end (I.ok.hd hc) st p.isList (by simp; omega) fun h' eb => ?_))
    have I1 : Inv X pins σ H { s with heap := h' } := fp_turned (t' := s.toks) I fI (fun b o hb e => eb b o hb e)
    cases o with
    | none =>
      obtain rfl : its = #[] := hr
      show wpAny _ X.A.in1 (rule _ >>= _) _ _ _
      exact wpAny_bind (wpAny_rule (wpAny_pure ⟨dv, H, I1, hd, f0 H hW⟩))
    | some pr =>
      obtain ⟨u, w, rfl, ru, rw'⟩ := hr
      have hS' := eb S _ hne hS
      show wpAny _ X.A.in1 (updateSeq S (fun _ => #[]) >>= _) _ _ _
      refine wpAny_bind ?_
      refine wpAny_updateSeq hS' rfl (wpAny_bind (wpAny_letGo (wpAny_pure ?_)))
      have s1 := Heap.SameBut.update h' S (Obj.mapSeq fun _ => (#[] : Array Value))
      exact ⟨pr.1, H, fp_turned (t' := s.toks) I1 fS (fun b o hb e => (s1.2 b hb).trans e), ru, f1 pr.1 pr.2 H hW⟩
  | succ m ih =>
    intro i o H s c its hm hi I fI fS st hS hr hW
    have hlt : i < xs.length := by omega
    obtain ⟨us, rv, p, hz⟩ := I.list (hl i o H hW)
    obtain ⟨x, hx⟩ : ∃ x, xs[i]? = some x := ⟨_, List.getElem?_eq_getElem hlt⟩
    obtain ⟨u, hu, ru⟩ := rv.get hx
    refine codeAny_builtin PySem.F.entry_min_loop ?_
    rw [Around.under_plainId PySem.F.plain_min_loop _]
    show wpAny _ X.A.in1 (seqItems? (.ref S) >>= _) _ _ _
    refine wpAny_bind (wpAny_seqItems hS rfl ?_)
    show wpAny _ X.A.in1 (tryCatch (pyNext (.ref it)) _ >>= _) _ _ _
    refine wpAny_bind (wpAny_tryCatch (wpAny_pyNext_list_item st p.isList (x := u) (by simpa using hu) fun h' st' sb => ?_))
    have I1 : Inv X pins σ H { s with heap := h' } := fp_turned (t' := s.toks) I fI (fun b o hb e => (sb.2 b hb).trans e)
    have hS1 : h'.get? S = some (seqObj "list" its c) := (sb.2 S hne).trans hS
    have I2 := (inv_inn I1).pinned (fp := [it, S]) (fun b hb => by
      rcases List.mem_cons.mp hb with e | hb
      · subst e; exact fI
      · have e : b = S := by simpa using hb
        subst e; exact fS) (ob_two st' hS1)
    have qy := hk i o x H hx hW
    have I3 := I2
    have ry := ru
    obtain ⟨oI, hoI, hcI, hdI⟩ := id st'
    have pI := pin_get I3 (fp := [it, S]) (by simp) hoI
    have pS := pin_get I3 (fp := [it, S]) (by simp) hS1
    have I3' := inv_out I3.unpinned
    have fI2 : FpOk X pins H it := ⟨pI.2, fI.2⟩
    have fS2 : FpOk X pins H S := ⟨pS.2, fS.2⟩
    have st2 : h'.IsListIter it l (i + 1) := ⟨oI, pI.1, hcI, hdI⟩
    cases o with
    | none =>
      obtain rfl : its = #[] := hr
      show wpAny _ X.A.in1 (updateSeq S (fun _ => #[u, u]) >>= _) _ _ _
      refine wpAny_bind ?_
      refine wpAny_updateSeq pS.1 rfl ?_
      rw [hname]
      have s1 := Heap.SameBut.update h' S (Obj.mapSeq fun _ => #[u, u])
      refine wpAny_pure ⟨plainId_quiet PySem.F.plain_min_loop _, ih (i + 1) (some (x, x)) H _ _ _ (by omega) hlt (fp_turned (t' := s.toks) I3' fS2 (fun b o hb e => (s1.2 b hb).trans e)) fI2 fS2 ⟨oI, (s1.2 it hne.symm).trans pI.1, hcI, hdI⟩
        (get?_update_seq pS.1 fun _ => #[u, u]) ⟨u, u, rfl, ru, ry⟩ qy⟩
    | some pr =>
      obtain ⟨u0, w0, rfl, ru0, rw0⟩ := hr
      show wpAny _ X.A.in1 (tryCatch (holding [u, u] (richCompare .Lt u w0 >>= _)) _ >>= _) _ _ _
      refine wpAny_bind (wpAny_tryCatch (wpAny_holding (wpAny_bind (wpAny_mono (hop _ _ σ H x pr.2 u w0 _ I3 ry rw0 qy) (fun b s3 h3 => ?_) fun _ _ z => False.elim z))))
      obtain ⟨bv, H3, I4, rb, cc, rfl, hW3⟩ := h3
      obtain rfl : b = .bool cc := rb
      refine wpAny_bind (wpAny_holding (wpAny_truthy_bool ?_))
      refine wpAny_bind (wpAny_letGo (wpAny_pure ?_))
      have qI := pin_get I4 (fp := [it, S]) (by simp) hoI
      have qS := pin_get I4 (fp := [it, S]) (by simp) hS1
      have I4' := inv_out I4.unpinned
      have fI3 : FpOk X pins H3 it := ⟨qI.2, fI.2⟩
      have fS3 : FpOk X pins H3 S := ⟨qS.2, fS.2⟩
      cases cc with
      | true =>
        simp only [if_true]
        refine wpAny_bind ?_
        refine wpAny_updateSeq qS.1 rfl (wpAny_bind (wpAny_letGo ?_))
        rw [hname]
        have s1 := Heap.SameBut.update s3.heap S (Obj.mapSeq fun _ => #[u, u])
        refine wpAny_pure ⟨plainId_quiet PySem.F.plain_min_loop _, ih (i + 1) (some (x, x)) H3 _ _ _ (by omega) hlt (fp_turned (t' := s3.toks) I4' fS3 (fun b o hb e => (s1.2 b hb).trans e)) fI3 fS3 ⟨oI, (s1.2 it hne.symm).trans qI.1, hcI, hdI⟩
          (get?_update_seq qS.1 fun _ => #[u, u]) ⟨u, u, rfl, ru, ry⟩ hW3⟩
      | false =>
        simp only [Bool.false_eq_true, if_false]
        refine wpAny_bind (wpAny_letGo ?_)
        rw [hname]
        exact wpAny_pure ⟨plainId_quiet PySem.F.plain_min_loop _, ih (i + 1) (some pr) H3 _ _ _ (by omega) hlt I4' fI3 fS3 ⟨oI, qI.1, hcI, hdI⟩ qS.1 ⟨u0, w0, rfl, ru0, rw0⟩ hW3⟩
theorem args_min_dflt (a d : Value) : argsOk "min" ⟨[a], [(Str.ofString "default", d)]⟩ := by unfold argsOk; kernel_rfl
theorem run_min_dflt (hc : X.calm = true) {r : R2} (hop : OpR (inn X) (compareOp .Lt) r) {Q : VK} {l : Addr} {xs : List V} {dv : V} {d : Value} {H : Hp} {s : Shared} (I : Inv X pins σ H s) (W : Nat → Option (V × V) → Hp → Prop) (w0 : W 0 none H) (hl : ∀ i o H, W i o H → SqL X.K H l xs)
    (hk : ∀ i o x H, xs[i]? = some x → W i o H → After r W i o x x H) (hd : RelV dv d) (f0 : ∀ H, W xs.length none H → Q dv H) (f1 : ∀ x y H, W xs.length (some (x, y)) H → Q x H) :
    wpAny (model X.prog X.w) X.A (call (.builtin "min") [.ref l] [(Str.ofString "default", d)]) (EP X pins σ Q) X.xe s := by
  have hname : (toString "min" ++ toString ".loop" : String) = "min.loop" := by decide
  obtain ⟨us, rv, p, hz⟩ := I.list (hl 0 none H w0)
  refine kmk_tree PySem.F.kind_min PySem.F.plain_min PySem.F.entry_min (args_min_dflt _ _) ?_
  show wpAny _ X.A.in1 (Builtin.Builtins.bindParams "min" ["key", "default"] 0 ⟨[], [(Str.ofString "default", d)]⟩ >>= _) _ _ s
  refine wpAny_bind (wpAny_of_eq (show Builtin.Builtins.bindParams "min" ["key", "default"] 0 ⟨[], [(Str.ofString "default", d)]⟩ = pure [none, some d] from rfl) ?_)
  refine wpAny_bind (wpAny_pure ?_)
  refine wpAny_bind (wpAny_pyIter_list p.isList ?_)
  refine wpAny_bind (wpAny_newList ?_ (Nat.zero_le _))
  rw [hname]
  have I1 : Inv X pins σ H { s with heap := s.heap.push { cls := .type "list_iterator", data := .fields #[.ref l, .int 0 0] } } := I.kept (t' := s.toks) fun b o e => Heap.get?_push_of_some _ e
  have I2 : Inv X pins σ H { s with heap := (s.heap.push { cls := .type "list_iterator", data := .fields #[.ref l, .int 0 0] }).push (seqObj "list" #[] 0) } := I1.kept (t' := s.toks) fun b o e => Heap.get?_push_of_some _ e
  have hS : (s.heap.push { cls := .type "list_iterator", data := .fields #[.ref l, .int 0 0] }).objs.size = s.heap.objs.size + 1 := size_push' ..
  have hne : (s.heap.push { cls := .type "list_iterator", data := .fields #[.ref l, .int 0 0] }).objs.size ≠ s.heap.objs.size := by rw [hS]; exact Nat.ne_of_gt (Nat.lt_succ_self _)
  refine wpAny_pure ⟨plainId_quiet PySem.F.plain_min_loop _, ?_⟩
  refine codeAny_mono (loop_min_dflt hc hop W hl hk hd f0 f1 hne _ 0 none H _ 0 #[] rfl (Nat.zero_le _) I2 (I.fpOk (Nat.le_refl _) (I.hok.fresh (Nat.le_refl _))) (I1.fpOk (Nat.le_refl _) (I1.hok.fresh (Nat.le_refl _)))
    ⟨_, Heap.get?_push_of_some _ (Heap.get?_push_size _ rfl), rfl, rfl⟩ (Heap.get?_push_size _ rfl) rfl w0) fun r s' hq => ?_
  cases r with
  | error e => exact hq
  | ok f => cases f with
    | ret v => exact hq
    | next => exact hq
    | brk => exact hq
    | cont => exact hq
def tMin_dflt (X : Cx) (r : R2) (t tk : TA) : TE := fun σ H Q => t σ H fun vs H1 => tk σ H1 fun zs H2 => ∃ (l : Addr) (dv : V) (xs : List V) (W : Nat → Option (V × V) → Hp → Prop), vs = [.ref l] ∧ zs = [dv] ∧ W 0 none H2 ∧ (∀ i o H, W i o H → SqL X.K H l xs) ∧
  (∀ i o x H, xs[i]? = some x → W i o H → After r W i o x x H) ∧ (∀ H, W xs.length none H → Q dv H) ∧ ∀ x y H, W xs.length (some (x, y)) H → Q x H
theorem pe_min_dflt {e ed : Expr} {t tk : TA} {p pos p2 : Pos} {r : R2} (hop : OpR (inn X) (compareOp .Lt) r) (hc : X.calm = true) (hg : Gl X "min") (hm : X.mg "min" = none) (ha : PA X [e] t) (hkw : PK X [⟨some "default", ed, p2⟩] tk)
    (h1 : backTo pos (starEach [e] X.env) = (false, eval e X.env) :: backTo pos (starEach [] X.env) := by rfl) (h2 : (backTo pos (starEach [e] X.env)).any (·.1) = false := by rfl)
    (h3 : (backToKw pos (keywordEach [⟨some "default", ed, p2⟩] X.env)).all (·.1.isSome) = true := by rfl) (h4 : (backToKw pos (keywordEach [⟨some "default", ed, p2⟩] X.env)).any (·.1.isNone) = false := by rfl)
    (h5 : (backToKw pos (keywordEach [⟨some "default", ed, p2⟩] X.env)).filterMap (·.1) = [Str.ofString "default"] := by rfl) :
    PE X (.Call (.Name "min" p) [e] [⟨some "default", ed, p2⟩] pos) (tMin_dflt X r t tk) := by
  intro pins s σ H Q I h
  refine wpAny_Call_Name_kw (ld_blt I hg hm bt_min ?_)
  refine PyProof.Rows.callWith_kw (thn (ha pos pins s σ H _ I h) fun us s1 ⟨vs, H1, I1, r1, q1⟩ => thn (hkw pos pins s1 σ H1 _ I1 q1) fun ws s2 ⟨zs, H2, I2, r2, z⟩ => ?_) h1 h2 h3 h4
  obtain ⟨l, dv, xs, W, e1, e2, w0, hl, hk, f0, f1⟩ := z
  subst e1 e2
  rw [h5]
  cases r1 with
  | cons ra rb =>
    cases rb
    cases ra
    cases r2 with
    | cons rc rd =>
      cases rd
      exact run_min_dflt hc hop I2 W w0 hl hk rc f0 f1
end
end Sd

set_option Elab.async false
set_option linter.all false
set_option maxRecDepth 100000
set_option maxHeartbeats 2000000
/-! ENUMERATE OF A TUPLE. -/
namespace Sd
open PySem PySem.Spec PyProof.Rows L2
open Sem (wp)
open AutoSeq1 (wpAny_loadPart')
section
variable {prog : Program} {w : World} {A : Around} {E : Value → Shared → Prop} {s : Shared}
theorem nextOf_tup_item {it l : Addr} {i : Nat} {items} {x : Value} {Q : Value → Shared → Prop} (hit : s.heap.IsTupleIter it l i)
    (hl : s.heap.IsTuple l items) (hx : items[i]? = some x)
    (hQ : ∀ h', h'.IsTupleIter it l (i + 1) → Heap.SameBut it s.heap h' → Q x { s with heap := h' }) :
    wpAny (model prog w) A (Builtin.SmallTypes.nextOf (.ref it)) Q E s := by
  obtain ⟨o, ho, hc, hd⟩ := id hit
  obtain ⟨ol, hol, _, nl, hdl⟩ := hl
  unfold Builtin.SmallTypes.nextOf
  refine wpAny_bind (wpAny_callSpecial?_slot (name := Str.ofString "__next__") hit.typeIs F.slot_tuple_iterator_next
    (wpAny_call_entry F.slot_tuple_iterator_next hit.typeIs F.entry_tuple_iterator_next ?_ (F.args_tuple_iterator_next_1 _)))
  show wpAny _ _ (field (.ref it) 0 >>= _) _ _ s
  refine wpAny_bind (wpAny_field ho hd (x := .ref l) rfl ?_)
  show wpAny _ _ (if (Value.ref l == Value.none) = true then _ else _) _ _ s
  rw [if_neg (show ¬ ((Value.ref l == Value.none) = true) from Bool.false_ne_true)]
  show wpAny _ _ (field (.ref it) 1 >>= _) _ _ s
  refine wpAny_bind (wpAny_field ho hd (x := .int i 0) rfl ?_)
  show wpAny _ _ (seqItems? (.ref l) >>= _) _ _ s
  refine wpAny_bind (wpAny_seqItems hol hdl ?_)
  simp only [Int.toNat_natCast, hx]
  refine wpAny_bind (wpAny_setField ho hd (by simp) (wpAny_pure ⟨x, rfl, wpAny_pure (hQ _ ?_ (Heap.SameBut.update ..))⟩))
  exact ⟨_, Heap.get?_update_self _ ho (Obj.isFreed_of_fields (Obj.data_mapFields hd _)), (Obj.cls_mapFields ..).trans hc, by
    rw [Obj.data_mapFields hd]; simp [rawInt]⟩

theorem nextOf_tup_end {it l : Addr} {i : Nat} {items} {Q : Value → Shared → Prop} (hh : A.handled = none)
    (hit : s.heap.IsTupleIter it l i) (hl : s.heap.IsTuple l items) (hx : items[i]? = none)
    (hE : ∀ h' e, Heap.ExtBut it s.heap h' → (∃ o, h'.get? e = some o ∧ o.cls = .type "StopIteration") → E (.ref e) { s with heap := h' }) :
    wpAny (model prog w) A (Builtin.SmallTypes.nextOf (.ref it)) Q E s := by
  obtain ⟨o, ho, hc, hd⟩ := id hit
  obtain ⟨ol, hol, _, nl, hdl⟩ := hl
  unfold Builtin.SmallTypes.nextOf
  refine wpAny_bind (wpAny_callSpecial?_slot (name := Str.ofString "__next__") hit.typeIs F.slot_tuple_iterator_next
    (wpAny_call_entry F.slot_tuple_iterator_next hit.typeIs F.entry_tuple_iterator_next ?_ (F.args_tuple_iterator_next_1 _)))
  show wpAny _ _ (field (.ref it) 0 >>= _) _ _ s
  refine wpAny_bind (wpAny_field ho hd (x := .ref l) rfl ?_)
  show wpAny _ _ (if (Value.ref l == Value.none) = true then _ else _) _ _ s
  rw [if_neg (show ¬ ((Value.ref l == Value.none) = true) from Bool.false_ne_true)]
  show wpAny _ _ (field (.ref it) 1 >>= _) _ _ s
  refine wpAny_bind (wpAny_field ho hd (x := .int i 0) rfl ?_)
  show wpAny _ _ (seqItems? (.ref l) >>= _) _ _ s
  refine wpAny_bind (wpAny_seqItems hol hdl ?_)
  simp only [Int.toNat_natCast, hx]
  refine wpAny_bind (wpAny_rule (wpAny_bind (wpAny_setField ho hd (by simp) ?_)))
  show wpAny _ _ (newExc (.type "StopIteration") [] >>= _) _ _ _
  refine wpAny_bind ?_
  simp only [newExc, newTuple]
  refine wpAny_bind (wpAny_newObj_type ?_ (by size_fits))
  refine wpAny_bind (m := firstArgMember _ _) (wpAny_of_eq (a := Value.none) (by first | rfl | (simp only [firstArgMember]; rfl)) ?_)
  refine wpAny_newObj_type ?_ (by size_fits)
  simp only [raiseNew]
  refine wpAny_bind (wpAny_handled ?_)
  first | rw [show A.in1.handled = none from hh] | rw [hh]
  refine wpAny_bind (wpAny_pure (wpAny_throw ?_))
  exact hE _ _ (((Heap.SameBut.update ..).extBut.push _).push _) ⟨_, Heap.get?_push_size _ rfl, rfl⟩

theorem enumT_next_item {e it l : Addr} {i : Nat} {items : Array Value} {x old : Value} {Q : Value → Shared → Prop}
    (he : IsEnum s.heap e it i old) (hit : s.heap.IsTupleIter it l i) (hl : s.heap.IsTuple l items) (hx : items[i]? = some x) (hne : e ≠ it)
    (hQ : ∀ h', IsEnumOut h' e it ((i : Int) + 1) x s.heap.objs.size → h'.IsTupleIter it l (i + 1) →
      h'.get? s.heap.objs.size = some { cls := .type "tuple", data := .seq #[.int i s.toks, x] } → h'.objs.size = s.heap.objs.size + 1 →
      (∀ b o, b ≠ e → b ≠ it → s.heap.get? b = some o → h'.get? b = some o) → Q (.ref s.heap.objs.size) { s with heap := h', toks := s.toks + 1 }) :
    wpAny (model prog w) A (Builtin.«enumerate.__next__» ⟨[.ref e], []⟩) (fun fin s' => ∃ v, fin = .done (.ret v) ∧ Q v s') E s := by
  obtain ⟨hp, g, d, tk, os⟩ := s
  show wpAny _ _ (field (.ref e) 2 >>= _) _ _ _
  refine wpAny_bind (wpAny_field he rfl (x := .ref it) rfl ?_)
  refine wpAny_bind (nextOf_tup_item hit hl hx fun h₁ hit₁ hs₁ => ?_)
  replace hs₁ : Heap.SameBut it hp h₁ := hs₁
  have he₁ : IsEnum h₁ e it i old := (hs₁.2 e hne).trans he
  show wpAny _ _ (field (.ref e) 3 >>= _) _ _ ⟨h₁, g, d, tk, os⟩
  refine wpAny_bind (wpAny_field he₁ rfl (x := rawInt i) rfl ?_)
  show wpAny _ _ (field (.ref e) 4 >>= _) _ _ ⟨h₁, g, d, tk, os⟩
  refine wpAny_bind (wpAny_field he₁ rfl (x := .none) rfl ?_)
  show wpAny _ _ (mkInt i >>= _) _ _ ⟨h₁, g, d, tk, os⟩
  refine wpAny_bind (wpAny_mkInt ?_)
  show wpAny _ _ (setField (.ref e) 3 (rawInt ((i : Int) + 1)) >>= _) _ _ ⟨h₁, g, d, tk + 1, os⟩
  refine wpAny_bind (wpAny_setField_rec he₁ (by simp) fun h₂ he₂ hs₂ => ?_)
  replace hs₂ : Heap.SameBut e h₁ h₂ := hs₂
  replace he₂ : IsEnum h₂ e it ((i : Int) + 1) old := he₂
  show wpAny _ _ (setField (.ref e) 4 .none >>= _) _ _ ⟨h₂, g, d, tk + 1, os⟩
  refine wpAny_bind (wpAny_setField_rec he₂ (by simp) fun h₃ he₃ hs₃ => ?_)
  replace hs₃ : Heap.SameBut e h₂ h₃ := hs₃
  replace he₃ : IsEnum h₃ e it ((i : Int) + 1) old := he₃
  show wpAny _ _ (newTuple [.int i tk, x] >>= _) _ _ ⟨h₃, g, d, tk + 1, os⟩
  refine wpAny_bind (wpAny_newTuple ?_)
  have he₄ : IsEnum (h₃.push { cls := .type "tuple", data := .seq #[.int i tk, x] }) e it ((i : Int) + 1) old := Heap.get?_push_of_some _ he₃
  generalize hh₄ : h₃.push { cls := .type "tuple", data := .seq #[.int i tk, x] } = h₄ at he₄
  have hsz : h₃.objs.size = hp.objs.size := by rw [hs₃.1, hs₂.1, hs₁.1]
  have hel : e < hp.objs.size := Heap.lt_size he
  have ht₄ : h₄.get? hp.objs.size = some { cls := .type "tuple", data := .seq #[.int i tk, x] } := by rw [← hh₄, ← hsz]; exact Heap.get?_push_size _ rfl
  have hz₄ : h₄.objs.size = hp.objs.size + 1 := by rw [← hh₄, Heap.size_push, hsz]
  have hk₄ : ∀ b o, b ≠ e → b ≠ it → hp.get? b = some o → h₄.get? b = some o := fun b o hbe hbi hb => by
    rw [← hh₄]; exact Heap.get?_push_of_some _ (hs₃.extBut b o hbe (hs₂.extBut b o hbe (hs₁.extBut b o hbi hb)))
  have hit₄ : h₄.IsTupleIter it l (i + 1) := by
    rw [← hh₄]; obtain ⟨o, ho, r⟩ := (hit₁.extBut hs₂.extBut (Ne.symm hne)).extBut hs₃.extBut (Ne.symm hne); exact ⟨o, Heap.get?_push_of_some _ ho, r⟩
  show wpAny _ _ (Builtin.SmallTypes.ownedTupleIsFree (.ref e) >>= _) _ _ ⟨h₄, g, d, tk + 1, os⟩
  rw [hsz]
  clear hh₄ he₃ hs₃ he₂ hs₂ he₁ hs₁ hit₁ hsz h₃ h₂ h₁
  refine wpAny_bind ?_
  · unfold Builtin.SmallTypes.ownedTupleIsFree
    refine wpAny_bind (wpAny_field he₄ rfl (x := .none) rfl (wpAny_pure ?_))
    simp only [if_true]
    refine wpAny_bind (wpAny_rule ?_)
    refine wpAny_bind (wpAny_field he₄ rfl (x := old) rfl ?_)
    refine wpAny_bind (wpAny_setField_rec he₄ (by simp) fun h₅ he₅ hs₅ => ?_)
    replace hs₅ : Heap.SameBut e h₄ h₅ := hs₅
    replace he₅ : IsEnum h₅ e it ((i : Int) + 1) x := he₅
    show wpAny _ _ (Builtin.SmallTypes.ownedTupleHandOut (.ref e) (.ref hp.objs.size) >>= _) _ _ ⟨h₅, g, d, tk + 1, os⟩
    refine wpAny_bind ?_
    · unfold Builtin.SmallTypes.ownedTupleHandOut
      refine wpAny_bind (wpAny_setField_rec he₅ (by simp) fun h₆ he₆ hs₆ => ?_)
      replace hs₆ : Heap.SameBut e h₅ h₆ := hs₆
      replace he₆ : IsEnumOut h₆ e it ((i : Int) + 1) x hp.objs.size := he₆
      refine wpAny_setField_rec he₆ (by simp) fun h₇ he₇ hs₇ => ?_
      replace hs₇ : Heap.SameBut e h₆ h₇ := hs₇
      replace he₇ : IsEnumOut h₇ e it ((i : Int) + 1) x hp.objs.size := he₇
      refine wpAny_bind (wpAny_letGo (wpAny_pure ⟨_, rfl, hQ h₇ he₇ ?_ ?_ ?_ ?_⟩))
      · exact ((hit₄.extBut hs₅.extBut (Ne.symm hne)).extBut hs₆.extBut (Ne.symm hne)).extBut hs₇.extBut (Ne.symm hne)
      · exact hs₇.extBut _ _ (Nat.ne_of_gt hel) (hs₆.extBut _ _ (Nat.ne_of_gt hel) (hs₅.extBut _ _ (Nat.ne_of_gt hel) ht₄))
      · rw [hs₇.1, hs₆.1, hs₅.1, hz₄]
      · exact fun b o hbe hbi hb => hs₇.extBut b o hbe (hs₆.extBut b o hbe (hs₅.extBut b o hbe (hk₄ b o hbe hbi hb)))

theorem pyNext_enumT_item {e it l : Addr} {i : Nat} {items : Array Value} {x old : Value} {Q : Option Value → Shared → Prop}
    (he : IsEnum s.heap e it i old) (hit : s.heap.IsTupleIter it l i) (hl : s.heap.IsTuple l items) (hx : items[i]? = some x) (hne : e ≠ it)
    (hQ : ∀ h', IsEnumOut h' e it ((i : Int) + 1) x s.heap.objs.size → h'.IsTupleIter it l (i + 1) →
      h'.get? s.heap.objs.size = some { cls := .type "tuple", data := .seq #[.int i s.toks, x] } → h'.objs.size = s.heap.objs.size + 1 →
      (∀ b o, b ≠ e → b ≠ it → s.heap.get? b = some o → h'.get? b = some o) → Q (some (.ref s.heap.objs.size)) { s with heap := h', toks := s.toks + 1 }) :
    wpAny (model prog w) A (pyNext (.ref e)) Q E s := by
  have hT : s.TypeIs (.ref e) "enumerate" := ⟨_, he, rfl⟩
  unfold pyNext
  exact wpAny_bind (wpAny_attempt (wpAny_callSpecial?_slot (name := Str.ofString "__next__") hT F.slot_enumerate_next
    (wpAny_call_entry F.slot_enumerate_next hT F.entry_enumerate_next
      (enumT_next_item he hit hl hx hne fun h' a b c d k => wpAny_pure (hQ h' a b c d k)) (F.args_enumerate_next_1 _))))

theorem pyNext_enumT_end {e it l : Addr} {i : Nat} {items : Array Value} {old : Value} {Q : Option Value → Shared → Prop} (hh : A.handled = none)
    (he : IsEnum s.heap e it i old) (hit : s.heap.IsTupleIter it l i) (hl : s.heap.IsTuple l items) (hx : items[i]? = none)
    (hQ : ∀ h', Heap.ExtBut it s.heap h' → Q none { s with heap := h' }) : wpAny (model prog w) A (pyNext (.ref e)) Q E s := by
  have hT : s.TypeIs (.ref e) "enumerate" := ⟨_, he, rfl⟩
  unfold pyNext
  refine wpAny_bind (wpAny_attempt (wpAny_callSpecial?_slot (name := Str.ofString "__next__") hT F.slot_enumerate_next
    (wpAny_call_entry F.slot_enumerate_next hT F.entry_enumerate_next ?_ (F.args_enumerate_next_1 _))))
  show wpAny _ _ (field (.ref e) 2 >>= _) _ _ _
  refine wpAny_bind (wpAny_field he rfl (x := .ref it) rfl ?_)
  refine wpAny_bind (nextOf_tup_end hh hit hl hx fun h' x he' hx' => ?_)
  obtain ⟨o, ho, hc⟩ := hx'
  refine wpAny_bind (wpAny_isInstance (T := "StopIteration") (b := true) ⟨o, ho, hc⟩ isSubtype_stop ?_)
  exact wpAny_pure (hQ _ he')
end
theorem meets_enumerate_newT (l : Addr) (items : Array Value) (n : Nat) (dct : Option Addr) (sl : Array (Option Value)) :
    Meets (Builtin.«enumerate.__new__» ⟨[.type "enumerate", .ref l], []⟩) (fun _ R s => s.heap.get? l = some { cls := .type "tuple", dict := dct, data := .seq items n, slots := sl } ∧
      R (.ok (.ret (.ref (s.heap.push { cls := .type "tuple_iterator", data := .fields #[.ref l, .int 0 0] }).objs.size)))
        { s with heap := (s.heap.push { cls := .type "tuple_iterator", data := .fields #[.ref l, .int 0 0] }).push { cls := .type "enumerate", data := .fields #[.none, .bool false, .ref s.heap.objs.size, rawInt 0, .none, .none] } }) :=
  .of_wp fun prog w A R s h => by
    obtain ⟨hp, g, d, tk, os⟩ := s; obtain ⟨hl, h⟩ := h
    have hsub := sub_enumerate
    have hL : Heap.IsTuple (Shared.heap ⟨hp, g, d, tk, os⟩) l items := ⟨_, hl, rfl, n, rfl⟩
    wp_walk using wpAny_loadPart' hl
    refine wpAny_stack_any fun st => wpAny_pure ?_
    split
    · rename_i c _ _ _ _ _
      cases (c == Value.type "enumerate")
      · wp_walk using wpAny_loadPart' hl, wpAny_pyIter_tuple hL
        exact ⟨_, rfl, h⟩
      · wp_walk using wpAny_loadPart' hl, wpAny_pyIter_tuple hL
        exact ⟨_, rfl, h⟩
    · wp_walk using wpAny_loadPart' hl, wpAny_pyIter_tuple hL
      exact ⟨_, rfl, h⟩

section
variable {prog : Program} {w : World} {A : Around} {E : Value → Shared → Prop} {s : Shared}
theorem call_enumerate_tuple {l : Addr} {items : Array Value} {Q : Value → Shared → Prop} (hL : s.heap.IsTuple l items)
    (h : ∀ h', IsEnum h' (s.heap.objs.size + 1) s.heap.objs.size 0 .none → h'.IsTupleIter s.heap.objs.size l 0 → h'.objs.size = s.heap.objs.size + 2 →
      (∀ b o, s.heap.get? b = some o → h'.get? b = some o) → Q (.ref (s.heap.objs.size + 1)) { s with heap := h' }) :
    wpAny (model prog w) A (call (.type "enumerate") [.ref l]) Q E s := by
  obtain ⟨⟨c, dct, dt, sl⟩, hl, hc, n, hd⟩ := hL
  replace hc : c = .type "tuple" := hc
  replace hd : dt = .seq items n := hd
  subst hc hd
  refine callType_new F.called_enumerate (by decide) (F.typeCall_enumerate_1 _) (F.newCall_enumerate_1 _) (fun obj => F.args_object_init_2 obj _) F.entry_enumerate_new
    (meets_enumerate_newT l items n dct sl) ⟨hl, ?_⟩
  have hz : (s.heap.push { cls := .type "tuple_iterator", data := .fields #[.ref l, .int 0 0] }).objs.size = s.heap.objs.size + 1 := Heap.size_push ..
  show _ ∧ _
  rw [hz]
  have he : IsEnum ((s.heap.push { cls := .type "tuple_iterator", data := .fields #[.ref l, .int 0 0] }).push
      { cls := .type "enumerate", data := .fields #[.none, .bool false, .ref s.heap.objs.size, rawInt 0, .none, .none] }) (s.heap.objs.size + 1) s.heap.objs.size 0 .none := by
    have := Heap.get?_push_size (s.heap.push { cls := .type "tuple_iterator", data := .fields #[.ref l, .int 0 0] })
      (o := { cls := .type "enumerate", data := .fields #[.none, .bool false, .ref s.heap.objs.size, rawInt 0, .none, .none] }) rfl
    rw [hz] at this; exact this
  refine ⟨⟨_, he, rfl⟩, h _ he ⟨_, Heap.get?_push_of_some _ (Heap.get?_push_size _ rfl), rfl, rfl⟩ (by rw [Heap.size_push, hz]) fun b o x => Heap.get?_push_of_some _ (Heap.get?_push_of_some _ x)⟩

end
/-- the list at a as it stands at each turn, each item in a new pair -/
def IteT (K : PySem.W.Frag) (a : Addr) : It :=
  ⟨fun i H => ∃ (xs : List V) (x : V), SqT K H a xs ∧ xs[i]? = some x, fun i H v H' => ∃ T x, v = .ref T ∧ H T = none ∧ H' = upd H T (.tup [.int (i : Nat), x]) ∧ ∀ xs, SqT K H a xs → xs[i]? = some x, fun i H => ∃ xs : List V, SqT K H a xs ∧ xs.length ≤ i⟩
theorem turn_enumT {P : Program} {w : World} {K : PySem.W.Frag} {elts : List Expr} {kk : Nat} {tpos : Pos} (a e it : Addr) :
    Turn P w K (.Tuple elts kk tpos) (IteT K a) [e, it] e (fun i h => (∃ old, IsEnum h e it ((i : Nat) : Int) old) ∧ h.IsTupleIter it a i ∧ e ≠ it) where
  mem := by simp
  obj := fun i h st b hb => by
    obtain ⟨⟨old, he⟩, ⟨o, ho, hc, hd⟩, _⟩ := st
    have e' : b = e ∨ b = it := by simpa using hb
    rcases e' with z | z
    · rw [z]; exact ⟨_, he, fun v q => nomatch q⟩
    · rw [z]; exact ⟨o, ho, fun v q => by rw [hd] at q; cases q⟩
  keep := fun i h h' st k => let ⟨⟨old, he⟩, hi, hne⟩ := st; ⟨⟨old, k e (by simp) _ he⟩, hi.at fun o q => k it (by simp) o q, hne⟩
  item := by
    intro X hP hw hK hc i pins s σ H E I hf st hg
    subst hP hw hK
    obtain ⟨⟨old, he⟩, hit, hne⟩ := st
    obtain ⟨xs, x, hq, hx⟩ := hg
    obtain ⟨its, rv, p, hz⟩ := I.tuple hq
    obtain ⟨u, hu, ru⟩ := rv.get hx
    have hel : e < s.heap.objs.size := Heap.lt_size he
    have hil : it < s.heap.objs.size := by obtain ⟨_, q, _⟩ := hit; exact Heap.lt_size q
    refine pyNext_enumT_item he hit (show s.heap.IsTuple a its.toArray from p) (x := u) (by simpa using hu) hne fun h' ho hit' hT hsz hk => ?_
    refine ⟨_, rfl, wpAny_letOwnedTupleGo_enum (s := { s with heap := h', toks := s.toks + 1 }) ho fun h'' he' sb => ?_⟩
    have hT2 : h''.get? s.heap.objs.size = some { cls := .type "tuple", data := .seq #[.int i s.toks, u] } := (sb.2 _ (Nat.ne_of_gt hel)).trans hT
    have new : ObjOk X.prog X.w (upd H s.heap.objs.size (.tup [.int (i : Nat), x])) h'' s.heap.objs.size (.tup [.int (i : Nat), x]) :=
      ⟨by show 2 ≤ sizeLine; decide, [.int i s.toks, u], .cons ⟨_, rfl⟩ (.cons ru .nil), ⟨_, hT2, rfl, _, rfl⟩⟩
    have I1 : Inv X pins σ (upd H s.heap.objs.size (.tup [.int (i : Nat), x])) { s with heap := h'', toks := s.toks + 1 } :=
      I.turnedNew (ch := [e, it]) (fun b ob hb q => (sb.2 b (fun z => hb (by simp [z]))).trans (hk b ob (fun z => hb (by simp [z])) (fun z => hb (by simp [z])) q)) hf (Nat.le_refl _) new
    refine ⟨.ref s.heap.objs.size, _, I1, rfl, ⟨_, x, rfl, I.hok.fresh (Nat.le_refl _), rfl, fun ys hy => by rw [I.tuple_inj hy hq]; exact hx⟩, ⟨⟨u, ?_⟩, hit'.at fun o q => (sb.2 it (Ne.symm hne)).trans q, hne⟩, fun b hb => ?_⟩
    · have e1 : ((i + 1 : Nat) : Int) = (i : Int) + 1 := by omega
      rw [e1]; exact he'
    · have hb' : b < s.heap.objs.size := by
        have e' : b = e ∨ b = it := by simpa using hb
        rcases e' with z | z
        · rw [z]; exact hel
        · rw [z]; exact hil
      rw [upd_ne (Nat.ne_of_lt hb')]
      exact (hf b hb).1
  done := by
    intro X hP hw hK hc i pins s σ H E I hf st hg
    subst hP hw hK
    obtain ⟨⟨old, he⟩, hit, hne⟩ := st
    obtain ⟨xs, hq, hx⟩ := hg
    obtain ⟨its, rv, p, hz⟩ := I.tuple hq
    obtain ⟨f0, f1, f2, f3, f4, f5⟩ := hf it (by simp)
    have hl := rv.length
    exact pyNext_enumT_end (I.ok.hd hc) he hit (show s.heap.IsTuple a its.toArray from p) (by simp; omega) fun h' eb => ⟨rfl, I.turned (t' := s.toks) (fun b o hb q => eb b o hb q) f0 f1 f3 f4 f5⟩
  self := fun A i s Q E st h => let ⟨⟨_, he⟩, _⟩ := st; wpAny_pyIter_enum he h
def iEnumT (K : PySem.W.Frag) (ta : TA) : TI := fun σ H R => ta σ H fun vs H1 => ∃ a xs, vs = [.ref a] ∧ SqT K H1 a xs ∧ R (IteT K a) H1
theorem pi_enumT {X : Cx} {e : Expr} {ta : TA} {p pos tpos : Pos} {elts : List Expr} {kk : Nat} (hg : Gl X "enumerate") (hm : X.mg "enumerate" = none) (ha : PA X [e] ta) (hs : starEach [e] X.env = [(false, eval e X.env)] := by rfl) :
    PI X (.Tuple elts kk tpos) (.Call (.Name "enumerate" p) [e] [] pos) (iEnumT X.K ta) := by
  intro pins s σ H R I h
  refine Call_ (ld_blt I hg hm boot_enumerate (PyProof.Rows.callWith_type1 (thn (ha pos pins s σ H _ I h) fun us s1 ⟨vs, H1, I1, r1, q1⟩ => ?_) hs rfl))
  obtain ⟨a, xs, ex, hq, q⟩ := q1
  subst ex
  cases r1 with
  | cons r rr =>
    cases rr
    cases r
    obtain ⟨its, rv, p', hz⟩ := I1.tuple hq
    refine call_enumerate_tuple (show s1.heap.IsTuple a its.toArray from p') fun h' he hit hsz hk => wpAny_pyIter_enum he ?_
    have I2 : Inv X pins σ H1 { s1 with heap := h' } := I1.kept (t' := s1.toks) hk
    refine ⟨s1.heap.objs.size + 1, [s1.heap.objs.size + 1, s1.heap.objs.size], _, _, H1, rfl, I2, turn_enumT a (s1.heap.objs.size + 1) s1.heap.objs.size, ⟨⟨.none, he⟩, hit, Nat.succ_ne_self _⟩, fun b hb => ?_, q⟩
    have e' : b = s1.heap.objs.size + 1 ∨ b = s1.heap.objs.size := by simpa using hb
    have hle : s1.heap.objs.size ≤ b := by
      rcases e' with z | z
      · rw [z]; exact Nat.le_add_right _ _
      · rw [z]; exact Nat.le_refl _
    exact I1.fpOk hle (I1.hok.fresh hle)
end Sd

set_option Elab.async false
set_option linter.all false
set_option maxRecDepth 100000
set_option maxHeartbeats 2000000
/-! A DEF WITHIN A DEF: the code's table, the def made, the def called. -/
namespace Sd
open PySem PySem.Spec PyProof.Rows L2
/-- a code object -/
def CodeO (c : Addr) (qual : Str) : HO := .ext fun h => h.CodeRec (.ref c) qual
/-- a def that was made in a def -/
def FnO (f : Addr) (name qual : Str) (params : Arguments) (body : List Stmt) (scope : Scope) (clos : List (Str × Addr)) (pm : Value) (c : Addr) : HO := .ext fun h => ∃ doc ctv, h.get? f = some (PySem.W.fnMade name qual params body scope clos doc pm c ctv)
theorem codeO_ok {P : Program} {w : World} {H : Hp} {h : Heap} {c : Addr} {qual : Str} (e : h.CodeRec (.ref c) qual) : ObjOk P w H h c (CodeO c qual) := by
  refine ⟨e, ?_, fun h1 h2 q k => ?_⟩
  · obtain ⟨c', o, vs, t, e1, e2, _⟩ := e
    cases e1
    exact ⟨o, e2⟩
  · obtain ⟨c', o, vs, t, e1, e2, r⟩ := q
    cases e1
    exact ⟨c, o, vs, t, rfl, k o e2, r⟩
theorem fnO_ok {P : Program} {w : World} {H : Hp} {h : Heap} {f c : Addr} {name qual : Str} {params : Arguments} {body : List Stmt} {scope : Scope} {clos : List (Str × Addr)} {pm doc ctv : Value} (e : h.get? f = some (PySem.W.fnMade name qual params body scope clos doc pm c ctv)) :
    ObjOk P w H h f (FnO f name qual params body scope clos pm c) :=
  ⟨⟨doc, ctv, e⟩, ⟨_, e⟩, fun h1 h2 ⟨d, t, q⟩ k => ⟨d, t, k _ q⟩⟩
/-- the table of the code that holds the inner def's: still empty, or with that one's code -/
def TabOk (PT : Addr) (pos : Pos) (qual : Str) (H : Hp) : Prop := ∃ ps, H PT = some (.tbl ps) ∧ (ps = #[] ∨ ∃ c, ps = #[rawInt pos.line, rawInt pos.col, .ref c] ∧ H c = some (CodeO c qual))
theorem TabOk.same {PT : Addr} {pos : Pos} {qual : Str} {H H' : Hp} (s : Same H H') (h : TabOk PT pos qual H) : TabOk PT pos qual H' := by
  obtain ⟨ps, e, h⟩ := h
  refine ⟨ps, s _ _ e, ?_⟩
  rcases h with h | ⟨c, h1, h2⟩
  · exact .inl h
  · exact .inr ⟨c, h1, s _ _ h2⟩
/-- .. behind a change of an instance, or of a list -/
theorem TabOk.but {PT W : Addr} {pos : Pos} {qual : Str} {H H' : Hp} (b : But W H H') (n1 : ∀ ps, H W ≠ some (.tbl ps)) (n2 : ∀ φ, H W ≠ some (.ext φ)) (h : TabOk PT pos qual H) : TabOk PT pos qual H' := by
  obtain ⟨ps, e, h⟩ := h
  refine ⟨ps, b _ _ e (fun z => n1 ps (by rw [← z]; exact e)), ?_⟩
  rcases h with h | ⟨c, h1, h2⟩
  · exact .inl h
  · exact .inr ⟨c, h1, b _ _ h2 (fun z => n2 _ (by rw [← z]; exact h2))⟩
/-- where the built-in names come from -/
def Bm (mg : Str → Option Value) (base : Heap) : Prop := ∃ bm ob, mg "__builtins__" = some (.ref bm) ∧ bm ≠ builtinsNs ∧ base.get? bm = some ob ∧ ob.cls = .type "module" ∧ ob.dict = some builtinsNs ∧ ob.data = .plain

/-- def name(..): .. -/
def tNest (PT : Addr) (pos : Pos) (name qual : Str) (params : Arguments) (body : List Stmt) (scope : Scope) (clos : List (Str × Addr)) (i : Nat) : TS := fun D σ H => TabOk PT pos qual H ∧
  ∀ (f c : Addr) (pm : Value) (H' : Hp), H f = none → H' f = some (FnO f name qual params body scope clos pm c) → H' c = some (CodeO c qual) → But PT H H' → TabOk PT pos qual H' → D.nx (σ.set i (some (.ref f))) H'
theorem ps_nest {X : Cx} {i : Nat} {c0 PT : Addr} {name qual : Str} {params : Arguments} {body : List Stmt} {scope : Scope} {clos : List (Str × Addr)} {pos : Pos}
    (hN : X.N.Nodup) (hi : X.N[i]? = some name) (hx : Loc X.env.scope name) (hcode : X.env.code = .ref c0) (hcd : PySem.W.codeHdIn X.K c0 PT = true) (hB : Bm X.mg X.base) (hcl : closureFor scope X.env = pure clos)
    (hq : qualnameIn X.env name name = qual) (hd0 : params.defaults = [] := by rfl) (hk0 : params.kw_defaults = [] := by rfl) (ha : annTrees params none X.env = [] := by rfl)
    (hf : X.fn name = true ∨ X.env.scope.names.lookup name = some .local := by first | exact .inl rfl | exact .inr rfl) :
    PS X (.FunctionDef name params body [] none [] scope none name pos) (tNest PT pos name qual params body scope clos i) := by
  intro pins s σ H D I h
  obtain ⟨⟨ps, hP, hps⟩, k⟩ := h
  refine PySem.W.nestDef_K hd0 hk0 ha ?_
  rw [hq]
  have hPo : s.heap.get? PT = some (PySem.W.tabObj ps) := I.hok PT _ hP
  have C := PySem.W.codeHd_of_K I.kIn hcd
  have hg : s.heap.Ns mainGlobals X.mg := I.mod.glob.keeps I.bk
  have hgP : mainGlobals ≠ PT := fun q => by
    obtain ⟨o, es, ep, e, hd, _⟩ := hg
    rw [q, hPo] at e
    cases e
    cases hd
  obtain ⟨bm, ob, b1, b2, b3, b4, b5, b6⟩ := hB
  have hbG : bm ≠ mainGlobals := fun q => by
    obtain ⟨o, es, ep, e, hd, _⟩ := hg
    rw [← q, I.bk _ _ b3] at e
    cases e
    rw [b6] at hd
    cases hd
  have hbP : bm ≠ PT := fun q => by
    have := (I.bs _ _ b3).2
    rw [q, hP] at this
    cases this
  have BA : s.heap.BuiltinsAt X.mg PT := ⟨bm, ob, b1, b2, hbG, hbP, I.bk _ _ b3, b4, b5, b6⟩
  rcases hps with rfl | ⟨c, rfl, hc⟩
  · refine PySem.W.makeFunction_K (mg := X.mg) hcl I.ok.glob hg hcode C hPo trivial rfl hgP BA fun c' ctv doc h' tk hx' hge hlt hrec htb => ?_
    have nc : H c' = none := I.hok.fresh hge
    have hPl : PT < s.heap.objs.size := Heap.lt_size hPo
    have hPc : PT ≠ c' := Nat.ne_of_lt (Nat.lt_of_lt_of_le hPl hge)
    have hsz : s.heap.objs.size ≤ h'.objs.size := Nat.le_trans hge (Nat.le_of_lt hlt)
    have htb' : h'.get? PT = some (PySem.W.tabObj #[rawInt pos.line, rawInt pos.col, .ref c']) := by simpa using htb
    have old : ∀ b o, H b = some o → b ≠ PT → upd (upd H PT (.tbl #[rawInt pos.line, rawInt pos.col, .ref c'])) c' (CodeO c' qual) b = some o := fun b o e hb => by
      rw [upd_ne (ne_of_none e nc), upd_ne hb]
      exact e
    have I1 : Inv X pins σ (upd (upd H PT (.tbl #[rawInt pos.line, rawInt pos.col, .ref c'])) c' (CodeO c' qual)) { s with heap := h', toks := tk } := by
      refine I.step (g' := s.gens) (d' := s.drawn) (ch := []) (fun _ z => nomatch z) (fun b o _ _ _ e n => ?_) (fun b o _ _ _ e n => ⟨o.slots, ?_⟩) (fun b o _ e n => ?_) (fun b o _ e => ?_) (fun b xs e => ?_) (fun b o u e => ?_) (fun b qs e => ?_) (fun m hm => ?_) (fun b u e => ?_) I.bare
      · exact hx' b o (fun z => by rw [z, hP] at n; cases n) e
      · exact hx' b o (fun z => by rw [z, hP] at n; cases n) e
      · rw [upd_ne (Nat.ne_of_lt (Nat.lt_of_lt_of_le (Heap.lt_size e) hge)), upd_ne (fun z => by rw [z, hP] at n; cases n)]
        exact n
      · by_cases hb : b = PT
        · rw [hb]; exact ⟨_, htb'⟩
        · exact ⟨o, hx' b o hb e⟩
      · exact old b _ e (fun z => by rw [z, hP] at e; cases e)
      · exact old b _ e (fun z => by rw [z, hP] at e; cases e)
      · by_cases hb : b = PT
        · rw [hb, hP] at e
          cases e
          refine ⟨#[rawInt pos.line, rawInt pos.col, .ref c'], ?_⟩
          rw [hb, upd_ne hPc, upd_same]
          simp
        · exact ⟨#[], by rw [old b _ e hb]; simp⟩
      · exact hm.extBut hx' (fun z => by
          have := I.free
          rw [z, hP] at this
          cases this)
      · by_cases hbc : b = c'
        · subst hbc
          rw [upd_same] at e
          cases e
          exact codeO_ok hrec
        · rw [upd_ne hbc] at e
          by_cases hb : b = PT
          · subst hb
            rw [upd_same] at e
            cases e
            exact htb'
          · rw [upd_ne hb] at e
            refine (I.hok b u e).stay (fun c v hcc r => hx' c v ?_ r) (fun c r => old c _ r (fun z => by rw [z, hP] at r; cases r)) (fun c xs r => old c _ r (fun z => by rw [z, hP] at r; cases r))
            rcases hcc with z | z
            · rw [z]; exact hb
            · exact fun y => by rw [y, hP] at z; cases z
    have I2 := I1.laid (t' := tk) (a := h'.objs.size) (o := FnO h'.objs.size name qual params body scope clos ((X.mg "__name__").getD .none) c') (h' := h'.push (PySem.W.fnMade name qual params body scope clos doc ((X.mg "__name__").getD .none) c' ctv))
      (fun b u e => Heap.get?_push_of_some _ e) (Nat.le_refl _) (fnO_ok (Heap.get?_push_size _ rfl))
    have nf : H h'.objs.size = none := I.hok.fresh hsz
    have ncf : c' ≠ h'.objs.size := Nat.ne_of_lt hlt
    have nPf : PT ≠ h'.objs.size := Nat.ne_of_lt (Nat.lt_of_lt_of_le hPl hsz)
    refine store_ok (v := .ref h'.objs.size) I2 hN hi hx rfl (fun s' I' => ⟨_, _, I', k _ c' _ _ nf upd_same ?_ (fun b o e hb => ?_) ?_⟩) hf
    · rw [upd_ne ncf, upd_same]
    · rw [upd_ne (ne_of_none e nf)]
      exact old b o e hb
    · refine ⟨_, (upd_ne nPf).trans ((upd_ne hPc).trans upd_same), .inr ⟨c', rfl, ?_⟩⟩
      rw [upd_ne ncf, upd_same]
  · refine PySem.W.makeFunction_hit (mg := X.mg) (cv := .ref c) hcl I.ok.glob hg hcode C hPo (by simp [TriplesOk, rawInt]) (by simp [codeAmong, rawInt]) BA fun ctv doc h' tk hk' hsz => ?_
    have I1 : Inv X pins σ H { s with heap := h', toks := tk } := I.kept hk'
    have I2 := I1.laid (t' := tk) (a := h'.objs.size) (o := FnO h'.objs.size name qual params body scope clos ((X.mg "__name__").getD .none) c) (h' := h'.push (PySem.W.fnMade name qual params body scope clos doc ((X.mg "__name__").getD .none) c ctv))
      (fun b u e => Heap.get?_push_of_some _ e) (Nat.le_refl _) (fnO_ok (Heap.get?_push_size _ rfl))
    have nf : H h'.objs.size = none := I.hok.fresh hsz
    have T0 : TabOk PT pos qual H := ⟨_, hP, .inr ⟨c, rfl, hc⟩⟩
    refine store_ok (v := .ref h'.objs.size) I2 hN hi hx rfl (fun s' I' => ⟨_, _, I', k _ c _ _ nf upd_same ?_ (fun b o e _ => ?_) (T0.same (same_upd nf))⟩) hf
    · rw [upd_ne (ne_of_none hc nf)]; exact hc
    · rw [upd_ne (ne_of_none e nf)]; exact e

/-! ### the inner def's call -/
def cxClos (P : Program) (w : World) (K : PySem.W.Frag) (mg : Str → Option Value) (base : Heap) (N : List Str) (qual : Str) (scope : Scope) (f : Addr) (cd : Value) (cl : List (Str × Addr)) (A : Around) (outer : List Env) (s : Shared) (H : Hp) : Cx where
  prog := P
  w := w
  K := K
  mg := mg
  base := base
  A := A.deeper (PySem.W.envX qual scope s.heap.objs.size f cd cl)
  N := N
  s_0 := s
  H_0 := H
  env := PySem.W.envX qual scope s.heap.objs.size f cd cl
  outer := outer
  stack := PySem.W.envX qual scope s.heap.objs.size f cd cl :: outer
  ex := []
  calm := true
  fn := fun _ => false
  pn := []
  xe := fun _ _ => False
/-- one parameter, one name that is the outer def's -/
structure ClosScope (par x : Str) (sc : Scope) : Prop where
  kind : sc.kind = .function
  co : sc.isCoroutine = false
  gen : sc.isGenerator = false
  nocell : ∀ y ∈ sc.names, y.2 ≠ .cell
  par : sc.names.lookup par = some .local
  free : sc.names.lookup x = some .free
  only : ∀ y ∈ sc.names, y.2 = .free → y.1 = x
structure NdOf (N : List Str) : Prop where
  nd : N.Nodup
theorem run_clos {X : Cx} {pins : List (Addr × Obj)} {σ σ0 : L2.St} {H : Hp} {s : Shared} {Q : VK} {k i : Nat} {f cc c : Addr} {name qual par x : Str} {params : Arguments} {body : List Stmt} {scope : Scope} {pm : Value} {N : List Str} {v vx : V} {u : Value}
    (I : Inv X pins σ H s) (hr : Room (k + 1) X.A) (hf : H f = some (FnO f name qual params body scope [(x, c)] pm cc)) (hcc : H cc = some (CodeO cc qual))
    (hi : X.N[i]? = some x) (hv : σ[i]? = some (some vx)) (hxc : X.env.kindOf x = some .cell) (hcl : X.env.cells.lookup x = some c) (S : ClosScope par x scope)
    (hσ : ∀ (j : Nat) (y : Str) (z : V), N[j]? = some y → σ0[j]? = some (some z) → (y = par ∧ z = v) ∨ (y = x ∧ z = vx)) (hlen : σ0.length = N.length)
    (hb : ∀ (doc ctv u : Value), bindArgs (PySem.W.fnX name qual params body scope [(x, c)] .none .none doc pm none (.ref cc) ctv) ⟨[u], []⟩ = pure [(par, u)]) (r : RelV v u)
    (hbody : Room k (cxClos X.prog X.w X.K X.mg X.base N qual scope f (.ref cc) [(x, c)] X.A X.stack s H).A → ∃ t, PSs (cxClos X.prog X.w X.K X.mg X.base N qual scope f (.ref cc) [(x, c)] X.A X.stack s H) body t ∧ t { nx := fun _ H' => Q .non H', rt := Q } σ0 H) :
    wpAny (model X.prog X.w) X.A (call (.ref f) [u]) (EP X pins σ Q) X.xe s := by
  obtain ⟨doc, ctv, ho⟩ := (I.hok f _ hf).1
  have hcd : s.heap.CodeRec (.ref cc) qual := (I.hok cc _ hcc).1
  obtain ⟨mL, hnL, hloc⟩ := id I.loc
  obtain ⟨ux, rx, lk⟩ := hloc i x vx hi hv (.inr (.inl hxc))
  have hcell : s.heap.IsCell c (some ux) := by
    rcases lk with ⟨hk, _⟩ | ⟨_, c', e, z⟩
    · rw [hxc] at hk; cases hk
    · rw [hcl] at e; cases e; exact z
  have go : codeAny (model X.prog X.w) X.A (.call (.ref f) ⟨[u], []⟩) (CR CX0 X.stack X.prog X.w H s Q E0) s := by
    refine codeAny_call_function hr.depth ho rfl S.co S.gen rfl hcd ?_
    refine wpAny_of_eq (hb doc ctv u) ?_
    refine wpAny_newFunctionEnv S.nocell (fun y hy => ?_) (fun h1 hns hsb => ?_) S.kind
    · have e : y = (par, u) := by simpa using hy
      subst e
      exact S.par
    have hk : ∀ b o, s.heap.get? b = some o → h1.get? b = some o := fun b o e => (hsb.2 b (Nat.ne_of_lt (Heap.lt_size e))).trans (Heap.get?_push_of_some _ e)
    refine ⟨I.nolimit.keeps hk, codeAny_func ?_⟩
    obtain ⟨t, ht, hq⟩ := hbody (hr.deeper _)
    have lkp : ∀ y c', ([(x, c)] : List (Str × Addr)).lookup y = some c' → y = x ∧ c' = c := fun y c' e => by
      rw [List.lookup_cons] at e
      cases hyx : y == x with
      | true => rw [hyx] at e; cases e; exact ⟨eq_of_beq hyx, rfl⟩
      | false => rw [hyx] at e; cases e
    have lkx : ([(x, c)] : List (Str × Addr)).lookup x = some c := by rw [List.lookup_cons, beq_self_eq_true]
    have noA : ∀ b : Addr, b ∉ ([] : List Addr) := fun b => by simp
    have J : Inv (cxClos X.prog X.w X.K X.mg X.base N qual scope f (.ref cc) [(x, c)] X.A X.stack s H) [] σ0 H { s with heap := h1, toks := s.toks + [(par, u)].length } := by
      refine ⟨⟨I.ok.mod, S.kind, rfl, rfl, Nat.le_refl _, fun y z c' h1 h2 => ?_, fun y hy => ?_, fun y c' h => ?_, fun _ => hr.hd, Around.frames_deeper I.ok.frames, .inr ⟨rfl, rfl⟩, fun b z => absurd z (noA b), I.bs, Nat.le_trans I.ok.bsz I.sz, fun b _ _ => noA b, fun b z => absurd z (noA b), I.stack, I.stkFree⟩,
        rfl, I.bare, Un.kept hk, ⟨_, hns, fun j y z h1 h2 h3 => ?_⟩, fun y c' h => ?_, I.hok.fresh (Nat.le_refl _), fun y c' h => ?_, fun p hp => absurd (show p ∈ ([] : List (Addr × Obj)) from hp) (by simp), I.hok.kept hk, hlen⟩
      · rw [(lkp y c' h1).1, (lkp z c' h2).1]
      · have hy : scope.names.lookup y = some .cell ∨ scope.names.lookup y = some .free := hy
        rcases hy with hy | hy
        · exact absurd rfl (S.nocell _ (PySem.mem_of_lookup hy))
        · have e : y = x := S.only _ (PySem.mem_of_lookup hy) rfl
          rw [e]
          exact ⟨c, lkx⟩
      · exact fun z => absurd (show false = true from h) Bool.false_ne_true
      · rcases hσ j y z h1 h2 with ⟨rfl, rfl⟩ | ⟨rfl, rfl⟩
        · refine ⟨u, r, .inl ⟨S.par, ?_⟩⟩
          show ([(y, u)] : List (Str × Value)).reverse.lookup y = some u
          rw [List.reverse_singleton, List.lookup_cons, beq_self_eq_true]
        · refine ⟨ux, rx, .inr ⟨.inr S.free, c, lkx, ?_⟩⟩
          obtain ⟨o, e1, e2⟩ := hcell
          exact ⟨o, hk _ _ e1, e2⟩
      · rw [(lkp y c' h).2]
        obtain ⟨o, e1, e2⟩ := hcell
        exact ⟨some ux, o, hk _ _ e1, e2⟩
      · rw [(lkp y c' h).2]
        exact I.freeC x c hcl
    refine wpAny_mono (ht [] _ σ0 H _ J hq) (fun fl s' hs => ?_) fun e s' hs => False.elim hs
    have fin : ∀ {σ' : L2.St} {H' : Hp} {z : V} {w : Value}, Inv (cxClos X.prog X.w X.K X.mg X.base N qual scope f (.ref cc) [(x, c)] X.A X.stack s H) [] σ' H' s' → RelV z w → Q z H' → CE X.stack X.prog X.w H s Q w s' :=
      fun {σ' H' z w} J rv q => ⟨z, H', J.os, J.bare, J.base, J.hok, rv, q⟩
    cases fl with
    | ret w =>
      obtain ⟨z, σ', H', J, rv, q⟩ := hs
      exact fin J rv q
    | next =>
      obtain ⟨σ', H', J, q⟩ := hs
      exact fin (z := V.non) (w := Value.none) J rfl q
    | brk =>
      obtain ⟨_, _, _, q⟩ := hs
      exact False.elim q
    | cont =>
      obtain ⟨_, _, _, q⟩ := hs
      exact False.elim q
  refine wpAny_call (codeAny_mono go fun r s' hq => ?_)
  cases r with
  | error e => exact pass0 pins σ H s e s' I hq
  | ok fl =>
    cases fl with
    | ret w => exact I.after hq
    | next => exact False.elim hq
    | brk => exact False.elim hq
    | cont => exact False.elim hq

/-! ### the code of a def by the table's look -/
theorem code_of_tab {K : PySem.W.Frag} {x : Str} {f c P : Addr} {oc : Value} {od : Option Addr} {fd : FuncData} {sl : Array (Option Value)} (h : PySem.W.tabIn K x = some (c, P)) (a : PySem.W.nsIn K mainGlobals x = some (some (.ref f))) (l : K.lookup f = some ⟨oc, od, .func fd, sl⟩) : fd.code = .ref c := by
  unfold PySem.W.tabIn at h
  rw [a] at h
  simp only [l] at h
  split at h
  · rename_i c2 hc
    split at h
    · split at h
      · cases h
        exact hc
      · cases h
    · cases h
  · cases h
/-- the table's place -/
def PT (K : PySem.W.Frag) (x : Str) : Addr := ((PySem.W.tabIn K x).getD (0, 0)).2
theorem globC_pt {K : PySem.W.Frag} {x : Str} {c P : Addr} (h : PySem.W.tabIn K x = some (c, P)) (e : PySem.W.codeHdIn K c P = true) : PySem.W.codeHdIn K c (PT K x) = true := by
  unfold PT
  rw [h]
  exact e
theorem PT_of {K : PySem.W.Frag} {x : Str} {c P : Addr} (h : PySem.W.tabIn K x = some (c, P)) : PT K x = P := by
  unfold PT
  rw [h]
  rfl
end Sd

set_option Elab.async false
set_option linter.all false
set_option maxRecDepth 100000
set_option maxHeartbeats 2000000
/-! THE ROW WITH A CODE'S TABLE. -/
namespace Sd
open PySem PySem.Spec PyProof.Rows L2
open PySem.W (WData Codec OpenSpec Well WellAll ReadsW ReadsAllW)
theorem spec_callT {P : Program} {w : World} {K : PySem.W.Frag} {mg mb : Str → Option Value} {CX : CXT} {k : Nat} {fa : Addr} {fd : FuncData} {ps : List Str} {sp : Sp} {s₁ : Shared} {vals : List Value} {ds : List WData} {R : PySem.W.WRecords} {cl : Str → Option Addr} {d0 : WData} {x0 : Str}
    (KX : K.In s₁.heap) (hns : s₁.heap.Ns mainGlobals mg) (hb : s₁.heap.Ns builtinsNs mb) (hbb : ∀ x : Str, x ≠ "__name__" → mb x = bootBuiltins x) (hlim : s₁.heap.NoLimit) (hPT : s₁.heap.get? (PT K x0) = some (PySem.W.tabObj #[])) (hct : isCodeTable s₁.heap (PT K x0)) (hKP : K.lookup (PT K x0) = none) (hBm : Bm mg s₁.heap) (hg : s₁.gens = #[])
    (hwl : WellAll w.params s₁.heap vals ds) (hpl : plWs ds = true) (hwt : ∀ d ∈ ds, d.weight ≤ 1048576) (hr : Room k callerA)
    (F : ∀ base : Heap, K.In base → base.Ns mainGlobals mg → Bm mg base → FnOk P w K mg base CX k fa fd ps sp) (hbind : ∀ (s : Shared) (us : List Value), us.length = ps.length → BindsTo s fd ⟨us, []⟩ (ps.zip us)) (hlen : ds.length = ps.length)
    (hsp : ∀ (H : Hp) (xs : List V), OnlyF H → H (PT K x0) = none → DwAll K H xs ds → sp xs (upd H (PT K x0) (.tbl #[])) (fun v H' => Dw K H' v d0) fun _ _ _ => False)
    (hCX : ∀ H e s', CX [] H s₁ (fun _ _ _ => False) e s' → False) :
    codeAny (model P w) callerA (.call (.ref fa) ⟨vals, []⟩) (fun r s' => ∃ u as, r = .ok (.ret u) ∧ ReadsW R cl s'.heap u d0 as ∧ OldK s₁.heap s'.heap ∧ s'.os = s₁.os ∧ AllBare s'.gens) s₁ := by
  obtain ⟨A, ho, ar⟩ := area_all ds vals hwl hpl hwt
  have hO : OnlyF (argH K s₁.heap A) := argH_only ar
  have hok : HOk P w (argH K s₁.heap A) s₁.heap := argH_ok ar
  have hS := dw_all KX ar ds vals hwl hpl ho
  have hV := vals_toV ho
  have hFr : ∀ b ob u, argH K s₁.heap A b = some (.frz ob u) → (∃ xs, u = .lst xs) ∨ ∃ xs, u = .tup xs := fun b ob u q => by
    obtain ⟨_, vs, _, _, ⟨_, e⟩ | ⟨_, e⟩⟩ := argH_is ar q
    · cases e; exact .inl ⟨_, rfl⟩
    · cases e; exact .inr ⟨_, rfl⟩
  have hK : ∀ b u, argH K s₁.heap A b = some u → K.lookup b = none := fun b u q => (argH_is ar q).1
  have noA : ∀ {b : Addr} {o : Obj} {es : Array DictEntry} {ep : Nat}, s₁.heap.get? b = some o → o.data = .dict es ep → argH K s₁.heap A b = none := fun {b o es ep} e d => by
    cases q : argH K s₁.heap A b with
    | none => rfl
    | some u =>
      obtain ⟨_, vs, _, _, ⟨e2, _⟩ | ⟨e2, _⟩⟩ := argH_is ar q
      · rw [e2] at e
        cases e
        have d' : Data.seq vs.toArray _ = Data.dict es ep := d
        cases d'
      · rw [e2] at e
        cases e
        have d' : Data.seq vs.toArray _ = Data.dict es ep := d
        cases d'
  have hP0 : argH K s₁.heap A (PT K x0) = none := by
    cases q : argH K s₁.heap A (PT K x0) with
    | none => rfl
    | some u =>
      obtain ⟨_, vs, _, _, ⟨e, _⟩ | ⟨e, _⟩⟩ := argH_is ar q
      · rw [hPT] at e
        cases e
      · rw [hPT] at e
        cases e
  generalize argH K s₁.heap A = H0 at hO hok hS hK noA hP0 hFr
  obtain ⟨H, eH⟩ : ∃ H, H = upd H0 (PT K x0) (.tbl #[]) := ⟨_, rfl⟩
  have hHP : H (PT K x0) = some (.tbl #[]) := by rw [eH, upd_same]
  have hHn : ∀ b, b ≠ PT K x0 → H b = H0 b := fun b hb => by rw [eH, upd_ne hb]
  have hok : HOk P w H s₁.heap := fun b u e => by
    by_cases hb : b = PT K x0
    · rw [hb, hHP] at e
      cases e
      rw [hb]
      exact hPT
    · rw [hHn b hb] at e
      refine (hok b u e).stay (fun c v _ r => r) (fun c r => ?_) fun c xs r => ?_
      · rw [hHn c (fun z => by rw [z, hP0] at r; cases r)]; exact r
      · rw [hHn c (fun z => by rw [z, hP0] at r; cases r)]; exact r
  have hK : ∀ b u, H b = some u → K.lookup b = none := fun b u q => by
    by_cases hb : b = PT K x0
    · rw [hb]; exact hKP
    · rw [hHn b hb] at q; exact hK b u q
  have noA : ∀ {b : Addr} {o : Obj} {es : Array DictEntry} {ep : Nat}, s₁.heap.get? b = some o → o.data = .dict es ep → H b = none := fun {b o es ep} e d => by
    rw [hHn b (fun z => by rw [z, hPT] at e; cases e; cases d)]
    exact noA e d
  have base_of : ∀ {b : Addr} {o : Obj}, s₁.heap.get? b = some o → H b = none → (hidT s₁.heap H).get? b = some o := fun e n => hidT_get e n
  have nsK : ∀ {b : Addr} {m : Str → Option Value}, s₁.heap.Ns b m → (hidT s₁.heap H).Ns b m := fun {b m} ⟨o, es, ep, e, d, r⟩ => ⟨o, es, ep, base_of e (noA e d), d, r⟩
  have nK : ∀ b o, K.lookup b = some o → H b = none := fun b o e => by
    cases q : H b with
    | none => rfl
    | some u =>
      rw [hK b u q] at e
      cases e
  have hKb : K.In (hidT s₁.heap H) := fun b o e => base_of (KX b o e) (nK b o e)
  have hM : Mod K mg (hidT s₁.heap H) := ⟨hKb, nsK hns, ⟨mb, nsK hb, hbb⟩, let ⟨mc, h1, h2⟩ := hlim; ⟨mc, nsK h1, h2⟩⟩
  have e0 : Env0 P w K mg (hidT s₁.heap H) callerA [] s₁ H := ⟨rfl, hM, fun b o e => of_hidT e, Nat.le_of_eq (hidT_size _ _), trivial, fun b hb => absurd (show b ∈ ([] : List Addr) from hb) (by simp), hok, .of_eq hg⟩
  have hBb : Bm mg (hidT s₁.heap H) := by
    obtain ⟨bm, ob, b1, b2, b3, b4, b5, b6⟩ := hBm
    refine ⟨bm, ob, b1, b2, base_of b3 ?_, b4, b5, b6⟩
    cases q : H bm with
    | none => rfl
    | some u =>
      by_cases hb : bm = PT K x0
      · rw [hb, hPT] at b3
        cases b3
        cases b6
      · rw [hHn bm hb] at q
        rcases hO bm with z | ⟨ob2, u2, z⟩
        · rw [z] at q; cases q
        · rw [z] at q
          cases q
          have e0 : ObjOk P w H s₁.heap bm (.frz ob2 u2) := hok bm _ (by rw [hHn bm hb]; exact z)
          obtain ⟨e1, e2⟩ := e0
          rw [b3] at e1
          cases e1
          rcases hFr bm _ _ z with ⟨xs, rfl⟩ | ⟨xs, rfl⟩
          · obtain ⟨_, its, n, _, e⟩ := e2
            rw [b3] at e
            cases e
            cases b6
          · obtain ⟨_, its, _, o3, e, _, n, hd⟩ := e2
            rw [b3] at e
            cases e
            rw [b6] at hd
            cases hd
  have hl : vals.length = ps.length := by rw [wellAll_len hwl]; exact hlen
  refine codeAny_mono ((F _ hKb (nsK hns) hBb).run callerA [] s₁ H ⟨vals, []⟩ vals (vals.map toV) _ _ hr e0 (hbind s₁ vals hl) hV (by rw [eH]; exact hsp H0 _ hO hP0 hS)) fun r s' x => ?_
  cases r with
  | error e => exact (hCX H e s' x).elim
  | ok fl =>
    cases fl with
    | next => exact False.elim x
    | brk => exact False.elim x
    | cont => exact False.elim x
    | ret u =>
      obtain ⟨v, H', os, bare, un, hok', r', q⟩ := x
      have kept : ∀ b o, b ≠ PT K x0 → s₁.heap.get? b = some o → s'.heap.get? b = some o := fun b o hb e => by
        cases q2 : H b with
        | none => exact un.keep b o e q2 (by intro z; exact absurd (show b ∈ ([] : List Addr) from z) (by simp)) (by simp)
        | some u2 =>
          have q3 := q2
          rw [hHn b hb] at q3
          rcases hO b with z | ⟨ob, u3, z⟩
          · rw [z] at q3
            cases q3
          · have z1 : H b = some (.frz ob u3) := by rw [hHn b hb]; exact z
            have z2 := un.frzs b ob _ z1
            obtain ⟨e1, _⟩ := hok b _ z1
            obtain ⟨e2, _⟩ := hok' b _ z2
            rw [e] at e1
            cases e1
            exact e2
      obtain ⟨more, hm⟩ := un.tbls (PT K x0) #[] hHP
      have hP' : s'.heap.get? (PT K x0) = some (PySem.W.tabObj more) := by
        have e := hok' _ _ hm
        rw [show (#[] ++ more : Array Value) = more by simp] at e
        exact e
      have KX' : K.In s'.heap := fun b o e => kept b o (fun z => by rw [z, hKP] at e; cases e) (KX b o e)
      obtain ⟨as, hrd⟩ := Dw.reads (R := R) (cl := cl) hok' KX' d0 v u q r'
      refine ⟨u, as, rfl, hrd, ⟨fun b o e => ?_, fun b o e => ?_⟩, os, bare⟩
      · by_cases hb : b = PT K x0
        · subst hb
          rw [hPT] at e
          cases e
          exact .inr (.inl ⟨hct, rfl, #[], more, rfl, by rw [Array.empty_append]; exact hP'⟩)
        · exact .inl (kept b o hb e)
      · by_cases hb : b = PT K x0
        · rw [hb]; exact ⟨_, hP'⟩
        · exact ⟨o, kept b o hb e⟩
/-- the goal that k_headS leaves (case hc), from the promise of the row's def: whatever the arguments that the codecs let and the row asks for, the def gives what stands for enc (f ..) -/
theorem walk_specT {r : OpenSpec} {k : Nat} {q : Program} {loose : List Str} {XP : (Str → Option Value) → Heap → Prop} {YP : World → Heap → Prop} {d : DefRec} {K : Params → PySem.W.Frag} {CX : World → CXT} {ps : List Str} {x0 : Str} {sp : World → Sp}
    (hwell : r.wellSaid = true) (hrec : ∃ d0, (recsOf q).find? (fun e => e.name == x0) = some d0) (htab : ∀ P : Params, ∃ c p, PySem.W.tabIn (K P) x0 = some (c, p) ∧ (K P).lookup p = none) (hdf : d.params.defaults = []) (hlen : r.args.length = ps.length) (hr : Room k callerA)
    (hY : ∀ (w : World) (h : Heap), YP w h → (K w.params).In h)
    (F : ∀ (w : World) (mg : Str → Option Value) (fa : Addr) (h : Heap), YP w h → (K w.params).In h → h.Ns mainGlobals mg → mg d.name = some (.ref fa) →
      ∃ fd : FuncData, (∀ (s : Shared) (us : List Value), us.length = ps.length → BindsTo s fd ⟨us, []⟩ (ps.zip us)) ∧
        ∀ base : Heap, (K w.params).In base → base.Ns mainGlobals mg → Bm mg base → FnOk r.prog w (K w.params) mg base (CX w) k fa fd ps (sp w))
    (hsp : ∀ (w : World) (H : Hp) (xs : List V) (a : Codec.denoteAll r.args), OnlyF H → H (PT (K w.params) x0) = none → Codec.withinAll r.args a = true → Codec.app r.args r.asked a = true → DwAll (K w.params) H xs (Codec.encAll r.args a) →
      sp w xs (upd H (PT (K w.params) x0) (.tbl #[])) (fun v H' => Dw (K w.params) H' v (r.ret.enc (Codec.app r.args r.f a))) fun _ _ _ => False)
    (hCX : ∀ (w : World) (H : Hp) (s : Shared) (e : Value) (s' : Shared), CX w [] H s (fun _ _ _ => False) e s' → False) :
    PySem.W.WalkOS q loose XP YP r d [] (fun f vs => PySem.call f vs) := by
  intro w s_0 s₁ mg mb G Y fa o pm cd doc dV kV ho hd hcd hD hmg hg args vals as hpre hlay hrd hwl hlo
  obtain ⟨a, e1, e2⟩ := PySem.W.os_pre_some hpre
  obtain ⟨e3, hwi⟩ := Codec.encAll_of_decAll r.args args a e1
  subst e3
  have KX := hY w _ Y
  obtain ⟨c, p, ht, hkp⟩ := htab w.params
  obtain ⟨d0, hd0⟩ := hrec
  obtain ⟨C, hp⟩ := PySem.W.tab_of G.T KX hd0 ht
  have ePT : PT (K w.params) x0 = p := PT_of ht
  have hPT : s₁.heap.get? (PT (K w.params) x0) = some (PySem.W.tabObj #[]) := by rw [ePT]; exact hp
  have hct : isCodeTable s₁.heap (PT (K w.params) x0) := by rw [ePT]; exact (C.tab hp).isCodeTable
  have hKP : (K w.params).lookup (PT (K w.params) x0) = none := by rw [ePT]; exact hkp
  obtain ⟨fd, hb, hF⟩ := F w mg fa _ Y KX G.T.g hmg
  refine PySem.W.enter_call (codeAny_mono (spec_callT (x0 := x0) (R := []) (cl := classAt s_0.heap) (d0 := r.ret.enc (Codec.app r.args r.f a)) KX G.T.g G.T.b G.T.builtins G.T.nolimit hPT hct hKP G.T.bmain hg hwl (pl_encAll _ _) (layable_weight hlay) hr hF hb (by rw [encAll_len]; exact hlen)
    (fun H xs hO h0 hS => hsp w H xs a hO h0 hwi e2 hS) fun H e s' => hCX w H s₁ e s') fun r' s' hq => ?_)
  obtain ⟨u, as', rfl, h1, h2, h3, h4⟩ := hq
  exact ⟨.inl ⟨u, _, as', rfl, fun _ => rfl, h1, (OpenSpec.post_iff hwell hwi _ _).mpr rfl, fun z => Bool.noConfusion (show false = true from z)⟩, h2, h3, h4⟩
/-- the same where the promise hangs on the written part alone -/
theorem walk_specKT {r : OpenSpec} {k : Nat} {q : Program} {loose : List Str} {XP : (Str → Option Value) → Heap → Prop} {YP : World → Heap → Prop} {d : DefRec} {K : Params → PySem.W.Frag} {CX : CXT} {ps : List Str} {x0 : Str} {sp : PySem.W.Frag → Sp}
    (hwell : r.wellSaid = true) (hrec : ∃ d0, (recsOf q).find? (fun e => e.name == x0) = some d0) (htab : ∀ P : Params, ∃ c p, PySem.W.tabIn (K P) x0 = some (c, p) ∧ (K P).lookup p = none) (hdf : d.params.defaults = []) (hlen : r.args.length = ps.length) (hr : Room k callerA)
    (hY : ∀ (w : World) (h : Heap), YP w h → (K w.params).In h)
    (F : ∀ (w : World) (mg : Str → Option Value) (fa : Addr) (h : Heap), YP w h → (K w.params).In h → h.Ns mainGlobals mg → mg d.name = some (.ref fa) →
      ∃ fd : FuncData, (∀ (s : Shared) (us : List Value), us.length = ps.length → BindsTo s fd ⟨us, []⟩ (ps.zip us)) ∧
        ∀ base : Heap, (K w.params).In base → base.Ns mainGlobals mg → Bm mg base → FnOk r.prog w (K w.params) mg base CX k fa fd ps (sp (K w.params)))
    (hsp : ∀ (K : PySem.W.Frag) (H : Hp) (xs : List V) (a : Codec.denoteAll r.args), OnlyF H → H (PT K x0) = none → Codec.withinAll r.args a = true → Codec.app r.args r.asked a = true → DwAll K H xs (Codec.encAll r.args a) →
      sp K xs (upd H (PT K x0) (.tbl #[])) (fun v H' => Dw K H' v (r.ret.enc (Codec.app r.args r.f a))) fun _ _ _ => False)
    (hCX : ∀ (H : Hp) (s : Shared) (e : Value) (s' : Shared), CX [] H s (fun _ _ _ => False) e s' → False) :
    PySem.W.WalkOS q loose XP YP r d [] (fun f vs => PySem.call f vs) :=
  walk_specT (x0 := x0) (K := K) (CX := fun _ => CX) (sp := fun w => sp (K w.params)) hwell hrec htab hdf hlen hr hY F (fun w H xs a h1 h0 h2 h3 h4 => hsp (K w.params) H xs a h1 h0 h2 h3 h4) fun _ H s e s' => hCX H s e s'
end Sd

set_option Elab.async false
set_option linter.all false
set_option maxRecDepth 100000
set_option maxHeartbeats 2000000
/-! RULES OF MY OWN, the second half: a comprehension over enumerate(a tuple), a pair of names in a block, a def that holds a def. -/
namespace Sd
open PySem PySem.Spec PyProof.Rows L2
theorem bt_enumerate : bootBuiltins "enumerate" = some (.type "enumerate") := by decide +kernel
theorem lc_enumT_fm {K : PySem.W.Frag} {a : Addr} {xs : List V} {g : TG} {tt : TT} {te : TE} {vs : List Nat} {σ : L2.St} {H1 : Hp} {D : Addr} {Qd : Hp → Prop} (p : Nat → Bool) (f : Nat → V) (hD : H1 D = none) (hn : xs.length < sizeLine) (hS : SqT K H1 a xs)
    (hs : ∀ (i : Nat) (x : V) (T : Addr) (H' : Hp) (R : VK) (R' : Hp → Prop), xs[i]? = some x → Same H1 H' → SqT K H' T [.int (i : Nat), x] → (p i = true → ∀ H4, Same H' H4 → R (f i) H4) → (p i = false → ∀ H4, Same H' H4 → R' H4) →
      g (.ref T) (wipe σ vs) H' fun σ2 H2 => wipe σ2 vs = wipe σ vs ∧ tt σ2 H2 fun b H3 => if b = true then te σ2 H3 R else R' H3)
    (hd : ∀ H', Same H1 H' → H' D = some (.lst (((List.range xs.length).filter p).map f)) → Qd H') :
    ∃ W : Nat → Nat → Hp → Prop, (∃ m, W 0 m (upd H1 D (.lst []))) ∧ ∀ i m H, W i m H →
      ((IteT K a).stop i H ∧ Qd H) ∨ ((IteT K a).go i H ∧ ∃ Nx : Hp → Prop, (∀ H', Nx H' → ∃ m', m' < m ∧ W (i + 1) m' H') ∧ ∀ x H', (IteT K a).yld i H x H' → g x (wipe σ vs) H' fun σ2 H2 => wipe σ2 vs = wipe σ vs ∧ tt σ2 H2 fun b H3 =>
        if b = true then te σ2 H3 fun y H4 => ∃ acc, H4 D = some (.lst acc) ∧ acc.length < sizeLine ∧ Nx (upd H4 D (.lst (acc ++ [y]))) else Nx H3) := by
  refine ⟨fun i m H => m = xs.length - i ∧ i ≤ xs.length ∧ Same H1 H ∧ H D = some (.lst (((List.range i).filter p).map f)), ⟨xs.length, by simp, Nat.zero_le _, same_upd hD, upd_same⟩, ?_⟩
  rintro i m H ⟨rfl, hi, s1, hacc⟩
  have q := Same.tup s1 hS
  by_cases hlt : i < xs.length
  · obtain ⟨h1, h2⟩ := fm_turn (f := f) (p := p) hD hn hlt s1 hacc
    refine .inr ⟨⟨xs, xs[i], q, by simp [hlt]⟩, fun H' => Same H1 H' ∧ H' D = some (.lst (((List.range (i + 1)).filter p).map f)), fun H' p' => ⟨xs.length - (i + 1), by omega, rfl, hlt, p'⟩, fun v H' y => ?_⟩
    obtain ⟨T, x, e1, hT, e2, y⟩ := y
    subst e1 e2
    have s2 : Same H (upd H T (.tup [.int (i : Nat), x])) := same_upd hT
    exact hs i x T _ _ _ (y xs q) (s1.trans s2) (SqT.of upd_same) (fun hp H4 s4 => h1 hp H4 (s2.trans s4)) (fun hp H4 s4 => h2 hp H4 (s2.trans s4))
  · have e : i = xs.length := by omega
    subst e
    exact .inl ⟨⟨xs, q, Nat.le_refl _⟩, hd H s1 hacc⟩
theorem pg_tupK {X : Cx} {pos : Pos} (K : PySem.W.Frag) {es : List Expr} {k : Nat} {t : TGs} {n : Nat} (hc : X.calm = true) (h : PGs X es t) (hK : X.K = K := by rfl)
    (hn : (assignEach es X.env).length = n := by rfl) (hst : (assignEach es X.env).findIdx? (·.1) = none := by rfl) : PG X (.Tuple es k pos) (gTup K n t) := hK ▸ pg_tup hc h hn hst
theorem getK {X : Cx} (K : PySem.W.Frag) (h : X.K = K := by rfl) : X.K = K := h
theorem iteNT {c A B : Prop} [Decidable c] (hc : ¬ c) (h : A) : if (!decide c) = true then A else B := by
  rw [decide_eq_false hc]
  exact iteT h
/-- what the top has written of a def that holds a def -/
structure GlobC (K : PySem.W.Frag) (mg : Str → Option Value) (x : Str) (st : Stmt) : Prop where
  ex : ∃ (f c : Addr) (oc : Value) (od : Option Addr) (kV doc pm : Value) (an : Option Addr) (ct : Value) (osl : Array (Option Value)),
    K.lookup f = some ⟨oc, od, .func (PySem.W.fnOf x x (defArgs st) (defBody st) (defScope st) .none kV doc pm an (.ref c) ct), osl⟩ ∧ PySem.W.codeIn K (.ref c) x = true ∧ PySem.W.keepIn K (.ref f) = true ∧ mg x = some (.ref f) ∧ PySem.W.codeHdIn K c (PT K x) = true
theorem globC_of {K : PySem.W.Frag} {h : Heap} {mg : Str → Option Value} {x : Str} {st : Stmt} {f c p : Addr} {oc : Value} {od an : Option Addr} {osl : Array (Option Value)} {kV doc pm cdv ct : Value} (X : K.In h) (G : h.Ns mainGlobals mg) (tb : PySem.W.tabIn K x = some (c, p)) (hd : PySem.W.codeHdIn K c p = true)
    (a : PySem.W.nsIn K mainGlobals x = some (some (.ref f))) (l : K.lookup f = some ⟨oc, od, .func (PySem.W.fnOf x x (defArgs st) (defBody st) (defScope st) .none kV doc pm an cdv ct), osl⟩) (d : PySem.W.codeIn K cdv x = true) (k : PySem.W.keepIn K (.ref f) = true) :
    ∃ (f c : Addr) (oc : Value) (od : Option Addr) (kV doc pm : Value) (an : Option Addr) (ct : Value) (osl : Array (Option Value)),
    K.lookup f = some ⟨oc, od, .func (PySem.W.fnOf x x (defArgs st) (defBody st) (defScope st) .none kV doc pm an (.ref c) ct), osl⟩ ∧ PySem.W.codeIn K (.ref c) x = true ∧ PySem.W.keepIn K (.ref f) = true ∧ mg x = some (.ref f) ∧ PySem.W.codeHdIn K c (PT K x) = true := by
  have e : cdv = .ref c := code_of_tab tb a l
  subst e
  exact ⟨f, c, oc, od, kV, doc, pm, an, ct, osl, l, d, k, PySem.W.mg_of X G a, globC_pt tb hd⟩
theorem GlobC.mk_def {P : Program} {w : World} {K : PySem.W.Frag} {mg : Str → Option Value} {base : Heap} {x : Str} {st : Stmt} {N ps : List Str} {k : Nat} {sp : Sp} (G : GlobC K mg x st) (S : FnScope N ps (defScope st)) (hb : BindsSt x x st ps) (len : ∀ vs H Q E, sp vs H Q E → vs.length = ps.length)
    (hbody : ∀ (f c : Addr) (A : Around) (outer : List Env) (s : Shared) (H : Hp) (vs : List V) (Q : VK) (E : XK), PySem.W.codeHdIn K c (PT K x) = true → Room k (A.deeper (envOfC x (defScope st) s.heap.objs.size f (.ref c))) → sp vs H Q E →
      ∃ t, PSs (cxOf CX0 P w K mg base N x (defScope st) f (.ref c) A outer s H E).nox (defBody st) t ∧ t { nx := fun _ H' => Q .non H', rt := Q } (start N vs) H) : Def P w K mg base x (k + 1) ps sp := by
  obtain ⟨f, c, oc, od, kV, doc, pm, an, ct, osl, lk, hcd, hkp, hm, hch⟩ := G.ex
  refine ⟨f, _, fn_of lk hcd S len (fun A outer s H vs Q E hr h => ?_), hm, hkp, (fun_mk lk hcd hkp).binds hb⟩
  obtain ⟨t, ht, hq⟩ := hbody f c A outer s H vs Q E hch hr h
  exact ⟨t, ht.nox, hq⟩
end Sd

set_option Elab.async false
/-! The mathematics: seams as a written range, the list of calls cut into calls, the played machine, what stays true of a state. -/
namespace Sd
open Kh352

/-! ### seams -/
/-- how many seams -/
def nSeams (w x o : Nat) : Nat := if o < x then (x - o - 1) / w + 1 else 0

theorem range_filter_lt (n : Nat) : ∀ d : Nat, (List.range (n + d)).filter (fun k => decide (k < n)) = List.range n
  | 0 => by
    rw [Nat.add_zero]
    exact List.filter_eq_self.mpr fun a h => decide_eq_true (List.mem_range.mp h)
  | d + 1 => by
    rw [Nat.add_succ, List.range_succ, List.filter_append, range_filter_lt n d, List.filter_cons, if_neg (by simp), List.filter_nil, List.append_nil]

theorem lt_nSeams {w x o k : Nat} (hw : 1 ≤ w) : o + k * w < x ↔ k < nSeams w x o := by
  unfold nSeams
  by_cases h : o < x
  · rw [if_pos h]
    have e : k ≤ (x - o - 1) / w ↔ k * w ≤ x - o - 1 := Nat.le_div_iff_mul_le hw
    constructor
    · intro q
      exact Nat.lt_succ_of_le (e.mpr (by omega))
    · intro q
      have := e.mp (Nat.le_of_lt_succ q)
      omega
  · rw [if_neg h]
    constructor
    · intro q
      omega
    · intro q
      exact absurd q (Nat.not_lt_zero _)

theorem nSeams_le {w x o : Nat} : nSeams w x o ≤ x / w + 1 := by
  unfold nSeams
  by_cases h : o < x
  · rw [if_pos h]
    have : (x - o - 1) / w ≤ x / w := Nat.div_le_div_right (by omega)
    omega
  · rw [if_neg h]
    exact Nat.zero_le _

theorem seams_eq {w x o : Nat} (hw : 1 ≤ w) : seams w x o = (List.range (nSeams w x o)).map fun k => o + k * w := by
  unfold seams
  rw [List.filter_map]
  congr 1
  obtain ⟨d, hd⟩ : ∃ d, x / w + 1 = nSeams w x o + d := ⟨x / w + 1 - nSeams w x o, by have := nSeams_le (w := w) (x := x) (o := o); omega⟩
  rw [hd, ← range_filter_lt (nSeams w x o) d]
  refine List.filter_congr fun k _ => ?_
  show decide (o + k * w < x) = decide (k < nSeams w x o)
  exact decide_eq_decide.mpr (lt_nSeams hw)

theorem seams_len {w x o : Nat} (hw : 1 ≤ w) : (seams w x o).length = nSeams w x o := by
  rw [seams_eq hw, List.length_map, List.length_range]

theorem nSeams_small {w x o : Nat} (hx : x ≤ 200) : nSeams w x o ≤ 200 := by
  unfold nSeams
  by_cases h : o < x
  · rw [if_pos h]
    have : (x - o - 1) / w ≤ x - o - 1 := Nat.div_le_self _ _
    omega
  · rw [if_neg h]
    exact Nat.zero_le _

theorem getLastD_map_range (f : Nat → Nat) (n d : Nat) : ((List.range (n + 1)).map f).getLastD d = f n := by
  rw [List.range_succ, List.map_append, List.map_cons, List.map_nil]
  simp [List.getLastD_eq_getLast?]

/-! ### the calls of a list -/
abbrev CallL := List (List Int)
def argc : List Nat := [3, 2, 2, 1, 1, 1, 2, 0, 1, 1, 1, 0, 0, 0, 0, 0, 2, 2, 2, 1, 1, 0]

theorem shape_of {p : Int} {n k : Nat} (h : PyKh352.shape p = some (n, k)) : ∃ c : Nat, p = (c : Int) ∧ c < 22 ∧ argc[c]? = some n ∧ k = 0 := by
  unfold PyKh352.shape at h
  by_cases e0 : p = 0
  · rw [if_pos e0] at h
    cases h
    exact ⟨0, e0, by decide, rfl, rfl⟩
  rw [if_neg e0] at h
  by_cases e1 : p = 1
  · rw [if_pos e1] at h
    cases h
    exact ⟨1, e1, by decide, rfl, rfl⟩
  rw [if_neg e1] at h
  by_cases e2 : p = 2
  · rw [if_pos e2] at h
    cases h
    exact ⟨2, e2, by decide, rfl, rfl⟩
  rw [if_neg e2] at h
  by_cases e3 : p = 3
  · rw [if_pos e3] at h
    cases h
    exact ⟨3, e3, by decide, rfl, rfl⟩
  rw [if_neg e3] at h
  by_cases e4 : p = 4
  · rw [if_pos e4] at h
    cases h
    exact ⟨4, e4, by decide, rfl, rfl⟩
  rw [if_neg e4] at h
  by_cases e5 : p = 5
  · rw [if_pos e5] at h
    cases h
    exact ⟨5, e5, by decide, rfl, rfl⟩
  rw [if_neg e5] at h
  by_cases e6 : p = 6
  · rw [if_pos e6] at h
    cases h
    exact ⟨6, e6, by decide, rfl, rfl⟩
  rw [if_neg e6] at h
  by_cases e7 : p = 7
  · rw [if_pos e7] at h
    cases h
    exact ⟨7, e7, by decide, rfl, rfl⟩
  rw [if_neg e7] at h
  by_cases e8 : p = 8
  · rw [if_pos e8] at h
    cases h
    exact ⟨8, e8, by decide, rfl, rfl⟩
  rw [if_neg e8] at h
  by_cases e9 : p = 9
  · rw [if_pos e9] at h
    cases h
    exact ⟨9, e9, by decide, rfl, rfl⟩
  rw [if_neg e9] at h
  by_cases e10 : p = 10
  · rw [if_pos e10] at h
    cases h
    exact ⟨10, e10, by decide, rfl, rfl⟩
  rw [if_neg e10] at h
  by_cases e11 : p = 11
  · rw [if_pos e11] at h
    cases h
    exact ⟨11, e11, by decide, rfl, rfl⟩
  rw [if_neg e11] at h
  by_cases e12 : p = 12
  · rw [if_pos e12] at h
    cases h
    exact ⟨12, e12, by decide, rfl, rfl⟩
  rw [if_neg e12] at h
  by_cases e13 : p = 13
  · rw [if_pos e13] at h
    cases h
    exact ⟨13, e13, by decide, rfl, rfl⟩
  rw [if_neg e13] at h
  by_cases e14 : p = 14
  · rw [if_pos e14] at h
    cases h
    exact ⟨14, e14, by decide, rfl, rfl⟩
  rw [if_neg e14] at h
  by_cases e15 : p = 15
  · rw [if_pos e15] at h
    cases h
    exact ⟨15, e15, by decide, rfl, rfl⟩
  rw [if_neg e15] at h
  by_cases e16 : p = 16
  · rw [if_pos e16] at h
    cases h
    exact ⟨16, e16, by decide, rfl, rfl⟩
  rw [if_neg e16] at h
  by_cases e17 : p = 17
  · rw [if_pos e17] at h
    cases h
    exact ⟨17, e17, by decide, rfl, rfl⟩
  rw [if_neg e17] at h
  by_cases e18 : p = 18
  · rw [if_pos e18] at h
    cases h
    exact ⟨18, e18, by decide, rfl, rfl⟩
  rw [if_neg e18] at h
  by_cases e19 : p = 19
  · rw [if_pos e19] at h
    cases h
    exact ⟨19, e19, by decide, rfl, rfl⟩
  rw [if_neg e19] at h
  by_cases e20 : p = 20
  · rw [if_pos e20] at h
    cases h
    exact ⟨20, e20, by decide, rfl, rfl⟩
  rw [if_neg e20] at h
  by_cases e21 : p = 21
  · rw [if_pos e21] at h
    cases h
    exact ⟨21, e21, by decide, rfl, rfl⟩
  rw [if_neg e21] at h
  cases h

theorem whole_id (c : CallL) : PyKh352.whole c = c := by
  unfold PyKh352.whole
  split <;> rfl

theorem map_whole (cs : List CallL) : cs.map PyKh352.whole = cs := by
  rw [List.map_congr_left fun c _ => whole_id c, List.map_id']

/-- one call is cut off -/
theorem calls_cons {f : Nat} {p : Int} {rest : List Int} {cs : List CallL} (h : PyFlat.calls PyKh352.shape f (p :: rest) = some cs) :
    ∃ (f' c n : Nat) (cs' : List CallL), p = (c : Int) ∧ c < 22 ∧ argc[c]? = some n ∧ n ≤ rest.length ∧ cs = [p :: rest.take n] :: cs' ∧ PyFlat.calls PyKh352.shape f' (rest.drop n) = some cs' := by
  cases f with
  | zero => cases h
  | succ f =>
    unfold PyFlat.calls at h
    unfold PyFlat.call at h
    dsimp only at h
    cases hs : PyKh352.shape p with
    | none => rw [hs] at h; cases h
    | some nk =>
      obtain ⟨n, k⟩ := nk
      rw [hs] at h
      obtain ⟨c, e, hc, ha, rfl⟩ := shape_of hs
      dsimp only at h
      by_cases hl : rest.length < n
      · rw [if_pos hl] at h; cases h
      · rw [if_neg hl] at h
        simp only [PyFlat.rows] at h
        cases hr : PyFlat.calls PyKh352.shape f (rest.drop n) with
        | none => rw [hr] at h; cases h
        | some cs' =>
          rw [hr] at h
          cases h
          exact ⟨f, c, n, cs', e, hc, ha, by omega, rfl, hr⟩

theorem calls_nil {f : Nat} {cs : List CallL} (h : PyFlat.calls PyKh352.shape f [] = some cs) : cs = [] := by
  cases f <;> (unfold PyFlat.calls at h; cases h; rfl)

/-- what is left behind so many numbers: the machine's state, the numbers told so far -/
structure Tail (ns : List Int) (place : Nat) (s : Option Abs) (out : List Int) : Prop where
  le : place ≤ ns.length
  ex : ∃ (f : Nat) (cs : List CallL), PyFlat.calls PyKh352.shape f (ns.drop place) = some cs ∧ (∀ c ∈ cs, Kh352Neutral.asked1 c = true) ∧ out ++ PyFlat.told (PyFlat.played Kh352Neutral.step s cs) = PyKh352.answers ns

theorem asked_parts {ns : List Int} (h : PyKh352.answers_asked ns = true) : Tail ns 0 none [] ∧ (PyKh352.answers ns).length ≤ 10000000 ∧ ns ≠ [] := by
  unfold PyKh352.answers_asked at h
  cases hc : PyFlat.calls PyKh352.shape ns.length ns with
  | none => rw [hc] at h; cases h
  | some raw =>
    rw [hc] at h
    dsimp only at h
    simp only [Bool.and_eq_true, map_whole] at h
    obtain ⟨⟨⟨⟨h1, h2⟩, h3⟩, h4⟩, h5⟩ := h
    unfold Kh352Neutral.asked at h4
    simp only [Bool.and_eq_true, decide_eq_true_eq, List.all_eq_true] at h4
    refine ⟨⟨Nat.zero_le _, ns.length, raw, by rw [List.drop_zero]; exact hc, h4.2, ?_⟩, by unfold PyFlat.short at h5; exact of_decide_eq_true h5, ?_⟩
    · unfold PyKh352.answers PyKh352.calls
      rw [hc]
      dsimp only
      rw [map_whole]
      rfl
    · rintro rfl
      have := calls_nil hc
      subst this
      cases h1

theorem ints_nat : ∀ {l : List Int}, (∀ z ∈ l, 0 ≤ z ∧ z < 4294967296) → ∃ xs : List Nat, l = xs.map Int.ofNat ∧ ∀ x ∈ xs, x < 4294967296
  | [], _ => ⟨[], rfl, fun _ h => nomatch h⟩
  | z :: l, h => by
    obtain ⟨xs, e, hx⟩ := ints_nat (l := l) fun y hy => h y (List.mem_cons_of_mem _ hy)
    obtain ⟨h0, h1⟩ := h z List.mem_cons_self
    refine ⟨z.toNat :: xs, ?_, fun x hm => ?_⟩
    · rw [List.map_cons, ← e]
      congr 1
      show z = ((z.toNat : Nat) : Int)
      omega
    · rcases List.mem_cons.mp hm with rfl | hm
      · omega
      · exact hx x hm

theorem asked1_nat {p : Int} {l : List Int} (h : Kh352Neutral.asked1 [p :: l] = true) : ∀ z ∈ l, 0 ≤ z ∧ z < 4294967296 := by
  unfold Kh352Neutral.asked1 at h
  simp only [Bool.and_eq_true, List.all_eq_true] at h
  intro z hz
  have q := h.2.2.1 z (List.mem_cons_of_mem _ hz)
  unfold Kh352Neutral.natural at q
  simp only [Bool.and_eq_true, decide_eq_true_eq] at q
  omega

/-- the state and the answer of a call by its number and its arguments -/
def stp (s : Option Abs) (c : Nat) (xs : List Nat) : Option Abs × List Int := Kh352Neutral.step s [(c : Int) :: xs.map Int.ofNat]

theorem told_cons (a : List Int) (r : List (List Int)) : PyFlat.told (a :: r) = (a.length : Int) :: a ++ PyFlat.told r := by
  unfold PyFlat.told
  rw [List.flatMap_cons]

/-- one turn -/
theorem Tail.turn {ns : List Int} {place : Nat} {s : Option Abs} {out : List Int} (T : Tail ns place s out) (h : place < ns.length) :
    ∃ (c n : Nat) (xs : List Nat), ns[place]? = some (c : Int) ∧ c < 22 ∧ argc[c]? = some n ∧ xs.length = n ∧ (∀ x ∈ xs, x < 4294967296) ∧ place + 1 + n ≤ ns.length ∧
      (ns.drop (place + 1)).take n = xs.map Int.ofNat ∧ Tail ns (place + 1 + n) (stp s c xs).1 (out ++ (((stp s c xs).2.length : Int) :: (stp s c xs).2)) := by
  obtain ⟨f, cs, hp, ha, ho⟩ := T.ex
  have hd : ns.drop place = ns[place] :: ns.drop (place + 1) := List.drop_eq_getElem_cons h
  rw [hd] at hp
  obtain ⟨f', c, n, cs', e, hc, hn, hle, rfl, hp'⟩ := calls_cons hp
  have a1 := asked1_nat (ha _ List.mem_cons_self)
  obtain ⟨xs, ex, hx⟩ := ints_nat a1
  have hl : xs.length = n := by
    have := congrArg List.length ex
    rw [List.length_map, List.length_take, List.length_drop] at this
    rw [List.length_drop] at hle
    omega
  refine ⟨c, n, xs, by rw [List.getElem?_eq_getElem h, e], hc, hn, hl, hx, by rw [List.length_drop] at hle; omega, ex, by rw [List.length_drop] at hle; omega, f', cs', ?_, fun z hz => ha z (List.mem_cons_of_mem _ hz), ?_⟩
  · rw [List.drop_drop] at hp'
    exact hp'
  · have : PyFlat.played Kh352Neutral.step s ([ns[place] :: (ns.drop (place + 1)).take n] :: cs') = (stp s c xs).2 :: PyFlat.played Kh352Neutral.step (stp s c xs).1 cs' := by
      show (Kh352Neutral.step s _).2 :: PyFlat.played _ (Kh352Neutral.step s _).1 cs' = _
      rw [ex, e]
      rfl
    rw [this, told_cons] at ho
    rw [List.append_assoc]
    exact ho

theorem Tail.done {ns : List Int} {place : Nat} {s : Option Abs} {out : List Int} (T : Tail ns place s out) (h : ns.length ≤ place) : out = PyKh352.answers ns := by
  obtain ⟨f, cs, hp, ha, ho⟩ := T.ex
  rw [List.drop_eq_nil_of_le h] at hp
  have := calls_nil hp
  subst this
  simpa [PyFlat.played, PyFlat.told] using ho

theorem Tail.short {ns : List Int} {place : Nat} {s : Option Abs} {out : List Int} (T : Tail ns place s out) : out.length ≤ (PyKh352.answers ns).length := by
  obtain ⟨f, cs, hp, ha, ho⟩ := T.ex
  rw [← ho, List.length_append]
  omega

/-! ### what stays true of a state -/
structure KeptOk (k : Kept) : Prop where
  w1 : 1 ≤ k.wide
  w2 : k.wide ≤ 60
  x1 : 1 ≤ k.across
  x2 : k.across ≤ 200
  y1 : 1 ≤ k.along
  y2 : k.along ≤ 200
  d : k.doors.length ≤ 5
  s : k.sides.length ≤ 5
  di : ∀ e ∈ k.doors, e.1 < e.2 ∧ e.2 ≤ k.across
  si : ∀ e ∈ k.sides, e.1 < e.2 ∧ e.2 ≤ k.along
def cur (a : Abs) : Kept := ⟨a.wide, a.across, a.along, a.doors, a.sides⟩
structure AbsOk (a : Abs) : Prop where
  now : KeptOk (cur a)
  undo : ∀ k ∈ a.undo, KeptOk k
  few : a.undo.length ≤ 10

theorem keep_ok {a b : Abs} (h : AbsOk a) (hb : KeptOk (cur b)) : AbsOk (keep a b) := by
  refine ⟨hb, fun k hk => ?_, ?_⟩
  · have hk' : k ∈ ((cur a) :: a.undo).take 10 := hk
    rcases List.mem_cons.mp (List.mem_of_mem_take hk') with rfl | hk'
    · exact h.now
    · exact h.undo k hk'
  · show (((cur a) :: a.undo).take 10).length ≤ 10
    rw [List.length_take]
    omega

theorem okRoom_iff {w x y : Nat} : okRoom w x y = true ↔ (1 ≤ w ∧ w ≤ 60 ∧ 1 ≤ x ∧ x ≤ 200 ∧ 1 ≤ y ∧ y ≤ 200) := by
  unfold okRoom
  simp only [Bool.and_eq_true, decide_eq_true_eq]
theorem okDoor_iff {x f t : Nat} : okDoor x f t = true ↔ (f < t ∧ t ≤ x) := by
  unfold okDoor
  simp only [Bool.and_eq_true, decide_eq_true_eq]

def OptOk : Option Abs → Prop
  | none => True
  | some a => AbsOk a

theorem mem_eraseIdx' {α : Type} : ∀ {l : List α} {i : Nat} {x : α}, x ∈ l.eraseIdx i → x ∈ l := fun h => List.mem_of_mem_eraseIdx h

theorem doing_ok {s : Option Abs} (c : Call) (h : OptOk s) : OptOk (doing s c).1 := by
  cases c with
  | begin_ w x y =>
    cases hr : okRoom w x y with
    | false => 
      have e : (doing s (.begin_ w x y)).1 = s := by unfold doing; simp only [hr, if_true]
      rw [e]; exact h
    | true =>
      have e : (doing s (.begin_ w x y)).1 = some (begun w x y) := by unfold doing; simp only [hr, Bool.true_eq_false, if_false]
      rw [e]
      obtain ⟨h1, h2, h3, h4, h5, h6⟩ := okRoom_iff.mp hr
      exact ⟨⟨h1, h2, h3, h4, h5, h6, Nat.zero_le _, Nat.zero_le _, fun _ z => (nomatch z), fun _ z => (nomatch z)⟩, fun _ z => (nomatch z), Nat.zero_le _⟩
  | door f t =>
    cases s with
    | none => exact trivial
    | some a =>
      simp only [doing]
      split
      · exact h
      · rename_i hd
        split
        · exact h
        · rename_i hl
          have hd' := okDoor_iff.mp (by simpa using hd)
          have h : AbsOk a := h
          refine keep_ok h ⟨h.now.w1, h.now.w2, h.now.x1, h.now.x2, h.now.y1, h.now.y2, ?_, h.now.s, fun e he => ?_, h.now.si⟩
          · show (a.doors ++ [(f, t)]).length ≤ 5
            rw [List.length_append, List.length_singleton]
            have : ¬ 5 ≤ a.doors.length := hl
            omega
          · have he' : e ∈ a.doors ++ [(f, t)] := he
            rcases List.mem_append.mp he' with q | q
            · exact h.now.di e q
            · rw [List.mem_singleton] at q
              subst q
              exact hd'
  | side f t =>
    cases s with
    | none => exact trivial
    | some a =>
      simp only [doing]
      split
      · exact h
      · rename_i hd
        split
        · exact h
        · rename_i hl
          have hd' := okDoor_iff.mp (by simpa using hd)
          have h : AbsOk a := h
          refine keep_ok h ⟨h.now.w1, h.now.w2, h.now.x1, h.now.x2, h.now.y1, h.now.y2, h.now.d, ?_, h.now.di, fun e he => ?_⟩
          · show (a.sides ++ [(f, t)]).length ≤ 5
            rw [List.length_append, List.length_singleton]
            have : ¬ 5 ≤ a.sides.length := hl
            omega
          · have he' : e ∈ a.sides ++ [(f, t)] := he
            rcases List.mem_append.mp he' with q | q
            · exact h.now.si e q
            · rw [List.mem_singleton] at q
              subst q
              exact hd'
  | undoor i =>
    cases s with
    | none => exact trivial
    | some a =>
      simp only [doing]
      split
      · exact h
      · have h : AbsOk a := h
        refine keep_ok h ⟨h.now.w1, h.now.w2, h.now.x1, h.now.x2, h.now.y1, h.now.y2, ?_, h.now.s, fun e he => h.now.di e (mem_eraseIdx' he), h.now.si⟩
        exact Nat.le_trans (List.length_eraseIdx_le _ _) h.now.d
  | unside i =>
    cases s with
    | none => exact trivial
    | some a =>
      simp only [doing]
      split
      · exact h
      · have h : AbsOk a := h
        refine keep_ok h ⟨h.now.w1, h.now.w2, h.now.x1, h.now.x2, h.now.y1, h.now.y2, h.now.d, ?_, h.now.di, fun e he => h.now.si e (mem_eraseIdx' he)⟩
        exact Nat.le_trans (List.length_eraseIdx_le _ _) h.now.s
  | wide w =>
    cases s with
    | none => exact trivial
    | some a =>
      simp only [doing]
      split
      · exact h
      · rename_i hw
        have h : AbsOk a := h
        exact keep_ok h ⟨by show 1 ≤ w; omega, by show w ≤ 60; omega, h.now.x1, h.now.x2, h.now.y1, h.now.y2, h.now.d, h.now.s, h.now.di, h.now.si⟩
  | room x y =>
    cases s with
    | none => exact trivial
    | some a =>
      simp only [doing]
      split
      · exact h
      · rename_i hr
        split
        · exact h
        · rename_i hb
          have h : AbsOk a := h
          obtain ⟨_, _, h3, h4, h5, h6⟩ := okRoom_iff.mp (by simpa using hr)
          simp only [not_or, List.any_eq_true, decide_eq_true_eq, not_exists, not_and, Nat.not_lt] at hb
          exact keep_ok h ⟨h.now.w1, h.now.w2, h3, h4, h5, h6, h.now.d, h.now.s, fun e he => ⟨(h.now.di e he).1, hb.1 e he⟩, fun e he => ⟨(h.now.si e he).1, hb.2 e he⟩⟩
  | back =>
    cases s with
    | none => exact trivial
    | some a =>
      have h : AbsOk a := h
      obtain ⟨w, x, y, d, e, u⟩ := a
      cases u with
      | nil => exact h
      | cons k u =>
        have hk := h.undo k List.mem_cons_self
        refine ⟨hk, fun z hz => h.undo z (List.mem_cons_of_mem _ hz), ?_⟩
        have := h.few
        show u.length ≤ 10
        have q : (k :: u).length ≤ 10 := this
        rw [List.length_cons] at q
        omega
  | turn =>
    cases s with
    | none => exact trivial
    | some a =>
      have h : AbsOk a := h
      exact keep_ok h ⟨h.now.w1, h.now.w2, h.now.y1, h.now.y2, h.now.x1, h.now.x2, h.now.s, h.now.d, h.now.si, h.now.di⟩
  | seams o => cases s with
    | none => exact trivial
    | some a => simp only [doing]; split <;> exact h
  | strips o => cases s with
    | none => exact trivial
    | some a => simp only [doing]; split <;> exact h
  | clear o => cases s with
    | none => exact trivial
    | some a => simp only [doing]; split <;> exact h
  | firsts => cases s with
    | none => exact trivial
    | some a => exact h
  | best => cases s with
    | none => exact trivial
    | some a => simp only [doing]; split <;> exact h
  | fewest => cases s with
    | none => exact trivial
    | some a => simp only [doing]; split <;> exact h
  | wayRound => cases s with
    | none => exact trivial
    | some a => simp only [doing]; split <;> exact h
  | widths f t => cases s with
    | none => exact trivial
    | some a => simp only [doing]; split <;> exact h
  | bestWidth f t => cases s with
    | none => exact trivial
    | some a => simp only [doing]; split; exact h; split <;> exact h
  | could f t => cases s with
    | none => exact trivial
    | some a => simp only [doing]; split <;> exact h
  | widest f => cases s with
    | none => exact trivial
    | some a => simp only [doing]; split; exact h; split <;> exact h
  | hits o => cases s with
    | none => exact trivial
    | some a => simp only [doing]; split <;> exact h
  | state => cases s with
    | none => exact trivial
    | some a => exact h

theorem stp_ok {s : Option Abs} {c : Nat} {xs : List Nat} (h : OptOk s) : OptOk (stp s c xs).1 := doing_ok _ h

theorem all_getD {α : Type} (es : List α) (c : α → Prop) {d : α} : (∀ i, i < es.length → c (es.getD i d)) ↔ ∀ e ∈ es, c e := by
  constructor
  · intro h e he
    obtain ⟨i, hi, rfl⟩ := List.getElem_of_mem he
    have := h i hi
    rw [List.getD_eq_getElem?_getD, List.getElem?_eq_getElem hi] at this
    exact this
  · intro h i hi
    rw [List.getD_eq_getElem?_getD, List.getElem?_eq_getElem hi]
    exact h _ (List.getElem_mem hi)
theorem any_getD {α : Type} (es : List α) (c : α → Prop) {d : α} : (∃ i, i < es.length ∧ c (es.getD i d)) ↔ ∃ e, e ∈ es ∧ c e := by
  constructor
  · rintro ⟨i, hi, h⟩
    rw [List.getD_eq_getElem?_getD, List.getElem?_eq_getElem hi] at h
    exact ⟨_, List.getElem_mem hi, h⟩
  · rintro ⟨e, he, h⟩
    obtain ⟨i, hi, rfl⟩ := List.getElem_of_mem he
    refine ⟨i, hi, ?_⟩
    rw [List.getD_eq_getElem?_getD, List.getElem?_eq_getElem hi]
    exact h

/-- the last ten, newest last -/
theorem last_ten {α : Type} (x : α) (u : List α) : (u.reverse ++ [x]).drop ((u.reverse ++ [x]).length - 10) = ((x :: u).take 10).reverse := by
  rw [← List.reverse_cons, List.length_reverse, List.reverse_take]

/-! ### the calls one by one -/
/-- a state and an answer as numbers -/
def told (r : Option Abs × Ans) : Option Abs × List Int := (r.1, r.2.ret :: r.2.out.map Int.ofNat)
theorem stp_begin_ (s : Option Abs) (x y z : Nat) : stp s 0 [x, y, z] = told (doing s (.begin_ x y z)) := rfl
theorem stp_door (s : Option Abs) (x y : Nat) : stp s 1 [x, y] = told (doing s (.door x y)) := rfl
theorem stp_side (s : Option Abs) (x y : Nat) : stp s 2 [x, y] = told (doing s (.side x y)) := rfl
theorem stp_undoor (s : Option Abs) (x : Nat) : stp s 3 [x] = told (doing s (.undoor x)) := rfl
theorem stp_unside (s : Option Abs) (x : Nat) : stp s 4 [x] = told (doing s (.unside x)) := rfl
theorem stp_wide (s : Option Abs) (x : Nat) : stp s 5 [x] = told (doing s (.wide x)) := rfl
theorem stp_room (s : Option Abs) (x y : Nat) : stp s 6 [x, y] = told (doing s (.room x y)) := rfl
theorem stp_back (s : Option Abs) : stp s 7 [] = told (doing s (.back)) := rfl
theorem stp_seams (s : Option Abs) (x : Nat) : stp s 8 [x] = told (doing s (.seams x)) := rfl
theorem stp_strips (s : Option Abs) (x : Nat) : stp s 9 [x] = told (doing s (.strips x)) := rfl
theorem stp_clear (s : Option Abs) (x : Nat) : stp s 10 [x] = told (doing s (.clear x)) := rfl
theorem stp_firsts (s : Option Abs) : stp s 11 [] = told (doing s (.firsts)) := rfl
theorem stp_best (s : Option Abs) : stp s 12 [] = told (doing s (.best)) := rfl
theorem stp_fewest (s : Option Abs) : stp s 13 [] = told (doing s (.fewest)) := rfl
theorem stp_wayRound (s : Option Abs) : stp s 14 [] = told (doing s (.wayRound)) := rfl
theorem stp_turn (s : Option Abs) : stp s 15 [] = told (doing s (.turn)) := rfl
theorem stp_widths (s : Option Abs) (x y : Nat) : stp s 16 [x, y] = told (doing s (.widths x y)) := rfl
theorem stp_bestWidth (s : Option Abs) (x y : Nat) : stp s 17 [x, y] = told (doing s (.bestWidth x y)) := rfl
theorem stp_could (s : Option Abs) (x y : Nat) : stp s 18 [x, y] = told (doing s (.could x y)) := rfl
theorem stp_widest (s : Option Abs) (x : Nat) : stp s 19 [x] = told (doing s (.widest x)) := rfl
theorem stp_hits (s : Option Abs) (x : Nat) : stp s 20 [x] = told (doing s (.hits x)) := rfl
theorem stp_state (s : Option Abs) : stp s 21 [] = told (doing s (.state)) := rfl

/-- ahead of a begin -/
theorem stp_none {c : Nat} {xs : List Nat} (h : c ≠ 0) (hc : c < 22) (hx : argc[c]? = some xs.length) : stp none c xs = (none, [-61]) := by
  match c, hc, xs, hx with
  | 0, _, _, _ => exact absurd rfl h
  | 1, _, [x, y], _ => rfl
  | 2, _, [x, y], _ => rfl
  | 3, _, [x], _ => rfl
  | 4, _, [x], _ => rfl
  | 5, _, [x], _ => rfl
  | 6, _, [x, y], _ => rfl
  | 7, _, [], _ => rfl
  | 8, _, [x], _ => rfl
  | 9, _, [x], _ => rfl
  | 10, _, [x], _ => rfl
  | 11, _, [], _ => rfl
  | 12, _, [], _ => rfl
  | 13, _, [], _ => rfl
  | 14, _, [], _ => rfl
  | 15, _, [], _ => rfl
  | 16, _, [x, y], _ => rfl
  | 17, _, [x, y], _ => rfl
  | 18, _, [x, y], _ => rfl
  | 19, _, [x], _ => rfl
  | 20, _, [x], _ => rfl
  | 21, _, [], _ => rfl

end Sd

set_option Elab.async false
/-! The mathematics of stage 2: the best first strip, the best width, the widest door, hits. -/
namespace Sd
open Kh352

/-! ### the best one -/
/-- b does as well as o, or better -/
def Bt (w x b o : Nat) : Prop := strips w x b < strips w x o ∨ (strips w x b = strips w x o ∧ (narrow w x o < narrow w x b ∨ (narrow w x o = narrow w x b ∧ o ≤ b)))
instance (w x a b : Nat) : Decidable (Bt w x a b) := by unfold Bt; infer_instance
theorem snoc_rec {α : Type} {P : List α → Prop} (nil : P []) (snoc : ∀ l a, P l → P (l ++ [a])) (l : List α) : P l := by
  rw [← List.reverse_reverse l]
  induction l.reverse with
  | nil => exact nil
  | cons a l ih => rw [List.reverse_cons]; exact snoc _ _ ih
theorem Bt.refl (w x b : Nat) : Bt w x b b := .inr ⟨rfl, .inr ⟨rfl, Nat.le_refl _⟩⟩
theorem Bt.trans {w x a b c : Nat} (h : Bt w x a b) (k : Bt w x b c) : Bt w x a c := by
  unfold Bt at *
  omega
theorem Bt.anti {w x a b : Nat} (h : Bt w x a b) (k : Bt w x b a) : a = b := by
  unfold Bt at *
  omega
theorem Bt.total (w x a b : Nat) : Bt w x a b ∨ Bt w x b a := by
  unfold Bt
  omega
/-- the spec's step -/
def bstep (w x : Nat) (b : Option Nat) (o : Nat) : Option Nat := match b with
  | none => some o
  | some k => if strips w x o < strips w x k ∨ (strips w x o = strips w x k ∧ narrow w x k ≤ narrow w x o) then some o else some k
def bestOf (w x : Nat) (l : List Nat) : Option Nat := l.foldl (bstep w x) none
theorem best_bestOf (d : List (Nat × Nat)) (w x : Nat) : best d w x = bestOf w x (firsts d w x) := rfl
theorem bestOf_snoc (w x : Nat) (l : List Nat) (o : Nat) : bestOf w x (l ++ [o]) = bstep w x (bestOf w x l) o := by
  unfold bestOf
  rw [List.foldl_append]
  rfl
theorem bstep_some (w x k o : Nat) (h : k ≤ o) : bstep w x (some k) o = if Bt w x o k then some o else some k := by
  unfold bstep
  dsimp only
  by_cases c : strips w x o < strips w x k ∨ (strips w x o = strips w x k ∧ narrow w x k ≤ narrow w x o)
  · have : Bt w x o k := by unfold Bt; omega
    simp only [c, this, if_true]
  · have : ¬ Bt w x o k := by unfold Bt; omega
    simp only [c, this, if_false]
/-- rising lists: the best of them -/
theorem bestOf_good (w x : Nat) : ∀ (l : List Nat), List.Pairwise (· < ·) l → (l = [] ∧ bestOf w x l = none) ∨ ∃ b, bestOf w x l = some b ∧ b ∈ l ∧ ∀ o ∈ l, Bt w x b o := by
  intro l
  refine snoc_rec (P := fun l => List.Pairwise (· < ·) l → (l = [] ∧ bestOf w x l = none) ∨ ∃ b, bestOf w x l = some b ∧ b ∈ l ∧ ∀ o ∈ l, Bt w x b o) (fun _ => .inl ⟨rfl, rfl⟩) (fun l o ih => ?_) l
  · intro hp
    right
    rw [List.pairwise_append] at hp
    rw [bestOf_snoc]
    rcases ih hp.1 with ⟨rfl, e⟩ | ⟨b, e, hb, hall⟩
    · rw [e]
      refine ⟨o, rfl, by simp, fun z hz => ?_⟩
      have : z = o := by simpa using hz
      subst this
      exact Bt.refl ..
    · rw [e]
      have hlt : b < o := hp.2.2 b hb o (by simp)
      rw [bstep_some w x b o (Nat.le_of_lt hlt)]
      by_cases c : Bt w x o b
      · rw [if_pos c]
        refine ⟨o, rfl, by simp, fun z hz => ?_⟩
        rcases List.mem_append.mp hz with h | h
        · exact c.trans (hall z h)
        · have : z = o := by simpa using h
          subst this
          exact Bt.refl ..
      · rw [if_neg c]
        refine ⟨b, rfl, List.mem_append_left _ hb, fun z hz => ?_⟩
        rcases List.mem_append.mp hz with h | h
        · exact hall z h
        · have : z = o := by simpa using h
          subst this
          exact (Bt.total w x b z).resolve_right c
theorem firsts_rising (d : List (Nat × Nat)) (w x : Nat) : List.Pairwise (· < ·) (firsts d w x) := List.Pairwise.filter _ List.pairwise_lt_range
theorem mem_firsts {d : List (Nat × Nat)} {w x o : Nat} : o ∈ firsts d w x ↔ 1 ≤ o ∧ o ≤ w ∧ clear d w x o = true := by
  unfold firsts
  rw [List.mem_filter, List.mem_range, Bool.and_eq_true, decide_eq_true_eq]
  constructor
  · rintro ⟨h1, h2, h3⟩
    exact ⟨h2, by omega, h3⟩
  · rintro ⟨h1, h2, h3⟩
    exact ⟨by omega, h1, h3⟩
theorem best_some {d : List (Nat × Nat)} {w x b : Nat} : best d w x = some b ↔ b ∈ firsts d w x ∧ ∀ o ∈ firsts d w x, Bt w x b o := by
  rw [best_bestOf]
  rcases bestOf_good w x _ (firsts_rising d w x) with ⟨e, h⟩ | ⟨b', e, hb, hall⟩
  · rw [h, e]
    constructor
    · intro z; cases z
    · rintro ⟨z, _⟩; cases z
  · rw [e]
    constructor
    · intro z
      cases z
      exact ⟨hb, hall⟩
    · rintro ⟨h1, h2⟩
      rw [(hall b h1).anti (h2 b' hb)]
theorem best_none {d : List (Nat × Nat)} {w x : Nat} : best d w x = none ↔ firsts d w x = [] := by
  rw [best_bestOf]
  rcases bestOf_good w x _ (firsts_rising d w x) with ⟨e, h⟩ | ⟨b', e, hb, hall⟩
  · rw [h, e]
    simp
  · rw [e]
    constructor
    · intro z; cases z
    · intro z; rw [z] at hb; cases hb
theorem best_isSome {d : List (Nat × Nat)} {w x : Nat} : (best d w x).isSome = true ↔ ∃ o, 1 ≤ o ∧ o ≤ w ∧ clear d w x o = true := by
  cases h : best d w x with
  | none =>
    have := best_none.mp h
    constructor
    · intro z; cases z
    · rintro ⟨o, ho⟩
      have := mem_firsts.mpr ho
      rw [best_none.mp h] at this
      cases this
  | some b =>
    exact ⟨fun _ => ⟨b, mem_firsts.mp (best_some.mp h).1⟩, fun _ => rfl⟩
theorem best_isSome_firsts {d : List (Nat × Nat)} {w x : Nat} : (best d w x).isSome = !(firsts d w x).isEmpty := by
  cases h : best d w x with
  | none => rw [best_none.mp h]; rfl
  | some b =>
    have := (best_some.mp h).1
    cases q : firsts d w x with
    | nil => rw [q] at this; cases this
    | cons => rfl
/-- the fewest: the least number of strips -/
theorem best_fewest {d : List (Nat × Nat)} {w x b : Nat} (h : best d w x = some b) {n : Nat} (h1 : ∃ o ∈ firsts d w x, strips w x o = n) (h2 : ∀ o ∈ firsts d w x, n ≤ strips w x o) : strips w x b = n := by
  obtain ⟨o, ho, rfl⟩ := h1
  obtain ⟨hb, hall⟩ := best_some.mp h
  have := h2 b hb
  have q := hall o ho
  unfold Bt at q
  omega
/-- firsts as a tested range from 1 -/
theorem firsts_range (d : List (Nat × Nat)) (w x : Nat) : firsts d w x = ((List.range w).map (· + 1)).filter fun o => clear d w x o := by
  unfold firsts
  rw [List.range_succ_eq_map, List.filter_cons_of_neg (by simp)]
  refine List.filter_congr fun o ho => ?_
  obtain ⟨k, _, rfl⟩ := List.mem_map.mp ho
  simp
/-- .. place by place -/
theorem firsts_fm (d : List (Nat × Nat)) (w x : Nat) : firsts d w x = ((List.range w).filter fun i => clear d w x (i + 1)).map (· + 1) := by
  rw [firsts_range, List.filter_map]
  rfl
/-- the firsts up to n -/
def firstsTo (d : List (Nat × Nat)) (w x n : Nat) : List Nat := ((List.range n).filter fun i => clear d w x (i + 1)).map (· + 1)
theorem firstsTo_succ (d : List (Nat × Nat)) (w x n : Nat) : firstsTo d w x (n + 1) = firstsTo d w x n ++ (if clear d w x (n + 1) = true then [n + 1] else []) := by
  unfold firstsTo
  rw [List.range_succ, List.filter_append, List.map_append]
  congr 1
  by_cases h : clear d w x (n + 1) = true
  · rw [if_pos h, List.filter_cons, if_pos h]; rfl
  · rw [if_neg h, List.filter_cons, if_neg h]; rfl
theorem firstsTo_all (d : List (Nat × Nat)) (w x : Nat) : firstsTo d w x w = firsts d w x := (firsts_fm d w x).symm
theorem mem_firstsTo {d : List (Nat × Nat)} {w x n o : Nat} : o ∈ firstsTo d w x n ↔ 1 ≤ o ∧ o ≤ n ∧ clear d w x o = true := by
  unfold firstsTo
  rw [List.mem_map]
  constructor
  · rintro ⟨i, hi, rfl⟩
    rw [List.mem_filter, List.mem_range] at hi
    exact ⟨by omega, by omega, hi.2⟩
  · rintro ⟨h1, h2, h3⟩
    refine ⟨o - 1, ?_, by omega⟩
    rw [List.mem_filter, List.mem_range]
    refine ⟨by omega, ?_⟩
    rw [show o - 1 + 1 = o by omega]
    exact h3
theorem firstsTo_rising (d : List (Nat × Nat)) (w x n : Nat) : List.Pairwise (· < ·) (firstsTo d w x n) := by
  unfold firstsTo
  refine List.Pairwise.map _ (fun a b h => ?_) (List.Pairwise.filter _ List.pairwise_lt_range)
  omega
/-- the best of the firsts up to n -/
def bestTo (d : List (Nat × Nat)) (w x n : Nat) : Option Nat := bestOf w x (firstsTo d w x n)
theorem bestTo_zero (d : List (Nat × Nat)) (w x : Nat) : bestTo d w x 0 = none := rfl
theorem bestTo_all (d : List (Nat × Nat)) (w x : Nat) : bestTo d w x w = best d w x := by
  unfold bestTo
  rw [firstsTo_all]
  rfl
theorem bestTo_not {d : List (Nat × Nat)} {w x n : Nat} (h : clear d w x (n + 1) = false) : bestTo d w x (n + 1) = bestTo d w x n := by
  unfold bestTo
  rw [firstsTo_succ, if_neg (by rw [h]; exact Bool.false_ne_true), List.append_nil]
theorem bestTo_first {d : List (Nat × Nat)} {w x n : Nat} (h : clear d w x (n + 1) = true) (hn : bestTo d w x n = none) : bestTo d w x (n + 1) = some (n + 1) := by
  unfold bestTo at *
  rw [firstsTo_succ, if_pos h, bestOf_snoc, hn]
  rfl
theorem bestTo_le {d : List (Nat × Nat)} {w x n b : Nat} (h : bestTo d w x n = some b) : 1 ≤ b ∧ b ≤ n ∧ clear d w x b = true := by
  unfold bestTo at h
  rcases bestOf_good w x _ (firstsTo_rising d w x n) with ⟨e, q⟩ | ⟨b', e, hb, hall⟩
  · rw [q] at h; cases h
  · rw [e] at h
    cases h
    exact mem_firstsTo.mp hb
theorem bestTo_next {d : List (Nat × Nat)} {w x n b : Nat} (h : clear d w x (n + 1) = true) (hn : bestTo d w x n = some b) : bestTo d w x (n + 1) = if Bt w x (n + 1) b then some (n + 1) else some b := by
  have := (bestTo_le hn).2.1
  unfold bestTo at *
  rw [firstsTo_succ, if_pos h, bestOf_snoc, hn, bstep_some w x b (n + 1) (by omega)]

/-! ### the best width -/
/-- the carpet that is needed by a width -/
def needs (a : Abs) (w : Nat) : Nat := match best a.doors w a.across with
  | some o => area w a.across a.along o
  | none => 0
def wstep (a : Abs) (b : Option (Nat × Nat)) (w : Nat) : Option (Nat × Nat) := match best a.doors w a.across, b with
  | some o, none => some (w, area w a.across a.along o)
  | some o, some k => if area w a.across a.along o < k.2 then some (w, area w a.across a.along o) else some k
  | none, b => b
theorem bestWidth_fold (a : Abs) (f t : Nat) : bestWidth a f t = (widths a f t).foldl (wstep a) none := rfl
theorem wstep_none {a : Abs} {w o : Nat} (h : best a.doors w a.across = some o) : wstep a none w = some (w, needs a w) := by
  unfold wstep needs
  rw [h]
theorem wstep_some {a : Abs} {w o : Nat} {k : Nat × Nat} (h : best a.doors w a.across = some o) : wstep a (some k) w = if needs a w < k.2 then some (w, needs a w) else some k := by
  unfold wstep needs
  rw [h]
theorem wstep_not {a : Abs} {w : Nat} {b : Option (Nat × Nat)} (h : best a.doors w a.across = none) : wstep a b w = b := by
  unfold wstep
  rw [h]
/-- widths from f on, n of them -/
def widthsN (a : Abs) (f n : Nat) : List Nat := ((List.range n).map (f + ·)).filter fun w => (best a.doors w a.across).isSome
theorem range_from (f n : Nat) : (List.range (f + n)).filter (fun w => decide (f ≤ w)) = (List.range n).map (f + ·) := by
  induction n with
  | zero =>
    rw [Nat.add_zero, List.range_zero, List.map_nil, List.filter_eq_nil_iff]
    intro w hw
    have := List.mem_range.mp hw
    simp only [decide_eq_true_eq]
    omega
  | succ n ih =>
    rw [← Nat.add_assoc, List.range_succ, List.filter_append, ih, List.range_succ, List.map_append]
    congr 1
    rw [List.filter_cons, if_pos (by simp)]
    rfl
theorem widths_widthsN {a : Abs} {f t : Nat} (hf : 1 ≤ f) (ht : f ≤ t) : widths a f t = widthsN a f (t + 1 - f) := by
  unfold widths widthsN
  congr 1
  rw [← range_from f (t + 1 - f), show f + (t + 1 - f) = t + 1 by omega]
  refine List.filter_congr fun w _ => ?_
  by_cases h : f ≤ w
  · simp [h, show 1 ≤ w by omega]
  · simp [h]
theorem widthsN_fm (a : Abs) (f n : Nat) : widthsN a f n = ((List.range n).filter fun i => (best a.doors (f + i) a.across).isSome).map (f + ·) := by
  unfold widthsN
  rw [List.filter_map]
  rfl
theorem widthsN_succ (a : Abs) (f n : Nat) : widthsN a f (n + 1) = widthsN a f n ++ (if (best a.doors (f + n) a.across).isSome = true then [f + n] else []) := by
  unfold widthsN
  rw [List.range_succ, List.map_append, List.filter_append]
  congr 1
  by_cases h : (best a.doors (f + n) a.across).isSome = true
  · rw [if_pos h]
    show List.filter _ [f + n] = _
    rw [List.filter_cons, if_pos h]; rfl
  · rw [if_neg h]
    show List.filter _ [f + n] = _
    rw [List.filter_cons, if_neg h]; rfl
def bestWidthN (a : Abs) (f n : Nat) : Option (Nat × Nat) := (widthsN a f n).foldl (wstep a) none
theorem bestWidth_N {a : Abs} {f t : Nat} (hf : 1 ≤ f) (ht : f ≤ t) : bestWidth a f t = bestWidthN a f (t + 1 - f) := by
  rw [bestWidth_fold, widths_widthsN hf ht]
  rfl
theorem bestWidthN_zero (a : Abs) (f : Nat) : bestWidthN a f 0 = none := rfl
theorem bestWidthN_succ (a : Abs) (f n : Nat) : bestWidthN a f (n + 1) = wstep a (bestWidthN a f n) (f + n) := by
  unfold bestWidthN
  rw [widthsN_succ, List.foldl_append]
  cases h : best a.doors (f + n) a.across with
  | none =>
    rw [wstep_not h]
    rfl
  | some o => rfl
theorem bestWidthN_fst {a : Abs} {f : Nat} : ∀ {n : Nat} {k : Nat × Nat}, bestWidthN a f n = some k → f ≤ k.1 ∧ k.1 < f + n ∧ (best a.doors k.1 a.across).isSome = true ∧ k.2 = needs a k.1
  | 0, k, h => by cases h
  | n + 1, k, h => by
    rw [bestWidthN_succ] at h
    cases q : best a.doors (f + n) a.across with
    | none =>
      rw [wstep_not q] at h
      have := bestWidthN_fst h
      exact ⟨this.1, by omega, this.2.2⟩
    | some o =>
      cases r : bestWidthN a f n with
      | none =>
        rw [r, wstep_none q] at h
        cases h
        exact ⟨by simp, by simp, by rw [q]; rfl, rfl⟩
      | some k' =>
        rw [r, wstep_some q] at h
        by_cases c : needs a (f + n) < k'.2
        · rw [if_pos c] at h
          cases h
          exact ⟨by simp, by simp, by rw [q]; rfl, rfl⟩
        · rw [if_neg c] at h
          cases h
          have := bestWidthN_fst r
          exact ⟨this.1, by omega, this.2.2⟩

/-! ### the widest door, and hits -/
/-- ends by which a door from f lets it be clear -/
def ends (a : Abs) (f : Nat) : List Nat := (List.range (a.across + 1)).filter fun t => decide (f < t) && (best (a.doors ++ [(f, t)]) a.wide a.across).isSome
theorem ends_mem {a : Abs} {f t : Nat} : t ∈ ends a f ↔ f < t ∧ t ≤ a.across ∧ (best (a.doors ++ [(f, t)]) a.wide a.across).isSome = true := by
  unfold ends
  rw [List.mem_filter, List.mem_range, Bool.and_eq_true, decide_eq_true_eq]
  constructor
  · rintro ⟨h1, h2, h3⟩
    exact ⟨h2, by omega, h3⟩
  · rintro ⟨h1, h2, h3⟩
    exact ⟨by omega, h1, h3⟩
theorem last_rising : ∀ {l : List Nat}, List.Pairwise (· < ·) l → ∀ {t : Nat}, l.getLast? = some t ↔ t ∈ l ∧ ∀ z ∈ l, z ≤ t := by
  intro l
  refine snoc_rec (P := fun l => List.Pairwise (· < ·) l → ∀ {t : Nat}, l.getLast? = some t ↔ t ∈ l ∧ ∀ z ∈ l, z ≤ t) (fun _ => by intro t; simp) (fun l o _ => ?_) l
  · intro hp t
    rw [List.pairwise_append] at hp
    rw [List.getLast?_concat]
    constructor
    · intro z
      cases z
      refine ⟨by simp, fun z hz => ?_⟩
      rcases List.mem_append.mp hz with h | h
      · exact Nat.le_of_lt (hp.2.2 z h _ (by simp))
      · have : z = o := by simpa using h
        omega
    · rintro ⟨h1, h2⟩
      rcases List.mem_append.mp h1 with h | h
      · have q1 := hp.2.2 t h o (by simp)
        have q2 := h2 o (by simp)
        omega
      · have : t = o := by simpa using h
        rw [this]
theorem ends_rising (a : Abs) (f : Nat) : List.Pairwise (· < ·) (ends a f) := List.Pairwise.filter _ List.pairwise_lt_range
theorem ends_last {a : Abs} {f t : Nat} : (ends a f).getLast? = some t ↔ t ∈ ends a f ∧ ∀ z ∈ ends a f, z ≤ t := last_rising (ends_rising a f)
theorem ends_none {a : Abs} {f : Nat} : (ends a f).getLast? = none ↔ ∀ t, f < t → t ≤ a.across → (best (a.doors ++ [(f, t)]) a.wide a.across).isSome = false := by
  rw [List.getLast?_eq_none_iff]
  constructor
  · intro h t h1 h2
    cases q : (best (a.doors ++ [(f, t)]) a.wide a.across).isSome with
    | false => rfl
    | true =>
      have := ends_mem.mpr ⟨h1, h2, q⟩
      rw [h] at this
      cases this
  · intro h
    refine List.eq_nil_iff_forall_not_mem.mpr fun t ht => ?_
    obtain ⟨h1, h2, h3⟩ := ends_mem.mp ht
    rw [h t h1 h2] at h3
    cases h3
/-- a door alone -/
theorem clear_one {d : List (Nat × Nat)} {i w x o : Nat} {e : Nat × Nat} (h : d[i]? = some e) : (!clear ((d[i]?).toList) w x o) = (seams w x o).any fun p => decide (e.1 < p ∧ p < e.2) := by
  rw [h]
  unfold clear
  rw [List.not_all_eq_any_not]
  congr 1
  funext p
  simp only [Option.toList, List.all_cons, List.all_nil, Bool.and_true, Bool.not_or]
  rw [Bool.eq_iff_iff]
  simp only [Bool.and_eq_true, Bool.not_eq_true', decide_eq_false_iff_not, decide_eq_true_eq]
  omega
theorem clear_app {d : List (Nat × Nat)} {e : Nat × Nat} {w x o : Nat} : clear (d ++ [e]) w x o = (clear d w x o && clear [e] w x o) := by
  unfold clear
  rw [Bool.eq_iff_iff]
  simp only [Bool.and_eq_true, List.all_eq_true, List.mem_append, List.mem_singleton]
  constructor
  · intro h
    exact ⟨fun p hp z hz => h p hp z (.inl hz), fun p hp z hz => h p hp z (.inr hz)⟩
  · rintro ⟨h1, h2⟩ p hp z (hz | hz)
    · exact h1 p hp z hz
    · exact h2 p hp z hz
/-- a longer door bars no less -/
theorem clear_shorter {f t t' w x o : Nat} (h : t ≤ t') (k : clear [(f, t')] w x o = true) : clear [(f, t)] w x o = true := by
  unfold clear at *
  simp only [List.all_eq_true, List.mem_singleton, Bool.or_eq_true, decide_eq_true_eq, forall_eq] at *
  intro p hp
  have := k p hp
  omega
theorem ends_down {a : Abs} {f t t' : Nat} (h : t' ∈ ends a f) (h1 : f < t) (h2 : t ≤ t') : t ∈ ends a f := by
  obtain ⟨q1, q2, q3⟩ := ends_mem.mp h
  refine ends_mem.mpr ⟨h1, by omega, ?_⟩
  obtain ⟨o, o1, o2, o3⟩ := best_isSome.mp q3
  refine best_isSome.mpr ⟨o, o1, o2, ?_⟩
  rw [clear_app, Bool.and_eq_true] at o3 ⊢
  exact ⟨o3.1, clear_shorter h2 o3.2⟩
end Sd

set_option Elab.async false
/-! The ways of each call: what is left, what is answered. -/
namespace Sd
open Kh352
def absOf (k : Kept) (u : List Kept) : Abs := ⟨k.wide, k.across, k.along, k.doors, k.sides, u⟩
/-- the undo behind a change -/
def grown (a : Abs) : List Kept := (cur a :: a.undo).take 10
theorem absOf_cur (a : Abs) : absOf (cur a) a.undo = a := rfl

theorem okDoor_no {x f t : Nat} : okDoor x f t = false ↔ ¬ (f < t ∧ t ≤ x) := by
  cases h : okDoor x f t with
  | false => exact ⟨fun _ z => (by rw [okDoor_iff.mpr z] at h; cases h), fun _ => rfl⟩
  | true => exact ⟨fun z => (by cases z), fun z => absurd (okDoor_iff.mp h) z⟩
theorem okRoom_no {w x y : Nat} : okRoom w x y = false ↔ ¬ (1 ≤ w ∧ w ≤ 60 ∧ 1 ≤ x ∧ x ≤ 200 ∧ 1 ≤ y ∧ y ≤ 200) := by
  cases h : okRoom w x y with
  | false => exact ⟨fun _ z => (by rw [okRoom_iff.mpr z] at h; cases h), fun _ => rfl⟩
  | true => exact ⟨fun z => (by cases z), fun z => absurd (okRoom_iff.mp h) z⟩

section
variable {s : Option Abs} {a : Abs} {f t i o x y w : Nat}
theorem way_begin_no (h : ¬ (1 ≤ w ∧ w ≤ 60 ∧ 1 ≤ x ∧ x ≤ 200 ∧ 1 ≤ y ∧ y ≤ 200)) : stp s 0 [w, x, y] = (s, [-22]) := by
  rw [stp_begin_]; unfold doing; dsimp only; rw [if_pos (okRoom_no.mpr h)]; rfl
theorem way_begin (h : 1 ≤ w ∧ w ≤ 60 ∧ 1 ≤ x ∧ x ≤ 200 ∧ 1 ≤ y ∧ y ≤ 200) : stp s 0 [w, x, y] = (some (absOf ⟨w, x, y, [], []⟩ []), [0]) := by
  rw [stp_begin_]; unfold doing; dsimp only; rw [if_neg (by rw [okRoom_iff.mpr h]; decide)]; rfl
theorem way_door_no (h : ¬ (f < t ∧ t ≤ a.across)) : stp (some a) 1 [f, t] = (some a, [-22]) := by
  rw [stp_door]; unfold doing; dsimp only; rw [if_pos (okDoor_no.mpr h)]; rfl
theorem way_door_many (h : f < t ∧ t ≤ a.across) (h2 : 5 ≤ a.doors.length) : stp (some a) 1 [f, t] = (some a, [-28]) := by
  rw [stp_door]; unfold doing; dsimp only; rw [if_neg (by rw [okDoor_iff.mpr h]; decide), if_pos (show DOORS ≤ _ from h2)]; rfl
theorem way_door (h : f < t ∧ t ≤ a.across) (h2 : ¬ 5 ≤ a.doors.length) : stp (some a) 1 [f, t] = (some (absOf ⟨a.wide, a.across, a.along, a.doors ++ [(f, t)], a.sides⟩ (grown a)), [(a.doors.length : Int)]) := by
  rw [stp_door]; unfold doing; dsimp only; rw [if_neg (by rw [okDoor_iff.mpr h]; decide), if_neg (show ¬ DOORS ≤ _ from h2)]; rfl
theorem way_side_no (h : ¬ (f < t ∧ t ≤ a.along)) : stp (some a) 2 [f, t] = (some a, [-22]) := by
  rw [stp_side]; unfold doing; dsimp only; rw [if_pos (okDoor_no.mpr h)]; rfl
theorem way_side_many (h : f < t ∧ t ≤ a.along) (h2 : 5 ≤ a.sides.length) : stp (some a) 2 [f, t] = (some a, [-28]) := by
  rw [stp_side]; unfold doing; dsimp only; rw [if_neg (by rw [okDoor_iff.mpr h]; decide), if_pos (show DOORS ≤ _ from h2)]; rfl
theorem way_side (h : f < t ∧ t ≤ a.along) (h2 : ¬ 5 ≤ a.sides.length) : stp (some a) 2 [f, t] = (some (absOf ⟨a.wide, a.across, a.along, a.doors, a.sides ++ [(f, t)]⟩ (grown a)), [(a.sides.length : Int)]) := by
  rw [stp_side]; unfold doing; dsimp only; rw [if_neg (by rw [okDoor_iff.mpr h]; decide), if_neg (show ¬ DOORS ≤ _ from h2)]; rfl
theorem way_undoor_no (h : a.doors.length ≤ i) : stp (some a) 3 [i] = (some a, [-2]) := by
  rw [stp_undoor]; unfold doing; dsimp only; rw [if_pos h]; rfl
theorem way_undoor (h : ¬ a.doors.length ≤ i) : stp (some a) 3 [i] = (some (absOf ⟨a.wide, a.across, a.along, a.doors.eraseIdx i, a.sides⟩ (grown a)), [((a.doors.length - 1 : Nat) : Int)]) := by
  rw [stp_undoor]; unfold doing; dsimp only; rw [if_neg h]; rfl
theorem way_unside_no (h : a.sides.length ≤ i) : stp (some a) 4 [i] = (some a, [-2]) := by
  rw [stp_unside]; unfold doing; dsimp only; rw [if_pos h]; rfl
theorem way_unside (h : ¬ a.sides.length ≤ i) : stp (some a) 4 [i] = (some (absOf ⟨a.wide, a.across, a.along, a.doors, a.sides.eraseIdx i⟩ (grown a)), [((a.sides.length - 1 : Nat) : Int)]) := by
  rw [stp_unside]; unfold doing; dsimp only; rw [if_neg h]; rfl
theorem way_wide_no (h : ¬ (1 ≤ w ∧ w ≤ 60)) : stp (some a) 5 [w] = (some a, [-22]) := by
  rw [stp_wide]; unfold doing; dsimp only; rw [if_pos (by omega)]; rfl
theorem way_wide (h : 1 ≤ w ∧ w ≤ 60) : stp (some a) 5 [w] = (some (absOf ⟨w, a.across, a.along, a.doors, a.sides⟩ (grown a)), [(a.wide : Int)]) := by
  rw [stp_wide]; unfold doing; dsimp only; rw [if_neg (by omega)]; rfl
theorem way_room_no (h : ¬ (1 ≤ x ∧ x ≤ 200 ∧ 1 ≤ y ∧ y ≤ 200)) : stp (some a) 6 [x, y] = (some a, [-22]) := by
  rw [stp_room]; unfold doing; dsimp only; rw [if_pos (okRoom_no.mpr (by omega))]; rfl
theorem beyond_iff {es : List (Nat × Nat)} {x : Nat} : (es.any fun e => decide (x < e.2)) = true ↔ ¬ ∀ e ∈ es, e.2 ≤ x := by
  rw [List.any_eq_true]
  constructor
  · rintro ⟨e, he, h⟩ k
    have := k e he
    have := of_decide_eq_true h
    omega
  · intro h
    refine Classical.byContradiction fun k => h fun e he => ?_
    refine Nat.le_of_not_lt fun z => k ⟨e, he, decide_eq_true z⟩
theorem way_room_beyond (h : 1 ≤ x ∧ x ≤ 200 ∧ 1 ≤ y ∧ y ≤ 200) (h2 : ¬ ((∀ e ∈ a.doors, e.2 ≤ x) ∧ ∀ e ∈ a.sides, e.2 ≤ y)) : stp (some a) 6 [x, y] = (some a, [-16]) := by
  rw [stp_room]; unfold doing; dsimp only; rw [if_neg (by rw [okRoom_iff.mpr (by omega)]; decide), if_pos]
  · rfl
  · rw [beyond_iff, beyond_iff]
    exact Classical.not_and_iff_not_or_not.mp h2
theorem way_room (h : 1 ≤ x ∧ x ≤ 200 ∧ 1 ≤ y ∧ y ≤ 200) (h1 : ∀ e ∈ a.doors, e.2 ≤ x) (h2 : ∀ e ∈ a.sides, e.2 ≤ y) : stp (some a) 6 [x, y] = (some (absOf ⟨a.wide, x, y, a.doors, a.sides⟩ (grown a)), [(a.across : Int), (a.along : Int)]) := by
  rw [stp_room]; unfold doing; dsimp only; rw [if_neg (by rw [okRoom_iff.mpr (by omega)]; decide), if_neg]
  · rfl
  · rw [beyond_iff, beyond_iff]
    rintro (z | z)
    · exact z h1
    · exact z h2
theorem way_back_no (h : a.undo = []) : stp (some a) 7 [] = (some a, [-2]) := by
  rw [stp_back]; unfold doing; dsimp only; rw [h]; rfl
theorem way_back {k : Kept} {u : List Kept} (h : a.undo = k :: u) : stp (some a) 7 [] = (some (absOf k u), [(u.length : Int)]) := by
  rw [stp_back]; unfold doing; dsimp only; rw [h]; rfl
theorem way_seams_no (h : ¬ (1 ≤ o ∧ o ≤ a.wide)) : stp (some a) 8 [o] = (some a, [-22]) := by
  rw [stp_seams]; unfold doing; dsimp only; rw [if_pos (by omega)]; rfl
theorem way_seams (h : 1 ≤ o ∧ o ≤ a.wide) : stp (some a) 8 [o] = (some a, ((seams a.wide a.across o).length : Int) :: (seams a.wide a.across o).map Int.ofNat) := by
  rw [stp_seams]; unfold doing; dsimp only; rw [if_neg (by omega)]; rfl
theorem way_strips_no (h : ¬ (1 ≤ o ∧ o ≤ a.wide)) : stp (some a) 9 [o] = (some a, [-22]) := by
  rw [stp_strips]; unfold doing; dsimp only; rw [if_pos (by omega)]; rfl
theorem way_strips (h : 1 ≤ o ∧ o ≤ a.wide) : stp (some a) 9 [o] = (some a, [(strips a.wide a.across o : Int), (last a.wide a.across o : Int), (narrow a.wide a.across o : Int), (area a.wide a.across a.along o : Int)]) := by
  rw [stp_strips]; unfold doing; dsimp only; rw [if_neg (by omega)]; rfl
theorem way_clear_no (h : ¬ (1 ≤ o ∧ o ≤ a.wide)) : stp (some a) 10 [o] = (some a, [-22]) := by
  rw [stp_clear]; unfold doing; dsimp only; rw [if_pos (by omega)]; rfl
theorem way_clear (h : 1 ≤ o ∧ o ≤ a.wide) : stp (some a) 10 [o] = (some a, [if clear a.doors a.wide a.across o = true then 1 else 0]) := by
  rw [stp_clear]; unfold doing; dsimp only; rw [if_neg (by omega)]; rfl
theorem way_firsts : stp (some a) 11 [] = (some a, ((firsts a.doors a.wide a.across).length : Int) :: (firsts a.doors a.wide a.across).map Int.ofNat) := rfl
theorem way_best_no (h : best a.doors a.wide a.across = none) : stp (some a) 12 [] = (some a, [-33]) := by
  rw [stp_best]; unfold doing; dsimp only; rw [h]; rfl
theorem way_best (h : best a.doors a.wide a.across = some o) : stp (some a) 12 [] = (some a, [(o : Int), (strips a.wide a.across o : Int), (narrow a.wide a.across o : Int)]) := by
  rw [stp_best]; unfold doing; dsimp only; rw [h]; rfl
theorem way_fewest_no (h : best a.doors a.wide a.across = none) : stp (some a) 13 [] = (some a, [-33]) := by
  rw [stp_fewest]; unfold doing fewest; dsimp only; rw [h]; rfl
theorem way_fewest (h : best a.doors a.wide a.across = some o) : stp (some a) 13 [] = (some a, [(strips a.wide a.across o : Int)]) := by
  rw [stp_fewest]; unfold doing fewest; dsimp only; rw [h]; rfl
theorem way_round_no (h1 : best a.doors a.wide a.across = none) (h2 : best a.sides a.wide a.along = none) : stp (some a) 14 [] = (some a, [-33]) := by
  rw [stp_wayRound]; unfold doing wayRound; dsimp only; rw [h1, h2]; rfl
theorem way_round_along (h1 : best a.doors a.wide a.across = some o) (h2 : best a.sides a.wide a.along = none) : stp (some a) 14 [] = (some a, [0, (o : Int), (area a.wide a.across a.along o : Int)]) := by
  rw [stp_wayRound]; unfold doing wayRound; dsimp only; rw [h1, h2]; rfl
theorem way_round_across (h1 : best a.doors a.wide a.across = none) (h2 : best a.sides a.wide a.along = some i) : stp (some a) 14 [] = (some a, [1, (i : Int), (area a.wide a.along a.across i : Int)]) := by
  rw [stp_wayRound]; unfold doing wayRound; dsimp only; rw [h1, h2]; rfl
theorem way_round_1 (h1 : best a.doors a.wide a.across = some o) (h2 : best a.sides a.wide a.along = some i) (h : area a.wide a.along a.across i < area a.wide a.across a.along o) : stp (some a) 14 [] = (some a, [1, (i : Int), (area a.wide a.along a.across i : Int)]) := by
  rw [stp_wayRound]; unfold doing wayRound; dsimp only; rw [h1, h2]; dsimp only; rw [if_pos h]; rfl
theorem way_round_0 (h1 : best a.doors a.wide a.across = some o) (h2 : best a.sides a.wide a.along = some i) (h : ¬ area a.wide a.along a.across i < area a.wide a.across a.along o) : stp (some a) 14 [] = (some a, [0, (o : Int), (area a.wide a.across a.along o : Int)]) := by
  rw [stp_wayRound]; unfold doing wayRound; dsimp only; rw [h1, h2]; dsimp only; rw [if_neg h]; rfl
theorem way_turn : stp (some a) 15 [] = (some (absOf ⟨a.wide, a.along, a.across, a.sides, a.doors⟩ (grown a)), [(a.along : Int)]) := rfl
theorem way_widths_no (h : ¬ (1 ≤ f ∧ f ≤ t ∧ t ≤ 60)) : stp (some a) 16 [f, t] = (some a, [-22]) := by
  rw [stp_widths]; unfold doing; dsimp only; rw [if_pos (by omega)]; rfl
theorem way_widths (h : 1 ≤ f ∧ f ≤ t ∧ t ≤ 60) : stp (some a) 16 [f, t] = (some a, ((widthsN a f (t + 1 - f)).length : Int) :: (widthsN a f (t + 1 - f)).map Int.ofNat) := by
  rw [stp_widths]; unfold doing; dsimp only; rw [if_neg (by omega), widths_widthsN h.1 h.2.1]; rfl
theorem way_bestWidth_no (h : ¬ (1 ≤ f ∧ f ≤ t ∧ t ≤ 60)) : stp (some a) 17 [f, t] = (some a, [-22]) := by
  rw [stp_bestWidth]; unfold doing; dsimp only; rw [if_pos (by omega)]; rfl
theorem way_bestWidth_none (h : 1 ≤ f ∧ f ≤ t ∧ t ≤ 60) (hb : bestWidthN a f (t + 1 - f) = none) : stp (some a) 17 [f, t] = (some a, [-33]) := by
  rw [stp_bestWidth]; unfold doing; dsimp only; rw [if_neg (by omega), bestWidth_N h.1 h.2.1, hb]; rfl
theorem way_bestWidth {k : Nat × Nat} (h : 1 ≤ f ∧ f ≤ t ∧ t ≤ 60) (hb : bestWidthN a f (t + 1 - f) = some k) : stp (some a) 17 [f, t] = (some a, [(k.1 : Int), (k.2 : Int)]) := by
  rw [stp_bestWidth]; unfold doing; dsimp only; rw [if_neg (by omega), bestWidth_N h.1 h.2.1, hb]; rfl
theorem way_could_no (h : ¬ (f < t ∧ t ≤ a.across)) : stp (some a) 18 [f, t] = (some a, [-22]) := by
  rw [stp_could]; unfold doing; dsimp only; rw [if_pos (okDoor_no.mpr h)]; rfl
theorem way_could (h : f < t ∧ t ≤ a.across) : stp (some a) 18 [f, t] = (some a, [if (best (a.doors ++ [(f, t)]) a.wide a.across).isSome = true then 1 else 0]) := by
  rw [stp_could]; unfold doing; dsimp only; rw [if_neg (by rw [okDoor_iff.mpr h]; decide)]; rfl
theorem way_widest_no (h : a.across ≤ f) : stp (some a) 19 [f] = (some a, [-22]) := by
  rw [stp_widest]; unfold doing; dsimp only; rw [if_pos h]; rfl
theorem way_widest_none (h : ¬ a.across ≤ f) (hb : (ends a f).getLast? = none) : stp (some a) 19 [f] = (some a, [-33]) := by
  rw [stp_widest]; unfold doing; dsimp only; rw [if_neg h]; unfold ends at hb; rw [hb]; rfl
theorem way_widest (h : ¬ a.across ≤ f) (hb : (ends a f).getLast? = some t) : stp (some a) 19 [f] = (some a, [(t : Int)]) := by
  rw [stp_widest]; unfold doing; dsimp only; rw [if_neg h]; unfold ends at hb; rw [hb]; rfl
/-- the doors that are hit -/
def hitsOf (a : Abs) (o : Nat) : List Nat := (List.range a.doors.length).filter fun i => !clear ((a.doors[i]?).toList) a.wide a.across o
theorem way_hits_no (h : ¬ (1 ≤ o ∧ o ≤ a.wide)) : stp (some a) 20 [o] = (some a, [-22]) := by
  rw [stp_hits]; unfold doing; dsimp only; rw [if_pos (by omega)]; rfl
theorem way_hits (h : 1 ≤ o ∧ o ≤ a.wide) : stp (some a) 20 [o] = (some a, ((hitsOf a o).length : Int) :: (hitsOf a o).map Int.ofNat) := by
  rw [stp_hits]; unfold doing; dsimp only; rw [if_neg (by omega)]; rfl
theorem way_state : stp (some a) 21 [] = (some a, [(a.wide : Int), (a.across : Int), (a.along : Int), (a.doors.length : Int), (a.sides.length : Int), (a.undo.length : Int)]) := rfl
end
end Sd

set_option Elab.async false
/-! The mathematics of stage 2, as the program goes: doors hit, the next seam, the least of found ones. -/
namespace Sd
open Kh352
/-- what a plan must keep for its first strips to be tried -/
structure Fit (k : Kept) : Prop where
  w1 : 1 ≤ k.wide
  w2 : k.wide ≤ 60
  x2 : k.across ≤ 200
  y2 : k.along ≤ 200
  d : k.doors.length ≤ 100
theorem KeptOk.fit {k : Kept} (h : KeptOk k) : Fit k := ⟨h.w1, h.w2, h.x2, h.y2, Nat.le_trans h.d (by decide)⟩
theorem KeptOk.turned {k : Kept} (h : KeptOk k) : KeptOk ⟨k.wide, k.along, k.across, k.sides, k.doors⟩ := ⟨h.w1, h.w2, h.y1, h.y2, h.x1, h.x2, h.s, h.d, h.si, h.di⟩
theorem KeptOk.wider {k : Kept} (h : KeptOk k) {w : Nat} (h1 : 1 ≤ w) (h2 : w ≤ 60) : KeptOk ⟨w, k.across, k.along, k.doors, k.sides⟩ := ⟨h1, h2, h.x1, h.x2, h.y1, h.y2, h.d, h.s, h.di, h.si⟩
/-- the doors that are hit, by their places -/
def hitsK (k : Kept) (o : Nat) : List Nat := (List.range k.doors.length).filter fun i => !clear ((k.doors[i]?).toList) k.wide k.across o
theorem hits_hitsK (a : Abs) (o : Nat) : hitsOf a o = hitsK (cur a) o := rfl
theorem clear_iff {d : List (Nat × Nat)} {w x o : Nat} : clear d w x o = false ↔ ∃ e, e ∈ d ∧ ∃ s, s ∈ seams w x o ∧ e.1 < s ∧ s < e.2 := by
  unfold clear
  rw [List.all_eq_false]
  constructor
  · rintro ⟨s, hs, h⟩
    rw [Bool.not_eq_true, List.all_eq_false] at h
    obtain ⟨e, he, h⟩ := h
    simp only [Bool.or_eq_true, decide_eq_true_eq, not_or, Nat.not_le] at h
    exact ⟨e, he, s, hs, h.1, h.2⟩
  · rintro ⟨e, he, s, hs, h1, h2⟩
    refine ⟨s, hs, ?_⟩
    rw [Bool.not_eq_true, List.all_eq_false]
    refine ⟨e, he, ?_⟩
    simp only [Bool.or_eq_true, decide_eq_true_eq, not_or, Nat.not_le]
    exact ⟨h1, h2⟩
theorem hit_at {k : Kept} {o i : Nat} {e : Nat × Nat} (h : k.doors[i]? = some e) : (!clear ((k.doors[i]?).toList) k.wide k.across o) = true ↔ ∃ s, s ∈ seams k.wide k.across o ∧ e.1 < s ∧ s < e.2 := by
  rw [h, Bool.not_eq_true', clear_iff]
  constructor
  · rintro ⟨e', he, r⟩
    have : e' = e := by simpa using he
    rw [← this]; exact r
  · intro r
    exact ⟨e, by simp, r⟩
theorem hits_nil {k : Kept} {o : Nat} : (hitsK k o).length = 0 ↔ clear k.doors k.wide k.across o = true := by
  rw [List.length_eq_zero_iff]
  unfold hitsK
  rw [List.filter_eq_nil_iff]
  constructor
  · intro h
    cases q : clear k.doors k.wide k.across o with
    | true => rfl
    | false =>
      obtain ⟨e, he, r⟩ := clear_iff.mp q
      obtain ⟨i, hi⟩ := List.mem_iff_getElem?.mp he
      exact absurd ((hit_at hi).mpr r) (h i (List.mem_range.mpr (List.getElem?_eq_some_iff.mp hi).1))
  · intro h i hi z
    obtain ⟨e, he⟩ : ∃ e, k.doors[i]? = some e := ⟨_, List.getElem?_eq_getElem (List.mem_range.mp hi)⟩
    have r := (hit_at he).mp z
    rw [clear_iff.mpr ⟨e, List.mem_of_getElem? he, r⟩] at h
    cases h

/-! ### the next seam -/
def IsNext (w x o f n : Nat) : Prop := (n = x ∨ (n ∈ seams w x o ∧ f < n)) ∧ n ≤ x ∧ ∀ s ∈ seams w x o, f < s → n ≤ s
theorem next_clear {w x o f n t : Nat} (h : IsNext w x o f n) (ht : t ≤ x) : clear [(f, t)] w x o = true ↔ t ≤ n := by
  obtain ⟨h1, h2, h3⟩ := h
  constructor
  · intro q
    refine Nat.le_of_not_lt fun z => ?_
    rcases h1 with h1 | ⟨h1, h4⟩
    · omega
    · rw [clear_iff.mpr ⟨(f, t), by simp, n, h1, h4, z⟩] at q
      cases q
  · intro q
    cases r : clear [(f, t)] w x o with
    | true => rfl
    | false =>
      obtain ⟨e, he, s, hs, q1, q2⟩ := clear_iff.mp r
      have : e = (f, t) := by simpa using he
      subst this
      have := h3 s hs q1
      simp only at q2
      omega
theorem seams_lt {w x o s : Nat} (hw : 1 ≤ w) (h : s ∈ seams w x o) : s < x := by
  rw [seams_eq hw] at h
  obtain ⟨k, hk, rfl⟩ := List.mem_map.mp h
  exact (lt_nSeams hw).mpr (List.mem_range.mp hk)
theorem least_mem : ∀ {l : List Nat}, l ≠ [] → ∃ m ∈ l, ∀ z ∈ l, m ≤ z
  | [], h => absurd rfl h
  | [a], _ => ⟨a, by simp, fun z hz => by have : z = a := by simpa using hz
                                          omega⟩
  | a :: b :: r, _ => by
    obtain ⟨m, hm, hall⟩ := least_mem (l := b :: r) (by simp)
    by_cases c : a ≤ m
    · refine ⟨a, by simp, fun z hz => ?_⟩
      rcases List.mem_cons.mp hz with e | h
      · omega
      · have := hall z h; omega
    · refine ⟨m, List.mem_cons_of_mem _ hm, fun z hz => ?_⟩
      rcases List.mem_cons.mp hz with e | h
      · omega
      · exact hall z h
theorem next_there {w x : Nat} (hw : 1 ≤ w) (o f : Nat) : ∃ n, IsNext w x o f n := by
  by_cases h : (seams w x o).filter (fun s => decide (f < s)) = []
  · refine ⟨x, .inl rfl, Nat.le_refl _, fun s hs hf => ?_⟩
    have := List.filter_eq_nil_iff.mp h s hs
    exact absurd (decide_eq_true hf) this
  · obtain ⟨m, hm, hall⟩ := least_mem h
    obtain ⟨h1, h2⟩ := List.mem_filter.mp hm
    refine ⟨m, .inr ⟨h1, of_decide_eq_true h2⟩, Nat.le_of_lt (seams_lt hw h1), fun s hs hf => hall s (List.mem_filter.mpr ⟨hs, decide_eq_true hf⟩)⟩
theorem next_one {w x o f n m : Nat} (hn : IsNext w x o f n) (hm : IsNext w x o f m) : n = m := by
  obtain ⟨a1, a2, a3⟩ := hn
  obtain ⟨b1, b2, b3⟩ := hm
  rcases a1 with a1 | ⟨a1, a4⟩
  · rcases b1 with b1 | ⟨b1, b4⟩
    · omega
    · have := a3 m b1 b4; omega
  · rcases b1 with b1 | ⟨b1, b4⟩
    · have := b3 n a1 a4; omega
    · have := a3 m b1 b4
      have := b3 n a1 a4
      omega
open Classical in
noncomputable def nextOf (w x o f : Nat) : Nat := if h : ∃ n, IsNext w x o f n then h.choose else 0
theorem nextOf_is {w x : Nat} (hw : 1 ≤ w) (o f : Nat) : IsNext w x o f (nextOf w x o f) := by
  unfold nextOf
  rw [dif_pos (next_there hw o f)]
  exact (next_there hw o f).choose_spec
theorem next_nextOf {w x o f n : Nat} (hw : 1 ≤ w) (h : IsNext w x o f n) : n = nextOf w x o f := next_one h (nextOf_is hw o f)
/-- the widest end, by the next seams -/
theorem ends_by {a : Abs} {f m : Nat} (hf : f < a.across) (h1 : ∃ o ∈ firsts a.doors a.wide a.across, IsNext a.wide a.across o f m) (h2 : ∀ o ∈ firsts a.doors a.wide a.across, ∃ n, IsNext a.wide a.across o f n ∧ n ≤ m) : (ends a f).getLast? = some m := by
  refine ends_last.mpr ⟨?_, fun z hz => ?_⟩
  · obtain ⟨o, ho, hn⟩ := h1
    have hfm : f < m := by
      rcases hn.1 with e | ⟨_, e⟩
      · omega
      · exact e
    refine ends_mem.mpr ⟨hfm, hn.2.1, ?_⟩
    obtain ⟨o1, o2, o3⟩ := mem_firsts.mp ho
    refine best_isSome.mpr ⟨o, o1, o2, ?_⟩
    rw [clear_app, o3, (next_clear hn hn.2.1).mpr (Nat.le_refl _)]
    rfl
  · obtain ⟨q1, q2, q3⟩ := ends_mem.mp hz
    obtain ⟨o, o1, o2, o3⟩ := best_isSome.mp q3
    rw [clear_app, Bool.and_eq_true] at o3
    obtain ⟨n, hn, hm⟩ := h2 o (mem_firsts.mpr ⟨o1, o2, o3.1⟩)
    have := (next_clear hn q2).mp o3.2
    omega
theorem ends_empty {a : Abs} {f : Nat} (h : firsts a.doors a.wide a.across = []) : (ends a f).getLast? = none := by
  refine ends_none.mpr fun t _ _ => ?_
  cases q : (best (a.doors ++ [(f, t)]) a.wide a.across).isSome with
  | false => rfl
  | true =>
    obtain ⟨o, o1, o2, o3⟩ := best_isSome.mp q
    rw [clear_app, Bool.and_eq_true] at o3
    have := mem_firsts.mpr ⟨o1, o2, o3.1⟩
    rw [h] at this
    cases this

/-! ### the best one by its merit -/
theorem Bt_merit {w x b o : Nat} (h : b < o) : (if -((seams w x o).length : Int) = -((seams w x b).length : Int) then (if ((narrow w x o : Nat) : Int) = ((narrow w x b : Nat) : Int) then (if (o : Int) = (b : Int) then false else decide ((b : Int) < (o : Int))) else decide (((narrow w x b : Nat) : Int) < ((narrow w x o : Nat) : Int)))
    else decide (-((seams w x b).length : Int) < -((seams w x o).length : Int))) = decide (Bt w x o b) := by
  have e1 : strips w x o = (seams w x o).length + 1 := rfl
  have e2 : strips w x b = (seams w x b).length + 1 := rfl
  have eB : Bt w x o b ↔ ((seams w x o).length < (seams w x b).length ∨ ((seams w x o).length = (seams w x b).length ∧ (narrow w x b < narrow w x o ∨ (narrow w x b = narrow w x o ∧ b ≤ o)))) := by
    unfold Bt
    rw [e1, e2]
    omega
  by_cases h1 : -((seams w x o).length : Int) = -((seams w x b).length : Int)
  · rw [if_pos h1]
    by_cases h2 : ((narrow w x o : Nat) : Int) = ((narrow w x b : Nat) : Int)
    · rw [if_pos h2, if_neg (by omega)]
      exact decide_eq_decide.mpr ⟨fun _ => eB.mpr (by omega), fun _ => by omega⟩
    · rw [if_neg h2]
      exact decide_eq_decide.mpr ⟨fun _ => eB.mpr (by omega), fun z => by have := eB.mp z; omega⟩
  · rw [if_neg h1]
    exact decide_eq_decide.mpr ⟨fun _ => eB.mpr (by omega), fun z => by have := eB.mp z; omega⟩
theorem rising_take {l : List Nat} (h : List.Pairwise (· < ·) l) {i b o : Nat} (hb : b ∈ l.take i) (ho : l[i]? = some o) : b < o := by
  obtain ⟨j, hj⟩ := List.mem_iff_getElem?.mp hb
  rw [List.getElem?_take] at hj
  split at hj
  · rename_i hji
    obtain ⟨h1, e1⟩ := List.getElem?_eq_some_iff.mp hj
    obtain ⟨h2, e2⟩ := List.getElem?_eq_some_iff.mp ho
    rw [← e1, ← e2]
    exact List.pairwise_iff_getElem.mp h j i h1 h2 hji
  · cases hj
theorem bestOf_mem {w x b : Nat} {l : List Nat} (hp : List.Pairwise (· < ·) l) (h : bestOf w x l = some b) : b ∈ l := by
  rcases bestOf_good w x l hp with ⟨_, q⟩ | ⟨b', e, hb, _⟩
  · rw [q] at h; cases h
  · rw [e] at h; cases h; exact hb
theorem take_snoc {α : Type} {l : List α} {i : Nat} {o : α} (h : l[i]? = some o) : l.take (i + 1) = l.take i ++ [o] := by
  rw [List.take_add_one, h]; rfl
theorem bestOf_take0 {w x : Nat} {l : List Nat} {i o : Nat} (h : l[i]? = some o) (e : bestOf w x (l.take i) = none) : bestOf w x (l.take (i + 1)) = some o := by
  rw [take_snoc h, bestOf_snoc, e]; rfl
theorem bestOf_take {w x : Nat} {l : List Nat} {i o b : Nat} (hp : List.Pairwise (· < ·) l) (h : l[i]? = some o) (e : bestOf w x (l.take i) = some b) : bestOf w x (l.take (i + 1)) = some (if decide (Bt w x o b) = true then o else b) := by
  have hlt := rising_take hp (bestOf_mem (List.Pairwise.sublist (List.take_sublist _ _) hp) e) h
  rw [take_snoc h, bestOf_snoc, e, bstep_some w x b o (Nat.le_of_lt hlt)]
  by_cases c : Bt w x o b
  · rw [if_pos c, decide_eq_true c, if_pos rfl]
  · rw [if_neg c, decide_eq_false c, if_neg Bool.false_ne_true]

/-! ### the least carpet -/
/-- carpet, number, first strip -/
abbrev Found := Nat × Nat × Nat
def lt3 (t u : Found) : Bool := if t.1 = u.1 then (if t.2.1 = u.2.1 then (if t.2.2 = u.2.2 then false else decide (t.2.2 < u.2.2)) else decide (t.2.1 < u.2.1)) else decide (t.1 < u.1)
def fnd (c : Nat × Kept) : Option Found := (best c.2.doors c.2.wide c.2.across).map fun o => (area c.2.wide c.2.across c.2.along o, c.1, o)
def mstep (b : Option Found) (t : Found) : Option Found := match b with
  | none => some t
  | some u => some (if lt3 t u = true then t else u)
def minOf (l : List Found) : Option Found := l.foldl mstep none
theorem minOf_snoc (l : List Found) (t : Found) : minOf (l ++ [t]) = mstep (minOf l) t := by
  unfold minOf
  rw [List.foldl_append]
  rfl
theorem minOf_none {l : List Found} (h : minOf l = none) : l = [] := by
  revert h
  refine snoc_rec (P := fun l => minOf l = none → l = []) (fun _ => rfl) (fun l t _ h => ?_) l
  rw [minOf_snoc] at h
  unfold mstep at h
  split at h <;> cases h
def leastOf (cs : List (Nat × Kept)) : Option Found := minOf (cs.filterMap fnd)
/-- the way round -/
theorem least_two {k k' : Kept} : leastOf [(0, k), (1, k')] = match best k.doors k.wide k.across, best k'.doors k'.wide k'.across with
    | none, none => none
    | some o, none => some (area k.wide k.across k.along o, 0, o)
    | none, some o => some (area k'.wide k'.across k'.along o, 1, o)
    | some o, some o' => if area k'.wide k'.across k'.along o' < area k.wide k.across k.along o then some (area k'.wide k'.across k'.along o', 1, o') else some (area k.wide k.across k.along o, 0, o) := by
  unfold leastOf
  cases h : best k.doors k.wide k.across with
  | none =>
    have e : fnd (0, k) = none := by unfold fnd; simp only [h]; rfl
    cases h' : best k'.doors k'.wide k'.across with
    | none =>
      have e' : fnd (1, k') = none := by unfold fnd; simp only [h']; rfl
      rw [List.filterMap_cons_none e, List.filterMap_cons_none e']
      rfl
    | some o' =>
      have e' : fnd (1, k') = some (area k'.wide k'.across k'.along o', 1, o') := by unfold fnd; simp only [h']; rfl
      rw [List.filterMap_cons_none e, List.filterMap_cons_some e']
      rfl
  | some o =>
    have e : fnd (0, k) = some (area k.wide k.across k.along o, 0, o) := by unfold fnd; simp only [h]; rfl
    cases h' : best k'.doors k'.wide k'.across with
    | none =>
      have e' : fnd (1, k') = none := by unfold fnd; simp only [h']; rfl
      rw [List.filterMap_cons_some e, List.filterMap_cons_none e']
      rfl
    | some o' =>
      have e' : fnd (1, k') = some (area k'.wide k'.across k'.along o', 1, o') := by unfold fnd; simp only [h']; rfl
      rw [List.filterMap_cons_some e, List.filterMap_cons_some e']
      show some (if lt3 (area k'.wide k'.across k'.along o', 1, o') (area k.wide k.across k.along o, 0, o) = true then _ else _) = _
      have q : lt3 (area k'.wide k'.across k'.along o', 1, o') (area k.wide k.across k.along o, 0, o) = decide (area k'.wide k'.across k'.along o' < area k.wide k.across k.along o) := by
        unfold lt3
        dsimp only
        by_cases c : area k'.wide k'.across k'.along o' = area k.wide k.across k.along o
        · rw [if_pos c, if_neg (by decide), c]
          simp
        · rw [if_neg c]
      rw [q]
      dsimp only
      by_cases c : area k'.wide k'.across k'.along o' < area k.wide k.across k.along o
      · simp only [c, decide_true, if_true]
      · simp only [c, decide_false, Bool.false_eq_true, if_false]
theorem wr_none {a : Abs} (h : leastOf [(0, cur a), (1, ⟨a.wide, a.along, a.across, a.sides, a.doors⟩)] = none) : stp (some a) 14 [] = (some a, [-33]) := by
  rw [least_two] at h
  cases h1 : best a.doors a.wide a.across with
  | none =>
    cases h2 : best a.sides a.wide a.along with
    | none => exact way_round_no h1 h2
    | some o => simp only [show best (cur a).doors (cur a).wide (cur a).across = none from h1, h2] at h; cases h
  | some o =>
    cases h2 : best a.sides a.wide a.along with
    | none => simp only [show best (cur a).doors (cur a).wide (cur a).across = some o from h1, h2] at h; cases h
    | some o' =>
      simp only [show best (cur a).doors (cur a).wide (cur a).across = some o from h1, h2] at h
      split at h <;> cases h
theorem wr_some {a : Abs} {t : Found} (h : leastOf [(0, cur a), (1, ⟨a.wide, a.along, a.across, a.sides, a.doors⟩)] = some t) : stp (some a) 14 [] = (some a, [(t.2.1 : Int), (t.2.2 : Int), (t.1 : Int)]) := by
  rw [least_two] at h
  cases h1 : best a.doors a.wide a.across with
  | none =>
    cases h2 : best a.sides a.wide a.along with
    | none => simp only [show best (cur a).doors (cur a).wide (cur a).across = none from h1, h2] at h; cases h
    | some o =>
      simp only [show best (cur a).doors (cur a).wide (cur a).across = none from h1, h2] at h
      cases h
      exact way_round_across h1 h2
  | some o =>
    cases h2 : best a.sides a.wide a.along with
    | none =>
      simp only [show best (cur a).doors (cur a).wide (cur a).across = some o from h1, h2] at h
      cases h
      exact way_round_along h1 h2
    | some o' =>
      simp only [show best (cur a).doors (cur a).wide (cur a).across = some o from h1, h2] at h
      split at h
      · rename_i c
        cases h
        exact way_round_1 h1 h2 c
      · rename_i c
        cases h
        exact way_round_0 h1 h2 c
/-- the widths from f on, with their plans -/
def widthsC (k : Kept) (f n : Nat) : List (Nat × Kept) := (List.range n).map fun i => (f + i, ⟨f + i, k.across, k.along, k.doors, k.sides⟩)
theorem least_widths (a : Abs) (f : Nat) : ∀ n, (leastOf (widthsC (cur a) f n)).map (fun t => (t.2.1, t.1)) = bestWidthN a f n ∧ ∀ t, leastOf (widthsC (cur a) f n) = some t → t.2.1 < f + n := by
  intro n
  induction n with
  | zero => exact ⟨rfl, fun t h => by cases h⟩
  | succ n ih =>
    have e0 : widthsC (cur a) f (n + 1) = widthsC (cur a) f n ++ [(f + n, ⟨f + n, a.across, a.along, a.doors, a.sides⟩)] := by
      unfold widthsC
      rw [List.range_succ, List.map_append]
      rfl
    rw [bestWidthN_succ, e0]
    unfold leastOf at ih ⊢
    rw [List.filterMap_append]
    cases h : best a.doors (f + n) a.across with
    | none =>
      have e : fnd (f + n, ⟨f + n, a.across, a.along, a.doors, a.sides⟩) = none := by unfold fnd; simp only [h]; rfl
      rw [List.filterMap_cons_none e, List.filterMap_nil, List.append_nil, wstep_not h]
      exact ⟨ih.1, fun t ht => by have := ih.2 t ht; omega⟩
    | some o =>
      have e : fnd (f + n, ⟨f + n, a.across, a.along, a.doors, a.sides⟩) = some (area (f + n) a.across a.along o, f + n, o) := by unfold fnd; simp only [h]; rfl
      have en : needs a (f + n) = area (f + n) a.across a.along o := by unfold needs; rw [h]
      rw [List.filterMap_cons_some e, List.filterMap_nil, minOf_snoc]
      cases q : minOf (List.filterMap fnd (widthsC (cur a) f n)) with
      | none =>
        rw [q] at ih
        rw [← ih.1]
        show _ = wstep a none (f + n) ∧ _
        rw [wstep_none h, en]
        exact ⟨rfl, fun t ht => by cases ht; show f + n < f + (n + 1); omega⟩
      | some u =>
        rw [q] at ih
        have hu := ih.2 u rfl
        rw [← ih.1]
        show _ = wstep a (some (u.2.1, u.1)) (f + n) ∧ _
        rw [wstep_some h, en]
        have z : lt3 (area (f + n) a.across a.along o, f + n, o) u = decide (area (f + n) a.across a.along o < u.1) := by
          unfold lt3
          dsimp only
          by_cases c : area (f + n) a.across a.along o = u.1
          · rw [if_pos c, if_neg (by omega), c]
            simp
            omega
          · rw [if_neg c]
        refine ⟨?_, fun t ht => ?_⟩
        · unfold mstep
          dsimp only
          rw [z]
          by_cases c : area (f + n) a.across a.along o < u.1
          · simp only [c, decide_true, if_true, Option.map_some]
          · simp only [c, decide_false, Bool.false_eq_true, if_false, Option.map_some]
        · unfold mstep at ht
          dsimp only at ht
          cases ht
          split
          · show f + n < f + (n + 1); omega
          · omega
theorem bw_none {a : Abs} {f t : Nat} (h : 1 ≤ f ∧ f ≤ t ∧ t ≤ 60) (e : leastOf (widthsC (cur a) f (t + 1 - f)) = none) : stp (some a) 17 [f, t] = (some a, [-33]) := by
  have := (least_widths a f (t + 1 - f)).1
  rw [e] at this
  exact way_bestWidth_none h this.symm
theorem bw_some {a : Abs} {f t : Nat} {u : Found} (h : 1 ≤ f ∧ f ≤ t ∧ t ≤ 60) (e : leastOf (widthsC (cur a) f (t + 1 - f)) = some u) : stp (some a) 17 [f, t] = (some a, [(u.2.1 : Int), (u.1 : Int)]) := by
  have := (least_widths a f (t + 1 - f)).1
  rw [e] at this
  exact way_bestWidth h this.symm
def fitN (k : Kept) (f n : Nat) : List Nat := ((List.range n).filter fun i => (best k.doors (f + i) k.across).isSome).map (f + ·)
theorem widthsN_fitN (a : Abs) (f n : Nat) : widthsN a f n = fitN (cur a) f n := widthsN_fm a f n
end Sd

set_option Elab.async false
set_option linter.all false
set_option maxRecDepth 100000
set_option maxHeartbeats 2000000
/-! THE TEXT BY PLACES; the data. -/
namespace Sd
open PySem PySem.Spec PyProof.Rows L2
def top (i : Nat) : Stmt := PySem.Challenge.pw_seamsdoors_s01_answers.main.body.getD i (.Pass ⟨0, 0, 0, 0⟩)
abbrev st_Plan_init : Stmt := inClass (top 3) 0
theorem sc_Plan_init : FnScope ["self", "wide", "across", "along", "doors", "sides"] ["self", "wide", "across", "along", "doors", "sides"] (defScope st_Plan_init) := ⟨rfl, rfl, rfl, by decide +kernel, rfl, by decide +kernel, by decide +kernel⟩
theorem bi_Plan_init : BindsSt "__init__" "Plan.__init__" st_Plan_init ["self", "wide", "across", "along", "doors", "sides"] := fun _ _ _ _ _ _ us hl => match us, hl with | [_, _, _, _, _, _], _ => rfl
abbrev st_Plan_with_wide : Stmt := inClass (top 3) 1
theorem sc_Plan_with_wide : FnScope ["self", "wide"] ["self", "wide"] (defScope st_Plan_with_wide) := ⟨rfl, rfl, rfl, by decide +kernel, rfl, by decide +kernel, by decide +kernel⟩
theorem bi_Plan_with_wide : BindsSt "with_wide" "Plan.with_wide" st_Plan_with_wide ["self", "wide"] := fun _ _ _ _ _ _ us hl => match us, hl with | [_, _], _ => rfl
abbrev st_Plan_with_room : Stmt := inClass (top 3) 2
theorem sc_Plan_with_room : FnScope ["self", "across", "along"] ["self", "across", "along"] (defScope st_Plan_with_room) := ⟨rfl, rfl, rfl, by decide +kernel, rfl, by decide +kernel, by decide +kernel⟩
theorem bi_Plan_with_room : BindsSt "with_room" "Plan.with_room" st_Plan_with_room ["self", "across", "along"] := fun _ _ _ _ _ _ us hl => match us, hl with | [_, _, _], _ => rfl
abbrev st_Plan_with_doors : Stmt := inClass (top 3) 3
theorem sc_Plan_with_doors : FnScope ["self", "doors"] ["self", "doors"] (defScope st_Plan_with_doors) := ⟨rfl, rfl, rfl, by decide +kernel, rfl, by decide +kernel, by decide +kernel⟩
theorem bi_Plan_with_doors : BindsSt "with_doors" "Plan.with_doors" st_Plan_with_doors ["self", "doors"] := fun _ _ _ _ _ _ us hl => match us, hl with | [_, _], _ => rfl
abbrev st_Plan_with_sides : Stmt := inClass (top 3) 4
theorem sc_Plan_with_sides : FnScope ["self", "sides"] ["self", "sides"] (defScope st_Plan_with_sides) := ⟨rfl, rfl, rfl, by decide +kernel, rfl, by decide +kernel, by decide +kernel⟩
theorem bi_Plan_with_sides : BindsSt "with_sides" "Plan.with_sides" st_Plan_with_sides ["self", "sides"] := fun _ _ _ _ _ _ us hl => match us, hl with | [_, _], _ => rfl
abbrev st_Plan_turned : Stmt := inClass (top 3) 5
theorem sc_Plan_turned : FnScope ["self"] ["self"] (defScope st_Plan_turned) := ⟨rfl, rfl, rfl, by decide +kernel, rfl, by decide +kernel, by decide +kernel⟩
theorem bi_Plan_turned : BindsSt "turned" "Plan.turned" st_Plan_turned ["self"] := fun _ _ _ _ _ _ us hl => match us, hl with | [_], _ => rfl
abbrev st_is_strip_width : Stmt := top 4
theorem sc_is_strip_width : FnScope ["number"] ["number"] (defScope st_is_strip_width) := ⟨rfl, rfl, rfl, by decide +kernel, rfl, by decide +kernel, by decide +kernel⟩
theorem bi_is_strip_width : BindsSt "is_strip_width" "is_strip_width" st_is_strip_width ["number"] := fun _ _ _ _ _ _ us hl => match us, hl with | [_], _ => rfl
abbrev st_is_wall_length : Stmt := top 5
theorem sc_is_wall_length : FnScope ["number"] ["number"] (defScope st_is_wall_length) := ⟨rfl, rfl, rfl, by decide +kernel, rfl, by decide +kernel, by decide +kernel⟩
theorem bi_is_wall_length : BindsSt "is_wall_length" "is_wall_length" st_is_wall_length ["number"] := fun _ _ _ _ _ _ us hl => match us, hl with | [_], _ => rfl
abbrev st_is_first_width : Stmt := top 6
theorem sc_is_first_width : FnScope ["plan", "first"] ["plan", "first"] (defScope st_is_first_width) := ⟨rfl, rfl, rfl, by decide +kernel, rfl, by decide +kernel, by decide +kernel⟩
theorem bi_is_first_width : BindsSt "is_first_width" "is_first_width" st_is_first_width ["plan", "first"] := fun _ _ _ _ _ _ us hl => match us, hl with | [_, _], _ => rfl
abbrev st_lies_in_wall : Stmt := top 7
theorem sc_lies_in_wall : FnScope ["low", "high", "wall"] ["low", "high", "wall"] (defScope st_lies_in_wall) := ⟨rfl, rfl, rfl, by decide +kernel, rfl, by decide +kernel, by decide +kernel⟩
theorem bi_lies_in_wall : BindsSt "lies_in_wall" "lies_in_wall" st_lies_in_wall ["low", "high", "wall"] := fun _ _ _ _ _ _ us hl => match us, hl with | [_, _, _], _ => rfl
abbrev st_all_end_within : Stmt := top 8
theorem sc_all_end_within : FnScope ["openings", "wall", "opening"] ["openings", "wall"] (defScope st_all_end_within) := ⟨rfl, rfl, rfl, by decide +kernel, rfl, by decide +kernel, by decide +kernel⟩
theorem bi_all_end_within : BindsSt "all_end_within" "all_end_within" st_all_end_within ["openings", "wall"] := fun _ _ _ _ _ _ us hl => match us, hl with | [_, _], _ => rfl
abbrev st_seams_of : Stmt := top 9
theorem sc_seams_of : FnScope ["plan", "first"] ["plan", "first"] (defScope st_seams_of) := ⟨rfl, rfl, rfl, by decide +kernel, rfl, by decide +kernel, by decide +kernel⟩
theorem bi_seams_of : BindsSt "seams_of" "seams_of" st_seams_of ["plan", "first"] := fun _ _ _ _ _ _ us hl => match us, hl with | [_, _], _ => rfl
abbrev st_last_width : Stmt := top 10
theorem sc_last_width : FnScope ["plan", "seams"] ["plan", "seams"] (defScope st_last_width) := ⟨rfl, rfl, rfl, by decide +kernel, rfl, by decide +kernel, by decide +kernel⟩
theorem bi_last_width : BindsSt "last_width" "last_width" st_last_width ["plan", "seams"] := fun _ _ _ _ _ _ us hl => match us, hl with | [_, _], _ => rfl
abbrev st_narrowest_width : Stmt := top 11
theorem sc_narrowest_width : FnScope ["plan", "first", "seams"] ["plan", "first", "seams"] (defScope st_narrowest_width) := ⟨rfl, rfl, rfl, by decide +kernel, rfl, by decide +kernel, by decide +kernel⟩
theorem bi_narrowest_width : BindsSt "narrowest_width" "narrowest_width" st_narrowest_width ["plan", "first", "seams"] := fun _ _ _ _ _ _ us hl => match us, hl with | [_, _, _], _ => rfl
abbrev st_carpet_needed : Stmt := top 12
theorem sc_carpet_needed : FnScope ["plan", "strips"] ["plan", "strips"] (defScope st_carpet_needed) := ⟨rfl, rfl, rfl, by decide +kernel, rfl, by decide +kernel, by decide +kernel⟩
theorem bi_carpet_needed : BindsSt "carpet_needed" "carpet_needed" st_carpet_needed ["plan", "strips"] := fun _ _ _ _ _ _ us hl => match us, hl with | [_, _], _ => rfl
abbrev st_is_hit : Stmt := top 13
theorem sc_is_hit : FnScope ["door", "seams", "seam"] ["door", "seams"] (defScope st_is_hit) := ⟨rfl, rfl, rfl, by decide +kernel, rfl, by decide +kernel, by decide +kernel⟩
theorem bi_is_hit : BindsSt "is_hit" "is_hit" st_is_hit ["door", "seams"] := fun _ _ _ _ _ _ us hl => match us, hl with | [_, _], _ => rfl
abbrev st_hit_doors : Stmt := top 14
theorem sc_hit_doors : FnScope ["plan", "first", "seams", "i", "door"] ["plan", "first"] (defScope st_hit_doors) := ⟨rfl, rfl, rfl, by decide +kernel, rfl, by decide +kernel, by decide +kernel⟩
theorem bi_hit_doors : BindsSt "hit_doors" "hit_doors" st_hit_doors ["plan", "first"] := fun _ _ _ _ _ _ us hl => match us, hl with | [_, _], _ => rfl
abbrev st_is_clear : Stmt := top 15
theorem sc_is_clear : FnScope ["plan", "first"] ["plan", "first"] (defScope st_is_clear) := ⟨rfl, rfl, rfl, by decide +kernel, rfl, by decide +kernel, by decide +kernel⟩
theorem bi_is_clear : BindsSt "is_clear" "is_clear" st_is_clear ["plan", "first"] := fun _ _ _ _ _ _ us hl => match us, hl with | [_, _], _ => rfl
abbrev st_clear_firsts : Stmt := top 19
theorem sc_clear_firsts : FnScope ["plan", "first"] ["plan"] (defScope st_clear_firsts) := ⟨rfl, rfl, rfl, by decide +kernel, rfl, by decide +kernel, by decide +kernel⟩
theorem bi_clear_firsts : BindsSt "clear_firsts" "clear_firsts" st_clear_firsts ["plan"] := fun _ _ _ _ _ _ us hl => match us, hl with | [_], _ => rfl
abbrev st_some_first_is_clear : Stmt := top 20
theorem sc_some_first_is_clear : FnScope ["plan"] ["plan"] (defScope st_some_first_is_clear) := ⟨rfl, rfl, rfl, by decide +kernel, rfl, by decide +kernel, by decide +kernel⟩
theorem bi_some_first_is_clear : BindsSt "some_first_is_clear" "some_first_is_clear" st_some_first_is_clear ["plan"] := fun _ _ _ _ _ _ us hl => match us, hl with | [_], _ => rfl
theorem sc_best_first_merit : NdOf ["first", "seams", "plan"] := ⟨by decide +kernel⟩
abbrev st_best_first : Stmt := top 21
theorem sc_best_first : FnScope ["plan", "merit"] ["plan"] (defScope st_best_first) := ⟨rfl, rfl, rfl, by decide +kernel, rfl, by decide +kernel, by decide +kernel⟩
theorem bi_best_first : BindsSt "best_first" "best_first" st_best_first ["plan"] := fun _ _ _ _ _ _ us hl => match us, hl with | [_], _ => rfl
abbrev st_strips_by : Stmt := top 22
theorem sc_strips_by : FnScope ["plan", "first"] ["plan", "first"] (defScope st_strips_by) := ⟨rfl, rfl, rfl, by decide +kernel, rfl, by decide +kernel, by decide +kernel⟩
theorem bi_strips_by : BindsSt "strips_by" "strips_by" st_strips_by ["plan", "first"] := fun _ _ _ _ _ _ us hl => match us, hl with | [_, _], _ => rfl
abbrev st_least_carpet : Stmt := top 23
theorem sc_least_carpet : FnScope ["choices", "found", "number", "plan", "first"] ["choices"] (defScope st_least_carpet) := ⟨rfl, rfl, rfl, by decide +kernel, rfl, by decide +kernel, by decide +kernel⟩
theorem bi_least_carpet : BindsSt "least_carpet" "least_carpet" st_least_carpet ["choices"] := fun _ _ _ _ _ _ us hl => match us, hl with | [_], _ => rfl
abbrev st_best_way_round : Stmt := top 24
theorem sc_best_way_round : FnScope ["plan"] ["plan"] (defScope st_best_way_round) := ⟨rfl, rfl, rfl, by decide +kernel, rfl, by decide +kernel, by decide +kernel⟩
theorem bi_best_way_round : BindsSt "best_way_round" "best_way_round" st_best_way_round ["plan"] := fun _ _ _ _ _ _ us hl => match us, hl with | [_], _ => rfl
abbrev st_best_width : Stmt := top 25
theorem sc_best_width : FnScope ["plan", "low", "high", "wide"] ["plan", "low", "high"] (defScope st_best_width) := ⟨rfl, rfl, rfl, by decide +kernel, rfl, by decide +kernel, by decide +kernel⟩
theorem bi_best_width : BindsSt "best_width" "best_width" st_best_width ["plan", "low", "high"] := fun _ _ _ _ _ _ us hl => match us, hl with | [_, _, _], _ => rfl
abbrev st_fit_widths : Stmt := top 26
theorem sc_fit_widths : FnScope ["plan", "low", "high", "wide"] ["plan", "low", "high"] (defScope st_fit_widths) := ⟨rfl, rfl, rfl, by decide +kernel, rfl, by decide +kernel, by decide +kernel⟩
theorem bi_fit_widths : BindsSt "fit_widths" "fit_widths" st_fit_widths ["plan", "low", "high"] := fun _ _ _ _ _ _ us hl => match us, hl with | [_, _, _], _ => rfl
abbrev st_next_seam : Stmt := top 27
theorem sc_next_seam : FnScope ["plan", "first", "place", "seam"] ["plan", "first", "place"] (defScope st_next_seam) := ⟨rfl, rfl, rfl, by decide +kernel, rfl, by decide +kernel, by decide +kernel⟩
theorem bi_next_seam : BindsSt "next_seam" "next_seam" st_next_seam ["plan", "first", "place"] := fun _ _ _ _ _ _ us hl => match us, hl with | [_, _, _], _ => rfl
abbrev st_widest_end : Stmt := top 28
theorem sc_widest_end : FnScope ["plan", "low", "first"] ["plan", "low"] (defScope st_widest_end) := ⟨rfl, rfl, rfl, by decide +kernel, rfl, by decide +kernel, by decide +kernel⟩
theorem bi_widest_end : BindsSt "widest_end" "widest_end" st_widest_end ["plan", "low"] := fun _ _ _ _ _ _ us hl => match us, hl with | [_, _], _ => rfl
abbrev st_Works_init : Stmt := inClass (top 31) 0
theorem sc_Works_init : FnScope ["self"] ["self"] (defScope st_Works_init) := ⟨rfl, rfl, rfl, by decide +kernel, rfl, by decide +kernel, by decide +kernel⟩
theorem bi_Works_init : BindsSt "__init__" "Works.__init__" st_Works_init ["self"] := fun _ _ _ _ _ _ us hl => match us, hl with | [_], _ => rfl
abbrev st_Works_begin_with : Stmt := inClass (top 31) 1
theorem sc_Works_begin_with : FnScope ["self", "plan"] ["self", "plan"] (defScope st_Works_begin_with) := ⟨rfl, rfl, rfl, by decide +kernel, rfl, by decide +kernel, by decide +kernel⟩
theorem bi_Works_begin_with : BindsSt "begin_with" "Works.begin_with" st_Works_begin_with ["self", "plan"] := fun _ _ _ _ _ _ us hl => match us, hl with | [_, _], _ => rfl
abbrev st_Works_change_to : Stmt := inClass (top 31) 2
theorem sc_Works_change_to : FnScope ["self", "plan", "kept"] ["self", "plan"] (defScope st_Works_change_to) := ⟨rfl, rfl, rfl, by decide +kernel, rfl, by decide +kernel, by decide +kernel⟩
theorem bi_Works_change_to : BindsSt "change_to" "Works.change_to" st_Works_change_to ["self", "plan"] := fun _ _ _ _ _ _ us hl => match us, hl with | [_, _], _ => rfl
abbrev st_Works_take_back : Stmt := inClass (top 31) 3
theorem sc_Works_take_back : FnScope ["self"] ["self"] (defScope st_Works_take_back) := ⟨rfl, rfl, rfl, by decide +kernel, rfl, by decide +kernel, by decide +kernel⟩
theorem bi_Works_take_back : BindsSt "take_back" "Works.take_back" st_Works_take_back ["self"] := fun _ _ _ _ _ _ us hl => match us, hl with | [_], _ => rfl
abbrev st_call_begin : Stmt := top 42
theorem sc_call_begin : FnScope ["works", "numbers", "wide", "across", "along"] ["works", "numbers"] (defScope st_call_begin) := ⟨rfl, rfl, rfl, by decide +kernel, rfl, by decide +kernel, by decide +kernel⟩
theorem bi_call_begin : BindsSt "call_begin" "call_begin" st_call_begin ["works", "numbers"] := fun _ _ _ _ _ _ us hl => match us, hl with | [_, _], _ => rfl
abbrev st_refusal_of_opening : Stmt := top 43
theorem sc_refusal_of_opening : FnScope ["openings", "numbers", "wall"] ["openings", "numbers", "wall"] (defScope st_refusal_of_opening) := ⟨rfl, rfl, rfl, by decide +kernel, rfl, by decide +kernel, by decide +kernel⟩
theorem bi_refusal_of_opening : BindsSt "refusal_of_opening" "refusal_of_opening" st_refusal_of_opening ["openings", "numbers", "wall"] := fun _ _ _ _ _ _ us hl => match us, hl with | [_, _, _], _ => rfl
abbrev st_call_door : Stmt := top 44
theorem sc_call_door : FnScope ["works", "numbers", "plan", "refusal"] ["works", "numbers"] (defScope st_call_door) := ⟨rfl, rfl, rfl, by decide +kernel, rfl, by decide +kernel, by decide +kernel⟩
theorem bi_call_door : BindsSt "call_door" "call_door" st_call_door ["works", "numbers"] := fun _ _ _ _ _ _ us hl => match us, hl with | [_, _], _ => rfl
abbrev st_call_side : Stmt := top 45
theorem sc_call_side : FnScope ["works", "numbers", "plan", "refusal"] ["works", "numbers"] (defScope st_call_side) := ⟨rfl, rfl, rfl, by decide +kernel, rfl, by decide +kernel, by decide +kernel⟩
theorem bi_call_side : BindsSt "call_side" "call_side" st_call_side ["works", "numbers"] := fun _ _ _ _ _ _ us hl => match us, hl with | [_, _], _ => rfl
abbrev st_without : Stmt := top 46
theorem sc_without : FnScope ["openings", "i"] ["openings", "i"] (defScope st_without) := ⟨rfl, rfl, rfl, by decide +kernel, rfl, by decide +kernel, by decide +kernel⟩
theorem bi_without : BindsSt "without" "without" st_without ["openings", "i"] := fun _ _ _ _ _ _ us hl => match us, hl with | [_, _], _ => rfl
abbrev st_call_undoor : Stmt := top 47
theorem sc_call_undoor : FnScope ["works", "numbers", "plan", "i", "doors"] ["works", "numbers"] (defScope st_call_undoor) := ⟨rfl, rfl, rfl, by decide +kernel, rfl, by decide +kernel, by decide +kernel⟩
theorem bi_call_undoor : BindsSt "call_undoor" "call_undoor" st_call_undoor ["works", "numbers"] := fun _ _ _ _ _ _ us hl => match us, hl with | [_, _], _ => rfl
abbrev st_call_unside : Stmt := top 48
theorem sc_call_unside : FnScope ["works", "numbers", "plan", "i", "sides"] ["works", "numbers"] (defScope st_call_unside) := ⟨rfl, rfl, rfl, by decide +kernel, rfl, by decide +kernel, by decide +kernel⟩
theorem bi_call_unside : BindsSt "call_unside" "call_unside" st_call_unside ["works", "numbers"] := fun _ _ _ _ _ _ us hl => match us, hl with | [_, _], _ => rfl
abbrev st_call_wide : Stmt := top 49
theorem sc_call_wide : FnScope ["works", "numbers", "plan"] ["works", "numbers"] (defScope st_call_wide) := ⟨rfl, rfl, rfl, by decide +kernel, rfl, by decide +kernel, by decide +kernel⟩
theorem bi_call_wide : BindsSt "call_wide" "call_wide" st_call_wide ["works", "numbers"] := fun _ _ _ _ _ _ us hl => match us, hl with | [_, _], _ => rfl
abbrev st_call_room : Stmt := top 50
theorem sc_call_room : FnScope ["works", "numbers", "plan", "across", "along"] ["works", "numbers"] (defScope st_call_room) := ⟨rfl, rfl, rfl, by decide +kernel, rfl, by decide +kernel, by decide +kernel⟩
theorem bi_call_room : BindsSt "call_room" "call_room" st_call_room ["works", "numbers"] := fun _ _ _ _ _ _ us hl => match us, hl with | [_, _], _ => rfl
abbrev st_call_back : Stmt := top 51
theorem sc_call_back : FnScope ["works", "numbers"] ["works", "numbers"] (defScope st_call_back) := ⟨rfl, rfl, rfl, by decide +kernel, rfl, by decide +kernel, by decide +kernel⟩
theorem bi_call_back : BindsSt "call_back" "call_back" st_call_back ["works", "numbers"] := fun _ _ _ _ _ _ us hl => match us, hl with | [_, _], _ => rfl
abbrev st_call_seams : Stmt := top 52
theorem sc_call_seams : FnScope ["works", "numbers", "first", "seams"] ["works", "numbers"] (defScope st_call_seams) := ⟨rfl, rfl, rfl, by decide +kernel, rfl, by decide +kernel, by decide +kernel⟩
theorem bi_call_seams : BindsSt "call_seams" "call_seams" st_call_seams ["works", "numbers"] := fun _ _ _ _ _ _ us hl => match us, hl with | [_, _], _ => rfl
abbrev st_call_strips : Stmt := top 53
theorem sc_call_strips : FnScope ["works", "numbers", "plan", "first", "seams", "strips"] ["works", "numbers"] (defScope st_call_strips) := ⟨rfl, rfl, rfl, by decide +kernel, rfl, by decide +kernel, by decide +kernel⟩
theorem bi_call_strips : BindsSt "call_strips" "call_strips" st_call_strips ["works", "numbers"] := fun _ _ _ _ _ _ us hl => match us, hl with | [_, _], _ => rfl
abbrev st_call_clear : Stmt := top 54
theorem sc_call_clear : FnScope ["works", "numbers", "first"] ["works", "numbers"] (defScope st_call_clear) := ⟨rfl, rfl, rfl, by decide +kernel, rfl, by decide +kernel, by decide +kernel⟩
theorem bi_call_clear : BindsSt "call_clear" "call_clear" st_call_clear ["works", "numbers"] := fun _ _ _ _ _ _ us hl => match us, hl with | [_, _], _ => rfl
abbrev st_call_firsts : Stmt := top 55
theorem sc_call_firsts : FnScope ["works", "numbers", "firsts"] ["works", "numbers"] (defScope st_call_firsts) := ⟨rfl, rfl, rfl, by decide +kernel, rfl, by decide +kernel, by decide +kernel⟩
theorem bi_call_firsts : BindsSt "call_firsts" "call_firsts" st_call_firsts ["works", "numbers"] := fun _ _ _ _ _ _ us hl => match us, hl with | [_, _], _ => rfl
abbrev st_call_best : Stmt := top 56
theorem sc_call_best : FnScope ["works", "numbers", "plan", "first", "seams"] ["works", "numbers"] (defScope st_call_best) := ⟨rfl, rfl, rfl, by decide +kernel, rfl, by decide +kernel, by decide +kernel⟩
theorem bi_call_best : BindsSt "call_best" "call_best" st_call_best ["works", "numbers"] := fun _ _ _ _ _ _ us hl => match us, hl with | [_, _], _ => rfl
abbrev st_call_fewest : Stmt := top 57
theorem sc_call_fewest : FnScope ["works", "numbers", "first"] ["works", "numbers"] (defScope st_call_fewest) := ⟨rfl, rfl, rfl, by decide +kernel, rfl, by decide +kernel, by decide +kernel⟩
theorem bi_call_fewest : BindsSt "call_fewest" "call_fewest" st_call_fewest ["works", "numbers"] := fun _ _ _ _ _ _ us hl => match us, hl with | [_, _], _ => rfl
abbrev st_call_way_round : Stmt := top 58
theorem sc_call_way_round : FnScope ["works", "numbers", "found", "carpet", "way", "first"] ["works", "numbers"] (defScope st_call_way_round) := ⟨rfl, rfl, rfl, by decide +kernel, rfl, by decide +kernel, by decide +kernel⟩
theorem bi_call_way_round : BindsSt "call_way_round" "call_way_round" st_call_way_round ["works", "numbers"] := fun _ _ _ _ _ _ us hl => match us, hl with | [_, _], _ => rfl
abbrev st_call_turn : Stmt := top 59
theorem sc_call_turn : FnScope ["works", "numbers", "plan"] ["works", "numbers"] (defScope st_call_turn) := ⟨rfl, rfl, rfl, by decide +kernel, rfl, by decide +kernel, by decide +kernel⟩
theorem bi_call_turn : BindsSt "call_turn" "call_turn" st_call_turn ["works", "numbers"] := fun _ _ _ _ _ _ us hl => match us, hl with | [_, _], _ => rfl
abbrev st_are_widths : Stmt := top 60
theorem sc_are_widths : FnScope ["low", "high"] ["low", "high"] (defScope st_are_widths) := ⟨rfl, rfl, rfl, by decide +kernel, rfl, by decide +kernel, by decide +kernel⟩
theorem bi_are_widths : BindsSt "are_widths" "are_widths" st_are_widths ["low", "high"] := fun _ _ _ _ _ _ us hl => match us, hl with | [_, _], _ => rfl
abbrev st_call_widths : Stmt := top 61
theorem sc_call_widths : FnScope ["works", "numbers", "low", "high", "widths"] ["works", "numbers"] (defScope st_call_widths) := ⟨rfl, rfl, rfl, by decide +kernel, rfl, by decide +kernel, by decide +kernel⟩
theorem bi_call_widths : BindsSt "call_widths" "call_widths" st_call_widths ["works", "numbers"] := fun _ _ _ _ _ _ us hl => match us, hl with | [_, _], _ => rfl
abbrev st_call_best_width : Stmt := top 62
theorem sc_call_best_width : FnScope ["works", "numbers", "low", "high", "found", "carpet", "wide"] ["works", "numbers"] (defScope st_call_best_width) := ⟨rfl, rfl, rfl, by decide +kernel, rfl, by decide +kernel, by decide +kernel⟩
theorem bi_call_best_width : BindsSt "call_best_width" "call_best_width" st_call_best_width ["works", "numbers"] := fun _ _ _ _ _ _ us hl => match us, hl with | [_, _], _ => rfl
abbrev st_call_could : Stmt := top 63
theorem sc_call_could : FnScope ["works", "numbers", "plan", "asked"] ["works", "numbers"] (defScope st_call_could) := ⟨rfl, rfl, rfl, by decide +kernel, rfl, by decide +kernel, by decide +kernel⟩
theorem bi_call_could : BindsSt "call_could" "call_could" st_call_could ["works", "numbers"] := fun _ _ _ _ _ _ us hl => match us, hl with | [_, _], _ => rfl
abbrev st_call_widest : Stmt := top 64
theorem sc_call_widest : FnScope ["works", "numbers", "low", "end"] ["works", "numbers"] (defScope st_call_widest) := ⟨rfl, rfl, rfl, by decide +kernel, rfl, by decide +kernel, by decide +kernel⟩
theorem bi_call_widest : BindsSt "call_widest" "call_widest" st_call_widest ["works", "numbers"] := fun _ _ _ _ _ _ us hl => match us, hl with | [_, _], _ => rfl
abbrev st_call_hits : Stmt := top 65
theorem sc_call_hits : FnScope ["works", "numbers", "first", "doors"] ["works", "numbers"] (defScope st_call_hits) := ⟨rfl, rfl, rfl, by decide +kernel, rfl, by decide +kernel, by decide +kernel⟩
theorem bi_call_hits : BindsSt "call_hits" "call_hits" st_call_hits ["works", "numbers"] := fun _ _ _ _ _ _ us hl => match us, hl with | [_, _], _ => rfl
abbrev st_call_state : Stmt := top 66
theorem sc_call_state : FnScope ["works", "numbers", "plan"] ["works", "numbers"] (defScope st_call_state) := ⟨rfl, rfl, rfl, by decide +kernel, rfl, by decide +kernel, by decide +kernel⟩
theorem bi_call_state : BindsSt "call_state" "call_state" st_call_state ["works", "numbers"] := fun _ _ _ _ _ _ us hl => match us, hl with | [_, _], _ => rfl
abbrev st_answer : Stmt := top 68
theorem sc_answer : FnScope ["works", "call", "numbers", "step"] ["works", "call", "numbers"] (defScope st_answer) := ⟨rfl, rfl, rfl, by decide +kernel, rfl, by decide +kernel, by decide +kernel⟩
theorem bi_answer : BindsSt "answer" "answer" st_answer ["works", "call", "numbers"] := fun _ _ _ _ _ _ us hl => match us, hl with | [_, _, _], _ => rfl
abbrev st_answers : Stmt := top 69
theorem sc_answers : FnScope ["calls", "works", "told", "place", "call", "behind", "numbers"] ["calls"] (defScope st_answers) := ⟨rfl, rfl, rfl, by decide +kernel, rfl, by decide +kernel, by decide +kernel⟩
theorem bi_answers : BindsSt "answers" "answers" st_answers ["calls"] := fun _ _ _ _ _ _ us hl => match us, hl with | [_], _ => rfl
end Sd

set_option Elab.async false
set_option linter.all false
set_option maxRecDepth 100000
set_option maxHeartbeats 2000000
/-! THE DATA: openings, plans, the works. -/
namespace Sd
open PySem PySem.Spec PyProof.Rows L2 Kh352
/-- a natural number as a value -/
def nV (n : Nat) : V := .int (n : Int)
def OpAt (K : PySem.W.Frag) (H : Hp) (v : V) (e : Nat × Nat) : Prop := ∃ a, v = .ref a ∧ SqT K H a [nV e.1, nV e.2]
def OpsAt (K : PySem.W.Frag) (H : Hp) (v : V) (es : List (Nat × Nat)) : Prop := ∃ a vs, v = .ref a ∧ SqT K H a vs ∧ Paired (fun v e => OpAt K H v e) vs es
/-- a plan's attributes -/
def planF (k : Kh352.Kept) (d s : V) : List (Str × V) := [("wide", nV k.wide), ("across", nV k.across), ("along", nV k.along), ("doors", d), ("sides", s)]
def PlanAt (K : PySem.W.Frag) (CP : Addr) (H : Hp) (p : Addr) (k : Kh352.Kept) : Prop := ∃ dx d s, H p = some (.ins CP dx (planF k d s)) ∧ OpsAt K H d k.doors ∧ OpsAt K H s k.sides
/-- the works' attributes -/
def worksF (pv ev : V) : List (Str × V) := [("plan", pv), ("earlier", ev)]
def PlansAt (K : PySem.W.Frag) (CP : Addr) (H : Hp) (vs : List V) (ks : List Kh352.Kept) : Prop := Paired (fun v k => ∃ p, v = .ref p ∧ PlanAt K CP H p k) vs ks
/-- the works at W, in that state -/
def WorksAt (K : PySem.W.Frag) (CP CW : Addr) (H : Hp) (W : Addr) : Option Abs → Prop
  | none => ∃ dx l, H W = some (.ins CW dx (worksF .non (.ref l))) ∧ H l = some (.lst [])
  | some a => ∃ dx p l vs, H W = some (.ins CW dx (worksF (.ref p) (.ref l))) ∧ PlanAt K CP H p (cur a) ∧ H l = some (.lst vs) ∧ PlansAt K CP H vs a.undo.reverse

theorem pr_imp {α β : Type} {F G : α → β → Prop} (f : ∀ a b, F a b → G a b) {l₁ : List α} {l₂ : List β} (r : Paired F l₁ l₂) : Paired G l₁ l₂ := L2.Paired.mapP r f
theorem pr_get : ∀ {α β : Type} {F : α → β → Prop} {l₁ : List α} {l₂ : List β} {i : Nat} {x : α}, Paired F l₁ l₂ → l₁[i]? = some x → ∃ y, l₂[i]? = some y ∧ F x y
  | _, _, _, _, _, _, _, .nil, h => by simp at h
  | _, _, _, _, _, 0, _, .cons r _, h => by simp at h; subst h; exact ⟨_, rfl, r⟩
  | _, _, _, _, _, i + 1, x, .cons _ t, h => by
    obtain ⟨y, e, f⟩ := pr_get (i := i) (x := x) t (by simpa using h)
    exact ⟨y, by simpa using e, f⟩
theorem pr_app : ∀ {α β : Type} {F : α → β → Prop} {l₁ m₁ : List α} {l₂ m₂ : List β}, Paired F l₁ l₂ → Paired F m₁ m₂ → Paired F (l₁ ++ m₁) (l₂ ++ m₂)
  | _, _, _, _, _, _, _, .nil, s => s
  | _, _, _, _, _, _, _, .cons r t, s => .cons r (pr_app t s)
theorem pr_drop : ∀ {α β : Type} {F : α → β → Prop} {l₁ : List α} {l₂ : List β} (n : Nat), Paired F l₁ l₂ → Paired F (l₁.drop n) (l₂.drop n)
  | _, _, _, _, _, 0, r => r
  | _, _, _, _, _, _ + 1, .nil => .nil
  | _, _, _, _, _, n + 1, .cons _ t => pr_drop n t
theorem pr_take : ∀ {α β : Type} {F : α → β → Prop} {l₁ : List α} {l₂ : List β} (n : Nat), Paired F l₁ l₂ → Paired F (l₁.take n) (l₂.take n)
  | _, _, _, _, _, 0, _ => .nil
  | _, _, _, _, _, _ + 1, .nil => .nil
  | _, _, _, _, _, n + 1, .cons r t => .cons r (pr_take n t)
theorem pr_len : ∀ {α β : Type} {F : α → β → Prop} {l₁ : List α} {l₂ : List β}, Paired F l₁ l₂ → l₁.length = l₂.length
  | _, _, _, _, _, .nil => rfl
  | _, _, _, _, _, .cons _ t => by rw [List.length_cons, List.length_cons, pr_len t]
theorem pr_last : ∀ {α β : Type} {F : α → β → Prop} {l₁ : List α} {m : List β} {y : β}, Paired F l₁ (m ++ [y]) → ∃ l x, l₁ = l ++ [x] ∧ Paired F l m ∧ F x y
  | _, _, _, _, [], _, .cons r .nil => ⟨[], _, rfl, .nil, r⟩
  | _, _, _, _, _ :: _, _, .cons r t => by
    obtain ⟨l, x, e, q, f⟩ := pr_last t
    subst e
    exact ⟨_ :: l, x, rfl, .cons r q, f⟩

section
variable {K : PySem.W.Frag} {CP CW : Addr} {H H' : Hp}
theorem OpAt.same {v : V} {e : Nat × Nat} (s : Same H H') (h : OpAt K H v e) : OpAt K H' v e := by
  obtain ⟨a, r, q⟩ := h
  exact ⟨a, r, Same.tup s q⟩
theorem OpsAt.same {v : V} {es : List (Nat × Nat)} (s : Same H H') (h : OpsAt K H v es) : OpsAt K H' v es := by
  obtain ⟨a, vs, r, q, t⟩ := h
  exact ⟨a, vs, r, Same.tup s q, pr_imp (fun _ _ z => OpAt.same s z) t⟩
theorem PlanAt.same {p : Addr} {k : Kh352.Kept} (s : Same H H') (h : PlanAt K CP H p k) : PlanAt K CP H' p k := by
  obtain ⟨dx, d, e, r, q, t⟩ := h
  exact ⟨dx, d, e, s _ _ r, q.same s, t.same s⟩
theorem PlansAt.same {vs : List V} {ks : List Kh352.Kept} (s : Same H H') (h : PlansAt K CP H vs ks) : PlansAt K CP H' vs ks :=
  pr_imp (fun _ _ ⟨p, e, z⟩ => ⟨p, e, PlanAt.same s z⟩) h
theorem WorksAt.same {W : Addr} {s : Option Abs} (e : Same H H') (h : WorksAt K CP CW H W s) : WorksAt K CP CW H' W s := by
  cases s with
  | none =>
    obtain ⟨dx, l, h1, h2⟩ := h
    exact ⟨dx, l, e _ _ h1, e _ _ h2⟩
  | some a =>
    obtain ⟨dx, p, l, vs, h1, h2, h3, h4⟩ := h
    exact ⟨dx, p, l, vs, e _ _ h1, h2.same e, e _ _ h3, h4.same e⟩
/-- what stands at q is no tuple and no plan -/
structure Odd (CP : Addr) (H : Hp) (q : Addr) : Prop where
  t : ∀ xs, H q ≠ some (.tup xs)
  f : ∀ o xs, H q ≠ some (.frz o (.tup xs))
  i : ∀ dx k d s, H q ≠ some (.ins CP dx (planF k d s))
section
variable {q : Addr} (hq : Odd CP H q) (b : But q H H')
include hq b
theorem odd_tup {a : Addr} {xs : List V} (h : SqT K H a xs) : SqT K H' a xs := by
  rcases h with (h | ⟨o, h⟩) | h
  · exact .inl (.inl (b _ _ h fun z => hq.t xs (by rw [← z]; exact h)))
  · exact .inl (.inr ⟨o, b _ _ h fun z => hq.f o xs (by rw [← z]; exact h)⟩)
  · exact .inr h
theorem OpAt.odd {v : V} {e : Nat × Nat} (h : OpAt K H v e) : OpAt K H' v e := by
  obtain ⟨a, r, z⟩ := h
  exact ⟨a, r, odd_tup hq b z⟩
theorem OpsAt.odd {v : V} {es : List (Nat × Nat)} (h : OpsAt K H v es) : OpsAt K H' v es := by
  obtain ⟨a, vs, r, z, t⟩ := h
  exact ⟨a, vs, r, odd_tup hq b z, pr_imp (fun _ _ y => OpAt.odd hq b y) t⟩
theorem PlanAt.odd {p : Addr} {k : Kh352.Kept} (h : PlanAt K CP H p k) : PlanAt K CP H' p k := by
  obtain ⟨dx, d, e, r, z, t⟩ := h
  exact ⟨dx, d, e, b _ _ r (fun y => hq.i dx k d e (by rw [← y]; exact r)), OpsAt.odd hq b z, OpsAt.odd hq b t⟩
theorem PlansAt.odd {vs : List V} {ks : List Kh352.Kept} (h : PlansAt K CP H vs ks) : PlansAt K CP H' vs ks :=
  pr_imp (fun _ _ ⟨p, e, z⟩ => ⟨p, e, PlanAt.odd hq b z⟩) h
end
theorem odd_works {W dw : Addr} {pv ev : V} (hW : H W = some (.ins CW dw (worksF pv ev))) : Odd CP H W := by
  refine ⟨fun xs z => ?_, fun o xs z => ?_, fun dx k d s z => ?_⟩
  · rw [hW] at z; cases z
  · rw [hW] at z; cases z
  · rw [hW] at z
    injection z with z
    injection z with _ _ z3
    have z4 := congrArg List.length z3
    exact absurd (show (2 : Nat) = 5 from z4) (by decide)
theorem odd_frz {q : Addr} {o : Obj} {xs : List V} (h : H q = some (.frz o (.lst xs))) : Odd CP H q := by
  refine ⟨fun ys z => ?_, fun o' ys z => ?_, fun dx k d s z => ?_⟩ <;> (rw [h] at z; cases z)
theorem odd_tbl {q : Addr} {ps : Array Value} (h : H q = some (.tbl ps)) : Odd CP H q := by
  refine ⟨fun ys z => ?_, fun o' ys z => ?_, fun dx k d s z => ?_⟩ <;> (rw [h] at z; cases z)
theorem odd_lst {q : Addr} {xs : List V} (h : H q = some (.lst xs)) : Odd CP H q := by
  refine ⟨fun ys z => ?_, fun o' ys z => ?_, fun dx k d s z => ?_⟩ <;> (rw [h] at z; cases z)
section
variable {W dw : Addr} {pv ev : V} (hW : H W = some (.ins CW dw (worksF pv ev))) (b : But W H H')
include hW b
theorem OpAt.but {v : V} {e : Nat × Nat} (h : OpAt K H v e) : OpAt K H' v e := OpAt.odd (CP := CW) (odd_works hW) b h
theorem OpsAt.but {v : V} {es : List (Nat × Nat)} (h : OpsAt K H v es) : OpsAt K H' v es := OpsAt.odd (CP := CW) (odd_works hW) b h
theorem PlanAt.but {p : Addr} {k : Kh352.Kept} (h : PlanAt K CP H p k) : PlanAt K CP H' p k := PlanAt.odd (odd_works hW) b h
theorem PlansAt.but {vs : List V} {ks : List Kh352.Kept} (h : PlansAt K CP H vs ks) : PlansAt K CP H' vs ks := PlansAt.odd (odd_works hW) b h
end
/-- the works, past a locked list -/
theorem WorksAt.thaw {W q : Addr} {s : Option Abs} {o : Obj} {xs : List V} (h : WorksAt K CP CW H W s) (hq : H q = some (.frz o (.lst xs))) (b : But q H H') : WorksAt K CP CW H' W s := by
  cases s with
  | none =>
    obtain ⟨dx, l, h1, h2⟩ := h
    exact ⟨dx, l, b _ _ h1 (ne_of h1 hq (by intro z; cases z)), b _ _ h2 (ne_of h2 hq (by intro z; cases z))⟩
  | some a =>
    obtain ⟨dx, p, l, vs, h1, h2, h3, h4⟩ := h
    exact ⟨dx, p, l, vs, b _ _ h1 (ne_of h1 hq (by intro z; cases z)), PlanAt.odd (odd_frz hq) b h2, b _ _ h3 (ne_of h3 hq (by intro z; cases z)), PlansAt.odd (odd_frz hq) b h4⟩
/-- the works, past a code's table -/
theorem WorksAt.tab {W q : Addr} {s : Option Abs} {ps : Array Value} (h : WorksAt K CP CW H W s) (hq : H q = some (.tbl ps)) (b : But q H H') : WorksAt K CP CW H' W s := by
  cases s with
  | none =>
    obtain ⟨dx, l, h1, h2⟩ := h
    exact ⟨dx, l, b _ _ h1 (ne_of h1 hq (by intro z; cases z)), b _ _ h2 (ne_of h2 hq (by intro z; cases z))⟩
  | some a =>
    obtain ⟨dx, p, l, vs, h1, h2, h3, h4⟩ := h
    exact ⟨dx, p, l, vs, b _ _ h1 (ne_of h1 hq (by intro z; cases z)), PlanAt.odd (odd_tbl hq) b h2, b _ _ h3 (ne_of h3 hq (by intro z; cases z)), PlansAt.odd (odd_tbl hq) b h4⟩
theorem seq_tab {q a : Addr} {xs : List V} {ps : Array Value} (hq : H q = some (.tbl ps)) (b : But q H H') (h : SqL K H a xs) : SqL K H' a xs := by
  rcases h with (h | ⟨o, h⟩) | h
  · exact .inl (.inl (b _ _ h (ne_of h hq (by intro z; cases z))))
  · exact .inl (.inr ⟨o, b _ _ h (ne_of h hq (by intro z; cases z))⟩)
  · exact .inr h
/-- all that was tracked is as it was, but the objects at W and q -/
def ButT (W q : Addr) (H H' : Hp) : Prop := ∀ b o, H b = some o → b ≠ W → b ≠ q → H' b = some o
/-- the works stand clear of the list at q -/
def WorksOff (K : PySem.W.Frag) (CP CW q : Addr) (H : Hp) (W : Addr) (s : Option Abs) : Prop := ∀ (o : Obj) (xs : List V), WorksAt K CP CW (upd H q (.frz o (.lst xs))) W s
/-- a list of numbers stands at l -/
abbrev Nums (H : Hp) (l : Addr) (xs : List Nat) : Prop := H l = some (.lst (xs.map nV))
abbrev Ints (H : Hp) (l : Addr) (xs : List Int) : Prop := H l = some (.lst (xs.map V.int))
theorem nV_ofNat (xs : List Nat) : xs.map nV = (xs.map Int.ofNat).map V.int := by
  rw [List.map_map]
  rfl
/-- the seams as a range of Python's -/
theorem rg_seams {w x o : Nat} (hw : 1 ≤ w) (hw2 : w ≤ 60) (hx : x ≤ 200) (ho : o < 4294967296) : RgC (o : Int) (x : Int) (w : Int) (nSeams w x o) := by
  have e : Builtin.Range.rangeSize (o : Int) (x : Int) (w : Int) = ((nSeams w x o : Nat) : Int) := by
    unfold Builtin.Range.rangeSize nSeams
    rw [if_pos (by omega)]
    by_cases h : o < x
    · rw [if_pos (by omega), if_pos h]
      rw [show ((x : Int) - (o : Int) - 1) = ((x - o - 1 : Nat) : Int) by omega]
      rw [← Int.natCast_ediv]
      omega
    · rw [if_neg (by omega), if_neg h]
      rfl
  refine ⟨by omega, by omega, ?_, e⟩
  have hn := nSeams_small (w := w) (x := x) (o := o) hx
  unfold Builtin.Range.small
  rw [e]
  simp only [Builtin.Range.rangeFitsLong, Bool.and_eq_true, Bool.or_eq_true, decide_eq_true_eq, beq_iff_eq, show ((w : Int) > 0) by omega, if_true]
  omega
theorem seams_V {w x o : Nat} (hw : 1 ≤ w) : (List.range (nSeams w x o)).map (fun k : Nat => V.int ((o : Int) + (k : Int) * (w : Int))) = (seams w x o).map nV := by
  rw [seams_eq hw, List.map_map]
  refine List.map_congr_left fun k _ => ?_
  show V.int _ = V.int _
  rw [Int.natCast_add, Int.natCast_mul]
end
end Sd

set_option Elab.async false
set_option linter.all false
set_option maxRecDepth 100000
set_option maxHeartbeats 2000000
/-! PLAN: what the top has written; one theorem a def. -/
namespace Sd
open PySem PySem.Spec PyProof.Rows L2 Kh352
/-- what the top has written, as the proofs below lean on it -/
structure Txt0 (K : PySem.W.Frag) (mg : Str → Option Value) (CP CW : Addr) : Prop where
  c_WIDEST_STRIP : Cst mg "WIDEST_STRIP" (.int 60)
  c_LONGEST_WALL : Cst mg "LONGEST_WALL" (.int 200)
  c_ALONG : Cst mg "ALONG" (.int 0)
  c_ACROSS : Cst mg "ACROSS" (.int 1)
  c_CHANGES_KEPT : Cst mg "CHANGES_KEPT" (.int 10)
  c_NO_SUCH : Cst mg "NO_SUCH" (.int (-2))
  c_BEYOND_WALL : Cst mg "BEYOND_WALL" (.int (-16))
  c_NOT_AS_TOLD : Cst mg "NOT_AS_TOLD" (.int (-22))
  c_TOO_MANY : Cst mg "TOO_MANY" (.int (-28))
  c_NONE_CLEAR : Cst mg "NONE_CLEAR" (.int (-33))
  c_NOT_BEGUN : Cst mg "NOT_BEGUN" (.int (-61))
  c_MOST_OPENINGS : Cst mg "MOST_OPENINGS" (.int 5)
  c_BEGIN : Cst mg "BEGIN" (.int 0)
  c_ARGUMENT_COUNTS : ∃ a : Addr, Cst mg "ARGUMENT_COUNTS" (.ref a) ∧ ∀ H : Hp, SqT K H a [.int 3, .int 2, .int 2, .int 1, .int 1, .int 1, .int 2, .int 0, .int 1, .int 1, .int 1, .int 0, .int 0, .int 0, .int 0, .int 0, .int 2, .int 2, .int 2, .int 1, .int 1, .int 0]
  c_STEPS : ∃ a f0 f1 f2 f3 f4 f5 f6 f7 f8 f9 f10 f11 f12 f13 f14 f15 f16 f17 f18 f19 f20 f21 : Addr, Cst mg "STEPS" (.ref a) ∧ (∀ H : Hp, SqT K H a [.ref f0, .ref f1, .ref f2, .ref f3, .ref f4, .ref f5, .ref f6, .ref f7, .ref f8, .ref f9, .ref f10, .ref f11, .ref f12, .ref f13, .ref f14, .ref f15, .ref f16, .ref f17, .ref f18, .ref f19, .ref f20, .ref f21]) ∧ mg "call_begin" = some (.ref f0) ∧ mg "call_door" = some (.ref f1) ∧ mg "call_side" = some (.ref f2) ∧ mg "call_undoor" = some (.ref f3) ∧ mg "call_unside" = some (.ref f4) ∧ mg "call_wide" = some (.ref f5) ∧ mg "call_room" = some (.ref f6) ∧ mg "call_back" = some (.ref f7) ∧ mg "call_seams" = some (.ref f8) ∧ mg "call_strips" = some (.ref f9) ∧ mg "call_clear" = some (.ref f10) ∧ mg "call_firsts" = some (.ref f11) ∧ mg "call_best" = some (.ref f12) ∧ mg "call_fewest" = some (.ref f13) ∧ mg "call_way_round" = some (.ref f14) ∧ mg "call_turn" = some (.ref f15) ∧ mg "call_widths" = some (.ref f16) ∧ mg "call_best_width" = some (.ref f17) ∧ mg "call_could" = some (.ref f18) ∧ mg "call_widest" = some (.ref f19) ∧ mg "call_hits" = some (.ref f20) ∧ mg "call_state" = some (.ref f21)
  b_all : mg "all" = none
  b_list : mg "list" = none
  b_range : mg "range" = none
  b_len : mg "len" = none
  b_min : mg "min" = none
  b_any : mg "any" = none
  b_enumerate : mg "enumerate" = none
  b_max : mg "max" = none
  b_tuple : mg "tuple" = none
  cl_Plan : Cls K CP
  mg_Plan : mg "Plan" = some (.ref CP)
  mk_Plan : PySem.W.makesIn K CP = true
  kp_Plan : PySem.W.keepIn K (.ref CP) = true
  n_wide : NoAttr K CP "wide"
  n_across : NoAttr K CP "across"
  n_along : NoAttr K CP "along"
  n_doors : NoAttr K CP "doors"
  n_sides : NoAttr K CP "sides"
  cl_Works : Cls K CW
  mg_Works : mg "Works" = some (.ref CW)
  mk_Works : PySem.W.makesIn K CW = true
  kp_Works : PySem.W.keepIn K (.ref CW) = true
  n_plan : NoAttr K CW "plan"
  n_earlier : NoAttr K CW "earlier"
  m_Plan_init : GMeth K CP "__init__" "Plan.__init__" st_Plan_init
  m_Plan_with_wide : GMeth K CP "with_wide" "Plan.with_wide" st_Plan_with_wide
  m_Plan_with_room : GMeth K CP "with_room" "Plan.with_room" st_Plan_with_room
  m_Plan_with_doors : GMeth K CP "with_doors" "Plan.with_doors" st_Plan_with_doors
  m_Plan_with_sides : GMeth K CP "with_sides" "Plan.with_sides" st_Plan_with_sides
  m_Plan_turned : GMeth K CP "turned" "Plan.turned" st_Plan_turned
  g_is_strip_width : Glob K mg "is_strip_width" st_is_strip_width
  g_is_wall_length : Glob K mg "is_wall_length" st_is_wall_length
  g_is_first_width : Glob K mg "is_first_width" st_is_first_width
  g_lies_in_wall : Glob K mg "lies_in_wall" st_lies_in_wall
  g_all_end_within : Glob K mg "all_end_within" st_all_end_within
  g_seams_of : Glob K mg "seams_of" st_seams_of
  g_last_width : Glob K mg "last_width" st_last_width
  g_narrowest_width : Glob K mg "narrowest_width" st_narrowest_width
  g_carpet_needed : Glob K mg "carpet_needed" st_carpet_needed
  g_is_hit : Glob K mg "is_hit" st_is_hit
  g_hit_doors : Glob K mg "hit_doors" st_hit_doors
  g_is_clear : Glob K mg "is_clear" st_is_clear
  g_clear_firsts : Glob K mg "clear_firsts" st_clear_firsts
  g_some_first_is_clear : Glob K mg "some_first_is_clear" st_some_first_is_clear
  g_best_first : GlobC K mg "best_first" st_best_first
  g_strips_by : Glob K mg "strips_by" st_strips_by
  g_least_carpet : Glob K mg "least_carpet" st_least_carpet
  g_best_way_round : Glob K mg "best_way_round" st_best_way_round
  g_best_width : Glob K mg "best_width" st_best_width
  g_fit_widths : Glob K mg "fit_widths" st_fit_widths
  g_next_seam : Glob K mg "next_seam" st_next_seam
  g_widest_end : Glob K mg "widest_end" st_widest_end
  m_Works_init : GMeth K CW "__init__" "Works.__init__" st_Works_init
  m_Works_begin_with : GMeth K CW "begin_with" "Works.begin_with" st_Works_begin_with
  m_Works_change_to : GMeth K CW "change_to" "Works.change_to" st_Works_change_to
  m_Works_take_back : GMeth K CW "take_back" "Works.take_back" st_Works_take_back
  g_call_begin : Glob K mg "call_begin" st_call_begin
  g_refusal_of_opening : Glob K mg "refusal_of_opening" st_refusal_of_opening
  g_call_door : Glob K mg "call_door" st_call_door
  g_call_side : Glob K mg "call_side" st_call_side
  g_without : Glob K mg "without" st_without
  g_call_undoor : Glob K mg "call_undoor" st_call_undoor
  g_call_unside : Glob K mg "call_unside" st_call_unside
  g_call_wide : Glob K mg "call_wide" st_call_wide
  g_call_room : Glob K mg "call_room" st_call_room
  g_call_back : Glob K mg "call_back" st_call_back
  g_call_seams : Glob K mg "call_seams" st_call_seams
  g_call_strips : Glob K mg "call_strips" st_call_strips
  g_call_clear : Glob K mg "call_clear" st_call_clear
  g_call_firsts : Glob K mg "call_firsts" st_call_firsts
  g_call_best : Glob K mg "call_best" st_call_best
  g_call_fewest : Glob K mg "call_fewest" st_call_fewest
  g_call_way_round : Glob K mg "call_way_round" st_call_way_round
  g_call_turn : Glob K mg "call_turn" st_call_turn
  g_are_widths : Glob K mg "are_widths" st_are_widths
  g_call_widths : Glob K mg "call_widths" st_call_widths
  g_call_best_width : Glob K mg "call_best_width" st_call_best_width
  g_call_could : Glob K mg "call_could" st_call_could
  g_call_widest : Glob K mg "call_widest" st_call_widest
  g_call_hits : Glob K mg "call_hits" st_call_hits
  g_call_state : Glob K mg "call_state" st_call_state
  g_answer : Glob K mg "answer" st_answer
  g_answers : Glob K mg "answers" st_answers
structure Txt (K : PySem.W.Frag) (mg : Str → Option Value) (base : Heap) (CP CW : Addr) : Prop extends Txt0 K mg CP CW where
  bm : Bm mg base
/-- where the inner def stands in the text, its name -/
def mst : Stmt := (defBody st_best_first).headD (.Pass ⟨0, 0, 0, 0⟩)
def mpos : Pos := match mst with
  | .FunctionDef _ _ _ _ _ _ _ _ _ pos => pos
  | _ => ⟨0, 0, 0, 0⟩
abbrev PTb (K : PySem.W.Frag) : Addr := PT K "best_first"
abbrev Tb (K : PySem.W.Frag) (H : Hp) : Prop := TabOk (PTb K) mpos "best_first.<locals>.merit" H

section
variable {P : Program} {w : World} {K : PySem.W.Frag} {mg : Str → Option Value} {base : Heap} {CP CW : Addr} (T : Txt K mg base CP CW)
include T

/-! ### numbers -/
def spTest1 (c : Int → Prop) : Sp := fun vs H Q _ => ∃ n : Int, vs = [.int n] ∧ ∀ b : Bool, (b = true ↔ c n) → Q (.bl b) H
theorem def_is_strip_width : Def P w K mg base "is_strip_width" 1 ["number"] (spTest1 fun n => 1 ≤ n ∧ n ≤ 60) := by
  refine T.g_is_strip_width.mk_def (N := ["number"]) sc_is_strip_width bi_is_strip_width (fun vs H Q E h => ?_) (fun f cdv A outer s H vs Q E hr h => ?_)
  · obtain ⟨n, rfl, _⟩ := h
    rfl
  · obtain ⟨n, rfl, k⟩ := h
    refine ⟨_, (pss_one (ps_ret (pe_chain op_le op_le pe_int (pv 0) (pe_cst T.c_WIDEST_STRIP rfl)))), ?_⟩
    refine ⟨_, rfl, _, _, rfl, rfl, _, rfl, ite2 (fun h1 => ⟨_, _, rfl, rfl, k _ ⟨fun e => ⟨of_decide_eq_true h1, of_decide_eq_true e⟩, fun e => decide_eq_true e.2⟩⟩) (fun h1 => k _ ⟨fun e => (by cases e), fun e => absurd (decide_eq_true e.1) h1⟩)⟩
theorem def_is_wall_length : Def P w K mg base "is_wall_length" 1 ["number"] (spTest1 fun n => 1 ≤ n ∧ n ≤ 200) := by
  refine T.g_is_wall_length.mk_def (N := ["number"]) sc_is_wall_length bi_is_wall_length (fun vs H Q E h => ?_) (fun f cdv A outer s H vs Q E hr h => ?_)
  · obtain ⟨n, rfl, _⟩ := h
    rfl
  · obtain ⟨n, rfl, k⟩ := h
    refine ⟨_, (pss_one (ps_ret (pe_chain op_le op_le pe_int (pv 0) (pe_cst T.c_LONGEST_WALL rfl)))), ?_⟩
    refine ⟨_, rfl, _, _, rfl, rfl, _, rfl, ite2 (fun h1 => ⟨_, _, rfl, rfl, k _ ⟨fun e => ⟨of_decide_eq_true h1, of_decide_eq_true e⟩, fun e => decide_eq_true e.2⟩⟩) (fun h1 => k _ ⟨fun e => (by cases e), fun e => absurd (decide_eq_true e.1) h1⟩)⟩
def spFirst (K : PySem.W.Frag) (CP : Addr) : Sp := fun vs H Q _ => ∃ (p : Addr) (kk : Kh352.Kept) (n : Int), vs = [.ref p, .int n] ∧ PlanAt K CP H p kk ∧ ∀ b : Bool, (b = true ↔ 1 ≤ n ∧ n ≤ (kk.wide : Int)) → Q (.bl b) H
theorem def_is_first_width : Def P w K mg base "is_first_width" 1 ["plan", "first"] (spFirst K CP) := by
  refine T.g_is_first_width.mk_def (N := ["plan", "first"]) sc_is_first_width bi_is_first_width (fun vs H Q E h => ?_) (fun f cdv A outer s H vs Q E hr h => ?_)
  · obtain ⟨p, kk, n, rfl, _⟩ := h
    rfl
  · obtain ⟨p, kk, n, rfl, ⟨dx, d, e, hp, hd, he⟩, k⟩ := h
    refine ⟨_, (pss_one (ps_ret (pe_chain op_le op_le pe_int (pv 1) (pe_fld (pv 0) rfl)))), ?_⟩
    refine ⟨_, rfl, _, _, rfl, rfl, _, rfl, ite2 (fun h1 => ⟨_, rfl, p, CP, dx, _, _, rfl, hp, T.cl_Plan, T.n_wide, rfl, _, _, rfl, rfl, k _ ⟨fun e => ⟨of_decide_eq_true h1, of_decide_eq_true e⟩, fun e => decide_eq_true e.2⟩⟩) (fun h1 => k _ ⟨fun e => (by cases e), fun e => absurd (decide_eq_true e.1) h1⟩)⟩
def spLies : Sp := fun vs H Q _ => ∃ (l h x : Int), vs = [.int l, .int h, .int x] ∧ ∀ b : Bool, (b = true ↔ l < h ∧ h ≤ x) → Q (.bl b) H
theorem def_lies_in_wall : Def P w K mg base "lies_in_wall" 1 ["low", "high", "wall"] spLies := by
  refine T.g_lies_in_wall.mk_def (N := ["low", "high", "wall"]) sc_lies_in_wall bi_lies_in_wall (fun vs H Q E h => ?_) (fun f cdv A outer s H vs Q E hr h => ?_)
  · obtain ⟨n, m, x, rfl, _⟩ := h
    rfl
  · obtain ⟨n, m, x, rfl, k⟩ := h
    refine ⟨_, (pss_one (ps_ret (pe_chain op_lt op_le (pv 0) (pv 1) (pv 2)))), ?_⟩
    refine ⟨_, rfl, _, rfl, _, _, rfl, rfl, _, rfl, ite2 (fun h1 => ⟨_, rfl, _, _, rfl, rfl, k _ ⟨fun e => ⟨of_decide_eq_true h1, of_decide_eq_true e⟩, fun e => decide_eq_true e.2⟩⟩) (fun h1 => k _ ⟨fun e => (by cases e), fun e => absurd (decide_eq_true e.1) h1⟩)⟩

/-! ### openings within a wall -/
def spWithin (K : PySem.W.Frag) : Sp := fun vs H Q _ => ∃ (v : V) (es : List (Nat × Nat)) (x : Int), vs = [v, .int x] ∧ OpsAt K H v es ∧ es.length ≤ 100 ∧ ∀ (b : Bool) (H' : Hp), Same H H' → (b = true ↔ ∀ e ∈ es, (e.2 : Int) ≤ x) → Q (.bl b) H'
theorem def_all_end_within : Def P w K mg base "all_end_within" 1 ["openings", "wall"] (spWithin K) := by
  refine T.g_all_end_within.mk_def (N := ["openings", "wall", "opening"]) sc_all_end_within bi_all_end_within (fun vs H Q E h => ?_) (fun f cdv A outer s H vs Q E hr h => ?_)
  · obtain ⟨v, es, x, rfl, _⟩ := h
    rfl
  · obtain ⟨v, es, x, rfl, ⟨a, vs, rfl, hS, hP⟩, hlen, k⟩ := h
    refine ⟨_, (pss_one (ps_ret (pe_callB (cr_all rfl) rfl T.b_all bt_all (pa_cons (pe_lc rfl sc_all_end_within.nd (pi_tup (pv 0)) (show BlkOk ["openings", "wall", "opening"] (defScope st_all_end_within) _ [("opening", 2)] from blkOk_by (by decide +kernel)) (fun _ _ _ _ _ => pg_name (i := 2) sc_all_end_within.nd rfl (by first | exact Or.inl rfl | exact Or.inr rfl)) (fun _ _ _ _ _ => pts_nil) (fun _ _ _ _ _ => (pe_cmpR op_le (pe_ix (ixT K) (pv 2) pe_int (fun _ _ => rfl)) (pv 1) (nomark _)))) pa_nil)))), ?_⟩
    refine ⟨_, rfl, a, rfl, ⟨_, hS⟩, fun D hD => ?_⟩
    have hle := pr_len hP
    refine lc_tup_fm (K := K) (a := a) (xs := vs) (fun _ => true) (fun i => V.bl (decide (((es.getD i (0, 0)).2 : Int) ≤ x))) hD (small1000 (by omega)) hS (fun i y H' R R' hi s1 h1 h2 => ?_) (fun H' s1 hl => ?_)
    · obtain ⟨e, he, ⟨a', rfl, hq⟩⟩ := pr_get hP hi
      have h3 := h1 rfl H' (fun _ _ z => z)
      rw [List.getD_eq_getElem?_getD, he] at h3
      exact ⟨rfl, iteT (B := R' H') ⟨_, rfl, a', _, _, _, rfl, rfl, Same.tup s1 hq, rfl, _, rfl, _, _, rfl, rfl, h3⟩⟩
    · refine ⟨D, (List.range vs.length).map fun i => decide (((es.getD i (0, 0)).2 : Int) ≤ x), rfl, SqL.of ?_, k _ H' s1 ?_⟩
      · rw [hl, List.map_map, List.filter_eq_self.mpr (fun _ _ => rfl)]
        rfl
      · rw [List.all_map, hle]
        simp only [List.all_eq_true, List.mem_range, Function.comp, id, decide_eq_true_eq]
        exact all_getD es fun e => (e.2 : Int) ≤ x

/-! ### seams -/
def spSeams (K : PySem.W.Frag) (CP : Addr) : Sp := fun vs H Q _ => ∃ (p : Addr) (kk : Kh352.Kept) (o : Nat), vs = [.ref p, nV o] ∧ PlanAt K CP H p kk ∧ Fit kk ∧ o < 4294967296 ∧ ∀ (l : Addr) (H' : Hp), Same H H' → Nums H' l (seams kk.wide kk.across o) → Q (.ref l) H'
theorem def_seams_of : Def P w K mg base "seams_of" 1 ["plan", "first"] (spSeams K CP) := by
  refine T.g_seams_of.mk_def (N := ["plan", "first"]) sc_seams_of bi_seams_of (fun vs H Q E h => ?_) (fun f cdv A outer s H vs Q E hr h => ?_)
  · obtain ⟨p, kk, o, rfl, _⟩ := h
    rfl
  · obtain ⟨p, kk, o, rfl, ⟨dx, d, e, hp, hd, he⟩, hk, ho, k⟩ := h
    refine ⟨_, (pss_one (ps_ret (pe_listRange rfl rfl T.b_list rfl T.b_range (pa_cons (pv 1) (pa_cons (pe_fld (pv 0) rfl) (pa_cons (pe_fld (pv 0) rfl) pa_nil)))))), ?_⟩
    refine ⟨_, rfl, _, rfl, p, CP, dx, _, _, rfl, hp, T.cl_Plan, T.n_across, rfl, _, rfl, p, CP, dx, _, _, rfl, hp, T.cl_Plan, T.n_wide, rfl, _, _, _, _, rfl, rg_seams hk.w1 hk.w2 hk.x2 ho, ?_, fun l hl => ?_⟩
    · exact Nat.le_trans (nSeams_small hk.x2) (by decide)
    · refine k l _ (same_upd hl) ?_
      show upd H l _ l = _
      rw [upd_same, seams_V hk.w1]
def spLast (K : PySem.W.Frag) (CP : Addr) : Sp := fun vs H Q _ => ∃ (p l : Addr) (kk : Kh352.Kept) (o : Nat), vs = [.ref p, .ref l] ∧ PlanAt K CP H p kk ∧ Fit kk ∧ Nums H l (seams kk.wide kk.across o) ∧ Q (nV (last kk.wide kk.across o)) H
theorem def_last_width : Def P w K mg base "last_width" 1 ["plan", "seams"] (spLast K CP) := by
  refine T.g_last_width.mk_def (N := ["plan", "seams"]) sc_last_width bi_last_width (fun vs H Q E h => ?_) (fun f cdv A outer s H vs Q E hr h => ?_)
  · obtain ⟨p, l, kk, o, rfl, _⟩ := h
    rfl
  · obtain ⟨p, l, kk, o, rfl, ⟨dx, d, e, hp, hd, he⟩, hk, hl, k⟩ := h
    refine ⟨_, (pss_cons (ps_if (pt_cmpR op_eq (pe_callB call_len_seq rfl T.b_len bt_len (pa_cons (pv 1) pa_nil)) pe_int (nomark _)) (pss_one (ps_ret (pe_fld (pv 0) rfl))) pss_nil)
      (pss_one (ps_ret (pe_op op_sub (pe_fld (pv 0) rfl) (pe_ix ix_list (pv 1) (pe_un un_neg pe_int) (fun _ _ => rfl)))))), ?_⟩
    have hlen : ((seams kk.wide kk.across o).map nV).length = nSeams kk.wide kk.across o := by rw [List.length_map, seams_len hk.w1]
    refine ⟨_, rfl, l, _, rfl, .inl (SqL.of hl), rfl, _, rfl, ?_⟩
    rw [hlen]
    refine ite2 (fun h1 => ?_) (fun h1 => ?_)
    · have h2 : nSeams kk.wide kk.across o = 0 := by
        have := of_decide_eq_true h1
        injection this with this
        omega
      refine ⟨_, rfl, p, CP, dx, _, _, rfl, hp, T.cl_Plan, T.n_across, rfl, ?_⟩
      unfold last at k
      rw [seams_eq hk.w1, h2] at k
      exact k
    · obtain ⟨m, h2⟩ : ∃ m, nSeams kk.wide kk.across o = m + 1 := by
        refine ⟨nSeams kk.wide kk.across o - 1, ?_⟩
        have : ¬ nSeams kk.wide kk.across o = 0 := fun z => h1 (by rw [z]; rfl)
        omega
      have hm : o + m * kk.wide < kk.across := (lt_nSeams hk.w1).mpr (by omega)
      refine ⟨_, rfl, p, CP, dx, _, _, rfl, hp, T.cl_Plan, T.n_across, rfl, _, rfl, _, rfl, l, _, _, nV (o + m * kk.wide), rfl, rfl, SqL.of hl, ?_, _, _, rfl, rfl, ?_⟩
      · rw [seams_eq hk.w1, h2]
        unfold atI ixN
        simp only [List.length_map, List.length_range]
        rw [if_neg (by decide), if_pos (by omega), show ((-1 : Int) + ((m + 1 : Nat) : Int)).toNat = m by omega]
        simp
      · unfold last at k
        rw [seams_eq hk.w1, h2, getLastD_map_range] at k
        have e2 : ((kk.across : Int) - ((o + m * kk.wide : Nat) : Int)) = ((kk.across - (o + m * kk.wide) : Nat) : Int) := by omega
        show Q (V.int ((kk.across : Int) - ((o + m * kk.wide : Nat) : Int))) H
        rw [e2]
        exact k
def spNarrow (K : PySem.W.Frag) (CP : Addr) : Sp := fun vs H Q _ => ∃ (p l : Addr) (kk : Kh352.Kept) (o : Nat), vs = [.ref p, nV o, .ref l] ∧ PlanAt K CP H p kk ∧ Fit kk ∧ Nums H l (seams kk.wide kk.across o) ∧ Q (nV (narrow kk.wide kk.across o)) H
theorem def_narrowest_width : Def P w K mg base "narrowest_width" 2 ["plan", "first", "seams"] (spNarrow K CP) := by
  refine T.g_narrowest_width.mk_def (N := ["plan", "first", "seams"]) sc_narrowest_width bi_narrowest_width (fun vs H Q E h => ?_) (fun f cdv A outer s H vs Q E hr h => ?_)
  · obtain ⟨p, l, kk, o, rfl, _⟩ := h
    rfl
  · obtain ⟨p, l, kk, o, rfl, hP, hk, hl, k⟩ := h
    obtain ⟨dx, d, e, hp, hd, he⟩ := id hP
    refine ⟨_, (pss_one (ps_ret (pe_callB (call_min3 rfl) rfl T.b_min bt_min (pa_cons (pv 1) (pa_cons (pe_fld (pv 0) rfl) (pa_cons (pe_def (def_last_width T) (hr.mono (by decide)) rfl (pa_cons (pv 0) (pa_cons (pv 2) pa_nil))) pa_nil)))))), ?_⟩
    refine ⟨_, rfl, _, rfl, p, CP, dx, _, _, rfl, hp, T.cl_Plan, T.n_across, rfl, _, rfl, _, rfl, p, l, kk, o, rfl, hP, hk, hl, _, _, _, rfl, ?_⟩
    unfold narrow at k
    have e2 : min (min (o : Int) (kk.across : Int)) ((last kk.wide kk.across o : Nat) : Int) = ((min (min o kk.across) (last kk.wide kk.across o) : Nat) : Int) := by omega
    rw [e2]
    exact k
def spCarpet (K : PySem.W.Frag) (CP : Addr) : Sp := fun vs H Q _ => ∃ (p : Addr) (kk : Kh352.Kept) (n : Nat), vs = [.ref p, nV n] ∧ PlanAt K CP H p kk ∧ Fit kk ∧ Q (nV (n * kk.wide * kk.along)) H
theorem def_carpet_needed : Def P w K mg base "carpet_needed" 1 ["plan", "strips"] (spCarpet K CP) := by
  refine T.g_carpet_needed.mk_def (N := ["plan", "strips"]) sc_carpet_needed bi_carpet_needed (fun vs H Q E h => ?_) (fun f cdv A outer s H vs Q E hr h => ?_)
  · obtain ⟨p, kk, n, rfl, _⟩ := h
    rfl
  · obtain ⟨p, kk, n, rfl, ⟨dx, d, e, hp, hd, he⟩, hk, k⟩ := h
    refine ⟨_, (pss_one (ps_ret (pe_op op_mul (pe_op op_mul (pv 1) (pe_fld (pv 0) rfl)) (pe_fld (pv 0) rfl)))), ?_⟩
    have w2 := hk.w2
    have y2 := hk.y2
    refine ⟨_, rfl, _, rfl, p, CP, dx, _, _, rfl, hp, T.cl_Plan, T.n_wide, rfl, _, _, rfl, rfl, .inr ⟨?_, ?_⟩, _, rfl, p, CP, dx, _, _, rfl, hp, T.cl_Plan, T.n_along, rfl, _, _, rfl, rfl, .inr ⟨?_, ?_⟩, ?_⟩
    · show -(2 ^ 64) < (kk.wide : Int); omega
    · show (kk.wide : Int) < 2 ^ 64; omega
    · show -(2 ^ 64) < (kk.along : Int); omega
    · show (kk.along : Int) < 2 ^ 64; omega
    · have e2 : ((n : Int) * (kk.wide : Int)) * (kk.along : Int) = ((n * kk.wide * kk.along : Nat) : Int) := by rw [Int.natCast_mul, Int.natCast_mul]
      show Q (V.int (((n : Int) * (kk.wide : Int)) * (kk.along : Int))) H
      rw [e2]
      exact k

/-! ### clear -/
def spHit (K : PySem.W.Frag) : Sp := fun vs H Q _ => ∃ (v : V) (e : Nat × Nat) (l : Addr) (ss : List Nat), vs = [v, .ref l] ∧ OpAt K H v e ∧ Nums H l ss ∧ ss.length ≤ 1000 ∧ ∀ (b : Bool) (H' : Hp), Same H H' → (b = true ↔ ∃ s, s ∈ ss ∧ e.1 < s ∧ s < e.2) → Q (.bl b) H'
theorem def_is_hit : Def P w K mg base "is_hit" 1 ["door", "seams"] (spHit K) := by
  refine T.g_is_hit.mk_def (N := ["door", "seams", "seam"]) sc_is_hit bi_is_hit (fun vs H Q E h => ?_) (fun f cdv A outer s H vs Q E hr h => ?_)
  · obtain ⟨v, e, l, ss, rfl, _⟩ := h
    rfl
  · obtain ⟨v, e, l, ss, rfl, ⟨a, rfl, hq⟩, hl, hlen, k⟩ := h
    refine ⟨_, (pss_one (ps_ret (pe_callB (cr_any rfl) rfl T.b_any bt_any (pa_cons (pe_lc rfl sc_is_hit.nd (pi_list (pv 1)) (show BlkOk ["door", "seams", "seam"] (defScope st_is_hit) _ [("seam", 2)] from blkOk_by (by decide +kernel)) (fun _ _ _ _ _ => pg_name (i := 2) sc_is_hit.nd rfl (by first | exact Or.inl rfl | exact Or.inr rfl)) (fun _ _ _ _ _ => pts_nil) (fun _ _ _ _ _ => (pe_chain op_lt op_lt (pe_ix (ixT K) (pv 0) pe_int (fun _ _ => rfl)) (pv 2) (pe_ix (ixT K) (pv 0) pe_int (fun _ _ => rfl))))) pa_nil)))), ?_⟩
    refine ⟨_, rfl, l, rfl, ⟨_, SqL.of hl⟩, fun D hD => ?_⟩
    have hle : (ss.map nV).length = ss.length := List.length_map ..
    refine lc_list_fm (K := K) (a := l) (xs := ss.map nV) (fun _ => true) (fun i => V.bl (decide (e.1 < ss.getD i 0 ∧ ss.getD i 0 < e.2))) hD (small1000 (by omega)) (SqL.of hl) (fun i y H' R R' hi s1 h1 h2 => ?_) (fun H' s1 hl' => ?_)
    · rw [List.getElem?_map] at hi
      obtain ⟨z, hz, rfl⟩ := Option.map_eq_some_iff.mp hi
      have h3 := h1 rfl H' (fun _ _ z => z)
      rw [List.getD_eq_getElem?_getD, hz] at h3
      refine ⟨rfl, iteT (B := R' H') ⟨_, rfl, a, _, _, _, rfl, rfl, Same.tup s1 hq, rfl, _, rfl, _, _, rfl, rfl, _, rfl, ite2 (fun h4 => ⟨_, rfl, a, _, _, _, rfl, rfl, Same.tup s1 hq, rfl, _, _, rfl, rfl, ?_⟩) (fun h4 => ?_)⟩⟩
      · have h5 := of_decide_eq_true h4
        show R (V.bl (decide (((z : Nat) : Int) < ((e.2 : Nat) : Int)))) H'
        rw [show decide (((z : Nat) : Int) < ((e.2 : Nat) : Int)) = decide (e.1 < z ∧ z < e.2) from decide_eq_decide.mpr ⟨fun q => ⟨by omega, by omega⟩, fun q => by omega⟩]
        exact h3
      · rw [show decide (e.1 < (some z).getD 0 ∧ (some z).getD 0 < e.2) = false from decide_eq_false fun q => h4 (decide_eq_true (by have := q.1; simp only [Option.getD_some] at this; omega))] at h3
        exact h3
    · refine ⟨D, (List.range (ss.map nV).length).map fun i => decide (e.1 < ss.getD i 0 ∧ ss.getD i 0 < e.2), rfl, SqL.of ?_, k _ H' s1 ?_⟩
      · rw [hl', List.map_map, List.filter_eq_self.mpr (fun _ _ => rfl)]
        rfl
      · rw [List.any_map, hle]
        simp only [List.any_eq_true, List.mem_range, Function.comp, id, decide_eq_true_eq]
        exact any_getD ss fun s => e.1 < s ∧ s < e.2
def spClear (K : PySem.W.Frag) (CP : Addr) : Sp := fun vs H Q _ => ∃ (p : Addr) (kk : Kh352.Kept) (o : Nat), vs = [.ref p, nV o] ∧ PlanAt K CP H p kk ∧ Fit kk ∧ o < 4294967296 ∧ ∀ H' : Hp, Same H H' → Q (.bl (clear kk.doors kk.wide kk.across o)) H'
def spHits (K : PySem.W.Frag) (CP : Addr) : Sp := fun vs H Q _ => ∃ (p : Addr) (kk : Kh352.Kept) (o : Nat), vs = [.ref p, nV o] ∧ PlanAt K CP H p kk ∧ Fit kk ∧ o < 4294967296 ∧ ∀ (l : Addr) (H' : Hp), Same H H' → Nums H' l (hitsK kk o) → Q (.ref l) H'
theorem def_hit_doors : Def P w K mg base "hit_doors" 2 ["plan", "first"] (spHits K CP) := by
  refine T.g_hit_doors.mk_def (N := ["plan", "first", "seams", "i", "door"]) sc_hit_doors bi_hit_doors (fun vs H Q E h => ?_) (fun f cdv A outer s H vs Q E hr h => ?_)
  · obtain ⟨p, kk, o, rfl, _⟩ := h
    rfl
  · obtain ⟨p, kk, o, rfl, hP, hk, ho, k⟩ := h
    refine ⟨_, (pss_cons (ps_set (i := 2) sc_hit_doors.nd rfl (by first | exact Or.inl rfl | exact Or.inr rfl) (pe_def (def_seams_of T) (hr.mono (by decide)) rfl (pa_cons (pv 0) (pa_cons (pv 1) pa_nil))))
      (pss_one (ps_ret (pe_lc rfl sc_hit_doors.nd (pi_enumT rfl T.b_enumerate (pa_cons (pe_fld (pv 0) rfl) pa_nil)) (show BlkOk ["plan", "first", "seams", "i", "door"] (defScope st_hit_doors) _ [("i", 3), ("door", 4)] from blkOk_by (by decide +kernel)) (fun _ _ _ _ _ => pg_tupK K (n := 2) rfl (pgs_cons (pg_name (i := 3) sc_hit_doors.nd rfl (by first | exact Or.inl rfl | exact Or.inr rfl)) (pgs_cons (pg_name (i := 4) sc_hit_doors.nd rfl (by first | exact Or.inl rfl | exact Or.inr rfl)) pgs_nil))) (fun _ _ _ _ _ => (pts_one (pt_val (pe_def (def_is_hit T) (hr.mono (by decide)) rfl (pa_cons (pv 4) (pa_cons (pv 2) pa_nil)))))) (fun _ _ _ _ _ => (pv 3)))))), ?_⟩
    refine ⟨_, rfl, _, rfl, p, kk, o, rfl, hP, hk, ho, fun l H1 s1 hl => ?_⟩
    obtain ⟨dx, d, e, hp, ⟨a, vs, rfl, hS, hPr⟩, he⟩ := hP.same s1
    have hle : vs.length = kk.doors.length := pr_len hPr
    have hd5 := hk.d
    have hsl : (seams kk.wide kk.across o).length ≤ 1000 := by
      rw [seams_len hk.w1]
      exact Nat.le_trans (nSeams_small hk.x2) (by decide)
    refine ⟨_, rfl, p, CP, dx, _, _, rfl, hp, T.cl_Plan, T.n_doors, rfl, a, _, rfl, hS, fun D hD => ?_⟩
    refine lc_enumT_fm (K := K) (a := a) (xs := vs) (fun i => !clear ((kk.doors[i]?).toList) kk.wide kk.across o) (fun i => nV i) hD (small1000 (by omega)) hS (fun i y T' H' R R' hi s2 hT h1 h2 => ?_) (fun H' s2 hl' => ?_)
    · obtain ⟨z, hz, hO⟩ := pr_get hPr hi
      refine ⟨T', _, rfl, hT, rfl, _, _, rfl, _, _, rfl, rfl, rfl, _, rfl, _, rfl, y, z, l, _, rfl, OpAt.same s2 hO, s2 _ _ hl, hsl, fun b H3 s3 hb => ⟨b, rfl, ?_⟩⟩
      cases b with
      | true => exact iteT (B := R' H3) ⟨_, rfl, h1 ((hit_at hz).mpr (hb.mp rfl)) H3 s3⟩
      | false =>
        refine iteF (h2 ?_ H3 s3)
        cases q : !clear ((kk.doors[i]?).toList) kk.wide kk.across o with
        | false => rfl
        | true => exact absurd (hb.mpr ((hit_at hz).mp q)) Bool.false_ne_true
    · refine k D H' (s1.trans s2) ?_
      show H' D = _
      rw [hl', hle]
      rfl
theorem def_is_clear : Def P w K mg base "is_clear" 3 ["plan", "first"] (spClear K CP) := by
  refine T.g_is_clear.mk_def (N := ["plan", "first"]) sc_is_clear bi_is_clear (fun vs H Q E h => ?_) (fun f cdv A outer s H vs Q E hr h => ?_)
  · obtain ⟨p, kk, o, rfl, _⟩ := h
    rfl
  · obtain ⟨p, kk, o, rfl, hP, hk, ho, k⟩ := h
    refine ⟨_, (pss_one (ps_ret (pe_cmpR op_eq (pe_callB call_len_seq rfl T.b_len bt_len (pa_cons (pe_def (def_hit_doors T) (hr.mono (by decide)) rfl (pa_cons (pv 0) (pa_cons (pv 1) pa_nil))) pa_nil)) pe_int (nomark _)))), ?_⟩
    refine ⟨_, rfl, _, rfl, p, kk, o, rfl, hP, hk, ho, fun l H1 s1 hl => ?_⟩
    refine ⟨l, _, rfl, .inl (SqL.of hl), rfl, ?_⟩
    have e : decide (V.int ((((hitsK kk o).map nV).length : Nat) : Int) = V.int 0) = clear kk.doors kk.wide kk.across o := by
      rw [List.length_map]
      cases q : clear kk.doors kk.wide kk.across o with
      | true => rw [hits_nil.mpr q]; rfl
      | false =>
        refine decide_eq_false fun z => ?_
        injection z with z
        rw [hits_nil.mp (by omega)] at q
        cases q
    rw [e]
    exact k H1 s1
end
end Sd

set_option Elab.async false
set_option linter.all false
set_option maxRecDepth 100000
set_option maxHeartbeats 2000000
/-! PLANS MADE; THE WORKS. -/
namespace Sd
open PySem PySem.Spec PyProof.Rows L2 Kh352
section
variable {P : Program} {w : World} {K : PySem.W.Frag} {mg : Str → Option Value} {base : Heap} {CP CW : Addr} (T : Txt K mg base CP CW)
theorem But.free {W p : Addr} {H H' : Hp} {o : HO} (b : But W H H') (hW : H' W = some o) (h : H' p = none) : H p = none := by
  cases q : H p with
  | none => rfl
  | some u =>
    by_cases e : p = W
    · subst e
      rw [h] at hW
      cases hW
    · rw [b p u q e] at h
      cases h
include T

/-! ### plans made -/
def spPInit (CP : Addr) : Sp := fun vs H Q _ => ∃ (p dx : Addr) (kk : Kh352.Kept) (d s : V), vs = [.ref p, nV kk.wide, nV kk.across, nV kk.along, d, s] ∧ H p = some (.ins CP dx []) ∧
  ∀ H' : Hp, H' p = some (.ins CP dx (planF kk d s)) → (∀ b o, H b = some o → b ≠ p → H' b = some o) → Q .non H'
theorem def_Plan_init : MethD P w K mg base CP "__init__" 1 ["self", "wide", "across", "along", "doors", "sides"] (spPInit CP) := by
  refine T.m_Plan_init.mk_meth (N := ["self", "wide", "across", "along", "doors", "sides"]) sc_Plan_init bi_Plan_init (fun vs H Q E h => ?_) (fun f cdv A outer s H vs Q E hr h => ?_)
  · obtain ⟨p, dx, kk, d, e, rfl, _⟩ := h
    rfl
  · obtain ⟨p, dx, kk, d, e, rfl, hp, k⟩ := h
    refine ⟨_, (pss_cons (ps_fld (pv 0) (pv 1) rfl)
      (pss_cons (ps_fld (pv 0) (pv 2) rfl)
      (pss_cons (ps_fld (pv 0) (pv 3) rfl)
      (pss_cons (ps_fld (pv 0) (pv 4) rfl)
      (pss_one (ps_fld (pv 0) (pv 5) rfl)))))), ?_⟩
    refine ⟨_, rfl, _, rfl, p, CP, dx, _, rfl, hp, T.cl_Plan, T.n_wide, (sz1000 rfl), ?_⟩
    refine ⟨_, rfl, _, rfl, p, CP, dx, _, rfl, upd_same, T.cl_Plan, T.n_across, (sz1000 rfl), ?_⟩
    refine ⟨_, rfl, _, rfl, p, CP, dx, _, rfl, upd_same, T.cl_Plan, T.n_along, (sz1000 rfl), ?_⟩
    refine ⟨_, rfl, _, rfl, p, CP, dx, _, rfl, upd_same, T.cl_Plan, T.n_doors, (sz1000 rfl), ?_⟩
    refine ⟨_, rfl, _, rfl, p, CP, dx, _, rfl, upd_same, T.cl_Plan, T.n_sides, (sz1000 rfl), ?_⟩
    exact k _ upd_same fun b o e hb => by rw [upd_ne hb, upd_ne hb, upd_ne hb, upd_ne hb, upd_ne hb]; exact e
theorem mk_Plan : MakeD P w K mg base "Plan" CP 1 ["self", "wide", "across", "along", "doors", "sides"] (spPInit CP) := (def_Plan_init T).make T.mk_Plan T.kp_Plan T.mg_Plan
omit T in
theorem make_plan {H : Hp} {kk : Kh352.Kept} {d s : V} {Q : VK} (hd : OpsAt K H d kk.doors) (hs : OpsAt K H s kk.sides) (k : ∀ (x : Addr) (H' : Hp), Same H H' → H x = none → PlanAt K CP H' x kk → Q (.ref x) H') :
    ∀ x dx, H x = none → H dx = none → dx ≠ x → spPInit CP [.ref x, nV kk.wide, nV kk.across, nV kk.along, d, s] (upd (upd H dx (.own x)) x (.ins CP dx [])) (fun v H2 => v = .non ∧ Q (.ref x) H2) E0 :=
  fun x dx nx nd _ => ⟨x, dx, kk, d, s, rfl, upd_same, fun H' h1 h2 => ⟨rfl, k x H' (Same.made nx nd h2) nx ⟨dx, d, s, h1, hd.same (Same.made nx nd h2), hs.same (Same.made nx nd h2)⟩⟩⟩
def spWith (K : PySem.W.Frag) (CP : Addr) (args : List V → Hp → Kh352.Kept → Kh352.Kept → Prop) : Sp := fun vs H Q _ => ∃ (p : Addr) (ws : List V) (kk k2 : Kh352.Kept), vs = .ref p :: ws ∧ PlanAt K CP H p kk ∧ args ws H kk k2 ∧ ∀ (x : Addr) (H' : Hp), Same H H' → H x = none → PlanAt K CP H' x k2 → Q (.ref x) H'
def aWide : List V → Hp → Kh352.Kept → Kh352.Kept → Prop := fun ws _ k k2 => ∃ n : Nat, ws = [nV n] ∧ k2 = ⟨n, k.across, k.along, k.doors, k.sides⟩
def aRoom : List V → Hp → Kh352.Kept → Kh352.Kept → Prop := fun ws _ k k2 => ∃ x y : Nat, ws = [nV x, nV y] ∧ k2 = ⟨k.wide, x, y, k.doors, k.sides⟩
def aDoors (K : PySem.W.Frag) : List V → Hp → Kh352.Kept → Kh352.Kept → Prop := fun ws H k k2 => ∃ (v : V) (es : List (Nat × Nat)), ws = [v] ∧ OpsAt K H v es ∧ k2 = ⟨k.wide, k.across, k.along, es, k.sides⟩
def aSides (K : PySem.W.Frag) : List V → Hp → Kh352.Kept → Kh352.Kept → Prop := fun ws H k k2 => ∃ (v : V) (es : List (Nat × Nat)), ws = [v] ∧ OpsAt K H v es ∧ k2 = ⟨k.wide, k.across, k.along, k.doors, es⟩
theorem def_Plan_with_wide : MethD P w K mg base CP "with_wide" 3 ["self", "wide"] (spWith K CP aWide) := by
  refine T.m_Plan_with_wide.mk_meth (N := ["self", "wide"]) sc_Plan_with_wide bi_Plan_with_wide (fun vs H Q E h => ?_) (fun f cdv A outer s H vs Q E hr h => ?_)
  · obtain ⟨p, ws, kk, k2, rfl, _, ⟨n, rfl, _⟩, _⟩ := h
    rfl
  · obtain ⟨p, ws, kk, k2, rfl, ⟨dx, d, e, hp, hd, he⟩, ⟨n, rfl, rfl⟩, k⟩ := h
    refine ⟨_, (pss_one (ps_ret (pe_mk (mk_Plan T) (hr.mono (by decide)) rfl (pa_cons (pv 1) (pa_cons (pe_fld (pv 0) rfl) (pa_cons (pe_fld (pv 0) rfl) (pa_cons (pe_fld (pv 0) rfl) (pa_cons (pe_fld (pv 0) rfl) pa_nil)))))))), ?_⟩
    refine ⟨_, rfl, _, rfl, p, CP, dx, _, _, rfl, hp, T.cl_Plan, T.n_across, rfl, _, rfl, p, CP, dx, _, _, rfl, hp, T.cl_Plan, T.n_along, rfl, _, rfl, p, CP, dx, _, _, rfl, hp, T.cl_Plan, T.n_doors, rfl, _, rfl, p, CP, dx, _, _, rfl, hp, T.cl_Plan, T.n_sides, rfl, ?_⟩
    exact make_plan (kk := ⟨n, kk.across, kk.along, kk.doors, kk.sides⟩) hd he k
theorem def_Plan_with_room : MethD P w K mg base CP "with_room" 3 ["self", "across", "along"] (spWith K CP aRoom) := by
  refine T.m_Plan_with_room.mk_meth (N := ["self", "across", "along"]) sc_Plan_with_room bi_Plan_with_room (fun vs H Q E h => ?_) (fun f cdv A outer s H vs Q E hr h => ?_)
  · obtain ⟨p, ws, kk, k2, rfl, _, ⟨n, m, rfl, _⟩, _⟩ := h
    rfl
  · obtain ⟨p, ws, kk, k2, rfl, ⟨dx, d, e, hp, hd, he⟩, ⟨x, y, rfl, rfl⟩, k⟩ := h
    refine ⟨_, (pss_one (ps_ret (pe_mk (mk_Plan T) (hr.mono (by decide)) rfl (pa_cons (pe_fld (pv 0) rfl) (pa_cons (pv 1) (pa_cons (pv 2) (pa_cons (pe_fld (pv 0) rfl) (pa_cons (pe_fld (pv 0) rfl) pa_nil)))))))), ?_⟩
    refine ⟨_, rfl, p, CP, dx, _, _, rfl, hp, T.cl_Plan, T.n_wide, rfl, _, rfl, _, rfl, _, rfl, p, CP, dx, _, _, rfl, hp, T.cl_Plan, T.n_doors, rfl, _, rfl, p, CP, dx, _, _, rfl, hp, T.cl_Plan, T.n_sides, rfl, ?_⟩
    exact make_plan (kk := ⟨kk.wide, x, y, kk.doors, kk.sides⟩) hd he k
theorem def_Plan_with_doors : MethD P w K mg base CP "with_doors" 3 ["self", "doors"] (spWith K CP (aDoors K)) := by
  refine T.m_Plan_with_doors.mk_meth (N := ["self", "doors"]) sc_Plan_with_doors bi_Plan_with_doors (fun vs H Q E h => ?_) (fun f cdv A outer s H vs Q E hr h => ?_)
  · obtain ⟨p, ws, kk, k2, rfl, _, ⟨v, es, rfl, _⟩, _⟩ := h
    rfl
  · obtain ⟨p, ws, kk, k2, rfl, ⟨dx, d, e, hp, hd, he⟩, ⟨v, es, rfl, hv, rfl⟩, k⟩ := h
    refine ⟨_, (pss_one (ps_ret (pe_mk (mk_Plan T) (hr.mono (by decide)) rfl (pa_cons (pe_fld (pv 0) rfl) (pa_cons (pe_fld (pv 0) rfl) (pa_cons (pe_fld (pv 0) rfl) (pa_cons (pv 1) (pa_cons (pe_fld (pv 0) rfl) pa_nil)))))))), ?_⟩
    refine ⟨_, rfl, p, CP, dx, _, _, rfl, hp, T.cl_Plan, T.n_wide, rfl, _, rfl, p, CP, dx, _, _, rfl, hp, T.cl_Plan, T.n_across, rfl, _, rfl, p, CP, dx, _, _, rfl, hp, T.cl_Plan, T.n_along, rfl, _, rfl, _, rfl, p, CP, dx, _, _, rfl, hp, T.cl_Plan, T.n_sides, rfl, ?_⟩
    exact make_plan (kk := ⟨kk.wide, kk.across, kk.along, es, kk.sides⟩) hv he k
theorem def_Plan_with_sides : MethD P w K mg base CP "with_sides" 3 ["self", "sides"] (spWith K CP (aSides K)) := by
  refine T.m_Plan_with_sides.mk_meth (N := ["self", "sides"]) sc_Plan_with_sides bi_Plan_with_sides (fun vs H Q E h => ?_) (fun f cdv A outer s H vs Q E hr h => ?_)
  · obtain ⟨p, ws, kk, k2, rfl, _, ⟨v, es, rfl, _⟩, _⟩ := h
    rfl
  · obtain ⟨p, ws, kk, k2, rfl, ⟨dx, d, e, hp, hd, he⟩, ⟨v, es, rfl, hv, rfl⟩, k⟩ := h
    refine ⟨_, (pss_one (ps_ret (pe_mk (mk_Plan T) (hr.mono (by decide)) rfl (pa_cons (pe_fld (pv 0) rfl) (pa_cons (pe_fld (pv 0) rfl) (pa_cons (pe_fld (pv 0) rfl) (pa_cons (pe_fld (pv 0) rfl) (pa_cons (pv 1) pa_nil)))))))), ?_⟩
    refine ⟨_, rfl, p, CP, dx, _, _, rfl, hp, T.cl_Plan, T.n_wide, rfl, _, rfl, p, CP, dx, _, _, rfl, hp, T.cl_Plan, T.n_across, rfl, _, rfl, p, CP, dx, _, _, rfl, hp, T.cl_Plan, T.n_along, rfl, _, rfl, p, CP, dx, _, _, rfl, hp, T.cl_Plan, T.n_doors, rfl, _, rfl, ?_⟩
    exact make_plan (kk := ⟨kk.wide, kk.across, kk.along, kk.doors, es⟩) hd hv k

def aTurn : List V → Hp → Kh352.Kept → Kh352.Kept → Prop := fun ws _ k k2 => ws = [] ∧ k2 = ⟨k.wide, k.along, k.across, k.sides, k.doors⟩
theorem def_Plan_turned : MethD P w K mg base CP "turned" 3 ["self"] (spWith K CP aTurn) := by
  refine T.m_Plan_turned.mk_meth (N := ["self"]) sc_Plan_turned bi_Plan_turned (fun vs H Q E h => ?_) (fun f cdv A outer s H vs Q E hr h => ?_)
  · obtain ⟨p, ws, kk, k2, rfl, _, ⟨rfl, _⟩, _⟩ := h
    rfl
  · obtain ⟨p, ws, kk, k2, rfl, ⟨dx, d, e, hp, hd, he⟩, ⟨rfl, rfl⟩, k⟩ := h
    refine ⟨_, (pss_one (ps_ret (pe_mk (mk_Plan T) (hr.mono (by decide)) rfl (pa_cons (pe_fld (pv 0) rfl) (pa_cons (pe_fld (pv 0) rfl) (pa_cons (pe_fld (pv 0) rfl) (pa_cons (pe_fld (pv 0) rfl) (pa_cons (pe_fld (pv 0) rfl) pa_nil)))))))), ?_⟩
    refine ⟨_, rfl, p, CP, dx, _, _, rfl, hp, T.cl_Plan, T.n_wide, rfl, _, rfl, p, CP, dx, _, _, rfl, hp, T.cl_Plan, T.n_along, rfl, _, rfl, p, CP, dx, _, _, rfl, hp, T.cl_Plan, T.n_across, rfl, _, rfl, p, CP, dx, _, _, rfl, hp, T.cl_Plan, T.n_sides, rfl, _, rfl, p, CP, dx, _, _, rfl, hp, T.cl_Plan, T.n_doors, rfl, ?_⟩
    exact make_plan (kk := ⟨kk.wide, kk.along, kk.across, kk.sides, kk.doors⟩) he hd k

/-! ### the works -/
def spWInit (K : PySem.W.Frag) (CP CW : Addr) : Sp := fun vs H Q _ => ∃ (p dx : Addr), vs = [.ref p] ∧ H p = some (.ins CW dx []) ∧ ∀ H' : Hp, WorksAt K CP CW H' p none → (∀ b o, H b = some o → b ≠ p → H' b = some o) → Q .non H'
theorem def_Works_init : MethD P w K mg base CW "__init__" 1 ["self"] (spWInit K CP CW) := by
  refine T.m_Works_init.mk_meth (N := ["self"]) sc_Works_init bi_Works_init (fun vs H Q E h => ?_) (fun f cdv A outer s H vs Q E hr h => ?_)
  · obtain ⟨p, dx, rfl, _⟩ := h
    rfl
  · obtain ⟨p, dx, rfl, hp, k⟩ := h
    refine ⟨_, (pss_cons (ps_fld (pv 0) pe_non rfl)
      (pss_one (ps_fld (pv 0) (pe_lst pa_nil) rfl))), ?_⟩
    refine ⟨_, rfl, p, CW, dx, _, rfl, hp, T.cl_Works, T.n_plan, (sz1000 rfl), ?_⟩
    refine ⟨(szl rfl), fun l hl => ?_⟩
    have npl : p ≠ l := ne_of_none upd_same hl
    refine ⟨_, rfl, p, CW, dx, _, rfl, (upd_ne npl).trans upd_same, T.cl_Works, T.n_earlier, (sz1000 rfl), ?_⟩
    refine k _ ⟨dx, l, upd_same, (upd_ne npl.symm).trans upd_same⟩ fun b o e hb => ?_
    have e1 : upd H p (.ins CW dx (putF "plan" .non [])) b = some o := by rw [upd_ne hb]; exact e
    rw [upd_ne hb, upd_ne (ne_of_none e1 hl)]
    exact e1
theorem mk_Works : MakeD P w K mg base "Works" CW 1 ["self"] (spWInit K CP CW) := (def_Works_init T).make T.mk_Works T.kp_Works T.mg_Works
def spBegin (K : PySem.W.Frag) (CP CW : Addr) : Sp := fun vs H Q _ => ∃ (W p : Addr) (s : Option Abs) (kk : Kh352.Kept), vs = [.ref W, .ref p] ∧ WorksAt K CP CW H W s ∧ PlanAt K CP H p kk ∧ ∀ H' : Hp, But W H H' → WorksAt K CP CW H' W (some (absOf kk [])) → Q .non H'
omit T in
theorem WorksAt.ins {H : Hp} {W : Addr} {s : Option Abs} (h : WorksAt K CP CW H W s) : ∃ dx pv l vs, H W = some (.ins CW dx (worksF pv (.ref l))) ∧ H l = some (.lst vs) := by
  cases s with
  | none =>
    obtain ⟨dx, l, h1, h2⟩ := h
    exact ⟨dx, _, l, _, h1, h2⟩
  | some a =>
    obtain ⟨dx, p, l, vs, h1, _, h3, _⟩ := h
    exact ⟨dx, _, l, vs, h1, h3⟩
theorem def_Works_begin_with : MethD P w K mg base CW "begin_with" 1 ["self", "plan"] (spBegin K CP CW) := by
  refine T.m_Works_begin_with.mk_meth (N := ["self", "plan"]) sc_Works_begin_with bi_Works_begin_with (fun vs H Q E h => ?_) (fun f cdv A outer s H vs Q E hr h => ?_)
  · obtain ⟨W, p, st, kk, rfl, _⟩ := h
    rfl
  · obtain ⟨W, p, st, kk, rfl, hW, hP, k⟩ := h
    obtain ⟨dx, pv0, l, vs, h1, h2⟩ := hW.ins
    refine ⟨_, (pss_cons (ps_fld (pv 0) (pv 1) rfl)
      (pss_one (ps_fld (pv 0) (pe_lst pa_nil) rfl))), ?_⟩
    refine ⟨_, rfl, _, rfl, W, CW, dx, _, rfl, h1, T.cl_Works, T.n_plan, (sz1000 rfl), ?_⟩
    refine ⟨(szl rfl), fun q hq => ?_⟩
    have nWq : W ≠ q := ne_of_none upd_same hq
    refine ⟨_, rfl, W, CW, dx, _, rfl, (upd_ne nWq).trans upd_same, T.cl_Works, T.n_earlier, (sz1000 rfl), ?_⟩
    have b : But W H (upd (upd (upd H W (.ins CW dx (putF "plan" (.ref p) (worksF pv0 (.ref l))))) q (.lst [])) W (.ins CW dx (putF "earlier" (.ref q) (putF "plan" (.ref p) (worksF pv0 (.ref l)))))) := fun b o e hb => by
      have e1 : upd H W (.ins CW dx (putF "plan" (.ref p) (worksF pv0 (.ref l)))) b = some o := by rw [upd_ne hb]; exact e
      rw [upd_ne hb, upd_ne (ne_of_none e1 hq)]
      exact e1
    exact k _ b ⟨dx, p, q, [], upd_same, hP.but h1 b, (upd_ne nWq.symm).trans upd_same, .nil⟩
def spChange (K : PySem.W.Frag) (CP CW : Addr) : Sp := fun vs H Q _ => ∃ (W p : Addr) (a : Abs) (kk : Kh352.Kept), vs = [.ref W, .ref p] ∧ WorksAt K CP CW H W (some a) ∧ a.undo.length ≤ 10 ∧ PlanAt K CP H p kk ∧ ∀ H' : Hp, But W H H' → WorksAt K CP CW H' W (some (absOf kk (grown a))) → Q .non H'
theorem def_Works_change_to : MethD P w K mg base CW "change_to" 1 ["self", "plan"] (spChange K CP CW) := by
  refine T.m_Works_change_to.mk_meth (N := ["self", "plan", "kept"]) sc_Works_change_to bi_Works_change_to (fun vs H Q E h => ?_) (fun f cdv A outer s H vs Q E hr h => ?_)
  · obtain ⟨W, p, a, kk, rfl, _⟩ := h
    rfl
  · obtain ⟨W, p, a, kk, rfl, ⟨dx, p0, l, vs, h1, h2, h3, h4⟩, hu, hP, k⟩ := h
    have hlen := pr_len h4
    rw [List.length_reverse] at hlen
    refine ⟨_, (pss_cons (ps_set (i := 2) sc_Works_change_to.nd rfl (by first | exact Or.inl rfl | exact Or.inr rfl) (pe_op op_cat (pe_fld (pv 0) rfl) (pe_lst (pa_cons (pe_fld (pv 0) rfl) pa_nil))))
      (pss_cons (ps_fld (pv 0) (pe_slice sl_list (pv 2) (po_some (pe_un un_neg (pe_cst T.c_CHANGES_KEPT rfl))) po_none) rfl)
      (pss_one (ps_fld (pv 0) (pv 1) rfl)))), ?_⟩
    refine ⟨_, rfl, W, CW, dx, _, _, rfl, h1, T.cl_Works, T.n_earlier, rfl, _, rfl, W, CW, dx, _, _, rfl, h1, T.cl_Works, T.n_plan, rfl, (szl rfl), fun q hq => ?_⟩
    have s1 : Same H (upd H q (.lst [.ref p0])) := same_upd hq
    refine ⟨l, q, vs, [.ref p0], rfl, rfl, s1 _ _ h3, upd_same, small1000 (by simp; omega) |> Nat.le_of_lt, fun r hr' => ?_⟩
    have s2 := Same.upd (o := .lst (vs ++ [.ref p0])) s1 hr'
    refine ⟨_, rfl, _, rfl, _, rfl, r, _, rfl, SqL.of upd_same, fun t ht => ?_⟩
    have s3 := Same.upd (o := .lst (cutV (vs ++ [.ref p0]) (some (-10)) none)) s2 ht
    refine ⟨_, rfl, W, CW, dx, _, rfl, s3 _ _ h1, T.cl_Works, T.n_earlier, (sz1000 rfl), ?_⟩
    refine ⟨_, rfl, _, rfl, W, CW, dx, _, rfl, upd_same, T.cl_Works, T.n_plan, (sz1000 rfl), ?_⟩
    have nWt : t ≠ W := (ne_of_none (s2 _ _ h1) ht).symm
    refine k _ (fun b o e hb => by rw [upd_ne hb, upd_ne hb]; exact s3 b o e) ?_
    have b : But W H (upd (upd (upd (upd (upd H q (.lst [.ref p0])) r (.lst (vs ++ [.ref p0]))) t (.lst (cutV (vs ++ [.ref p0]) (some (-10)) none))) W (.ins CW dx (putF "earlier" (.ref t) (worksF (.ref p0) (.ref l))))) W (.ins CW dx (putF "plan" (.ref p) (putF "earlier" (.ref t) (worksF (.ref p0) (.ref l)))))) :=
      fun b o e hb => by rw [upd_ne hb, upd_ne hb]; exact s3 b o e
    have h5 : PlansAt K CP H (vs ++ [.ref p0]) (a.undo.reverse ++ [cur a]) := pr_app h4 (.cons ⟨p0, rfl, h2⟩ .nil)
    have h6 := pr_drop ((vs ++ [V.ref p0]).length - 10) (h5.but h1 b)
    have e1 : (a.undo.reverse ++ [cur a]).drop ((vs ++ [V.ref p0]).length - 10) = ((cur a :: a.undo).take 10).reverse := by
      rw [← last_ten, show (vs ++ [V.ref p0]).length = (a.undo.reverse ++ [cur a]).length by simp [hlen]]
    rw [e1] at h6
    exact ⟨dx, p, t, _, upd_same, hP.but h1 b, by rw [upd_ne nWt, upd_ne nWt, upd_same]; exact congrArg (fun z => some (HO.lst z)) (cut_last (k := 10) (by decide)), h6⟩
def spBack (K : PySem.W.Frag) (CP CW : Addr) : Sp := fun vs H Q _ => ∃ (W : Addr) (a : Abs) (kk : Kh352.Kept) (u : List Kh352.Kept), vs = [.ref W] ∧ WorksAt K CP CW H W (some a) ∧ a.undo = kk :: u ∧ u.length ≤ 10 ∧ ∀ H' : Hp, But W H H' → WorksAt K CP CW H' W (some (absOf kk u)) → Q .non H'
theorem def_Works_take_back : MethD P w K mg base CW "take_back" 1 ["self"] (spBack K CP CW) := by
  refine T.m_Works_take_back.mk_meth (N := ["self"]) sc_Works_take_back bi_Works_take_back (fun vs H Q E h => ?_) (fun f cdv A outer s H vs Q E hr h => ?_)
  · obtain ⟨W, a, kk, u, rfl, _⟩ := h
    rfl
  · obtain ⟨W, a, kk, u, rfl, ⟨dx, p0, l, vs, h1, h2, h3, h4⟩, ea, hu, k⟩ := h
    rw [ea, List.reverse_cons] at h4
    obtain ⟨us, x, rfl, h5, p1, rfl, h6⟩ := pr_last h4
    have hlen := pr_len h5
    rw [List.length_reverse] at hlen
    refine ⟨_, (pss_cons (ps_fld (pv 0) (pe_ix ix_list (pe_fld (pv 0) rfl) (pe_un un_neg pe_int) (fun _ _ => rfl)) rfl)
      (pss_one (ps_fld (pv 0) (pe_slice sl_list (pe_fld (pv 0) rfl) po_none (po_some (pe_un un_neg pe_int))) rfl))), ?_⟩
    refine ⟨_, rfl, W, CW, dx, _, _, rfl, h1, T.cl_Works, T.n_earlier, rfl, _, rfl, l, _, _, V.ref p1, rfl, rfl, SqL.of h3, ?_, _, rfl, W, CW, dx, _, rfl, h1, T.cl_Works, T.n_plan, (sz1000 rfl), ?_⟩
    · unfold atI ixN
      rw [if_neg (by decide), if_pos (by simp; omega)]
      show (us ++ [V.ref p1])[((-1 : Int) + ((us ++ [V.ref p1]).length : Int)).toNat]? = _
      rw [show ((-1 : Int) + ((us ++ [V.ref p1]).length : Int)).toNat = us.length by rw [List.length_append, List.length_singleton]; omega]
      simp
    · have nlW : l ≠ W := ne_of h3 h1 (by intro z; cases z)
      refine ⟨_, rfl, W, CW, dx, _, _, rfl, upd_same, T.cl_Works, T.n_earlier, rfl, _, rfl, _, rfl, l, _, rfl, SqL.of ((upd_ne nlW).trans h3), fun t ht => ?_⟩
      have nWt : t ≠ W := (ne_of_none upd_same ht).symm
      refine ⟨_, rfl, W, CW, dx, _, rfl, (upd_ne nWt.symm).trans upd_same, T.cl_Works, T.n_earlier, (sz1000 rfl), ?_⟩
      have b : But W H (upd (upd (upd H W (.ins CW dx (putF "plan" (.ref p1) (worksF (.ref p0) (.ref l))))) t (.lst (cutV (us ++ [V.ref p1]) none (some (-1))))) W (.ins CW dx (putF "earlier" (.ref t) (putF "plan" (.ref p1) (worksF (.ref p0) (.ref l)))))) := fun b o e hb => by
        have e1 : upd H W (.ins CW dx (putF "plan" (.ref p1) (worksF (.ref p0) (.ref l)))) b = some o := by rw [upd_ne hb]; exact e
        rw [upd_ne hb, upd_ne (ne_of_none e1 ht)]
        exact e1
      have e2 : cutV (us ++ [V.ref p1]) none (some (-1)) = us := cut_but_last
      refine k _ b ⟨dx, p1, t, us, upd_same, h6.but h1 b, ?_, PlansAt.but h1 b h5⟩
      rw [upd_ne nWt, upd_same, e2]
end
end Sd

set_option Elab.async false
set_option linter.all false
set_option maxRecDepth 100000
set_option maxHeartbeats 2000000
/-! THE CHOICES: one theorem a def. -/
namespace Sd
open PySem PySem.Spec PyProof.Rows L2 Kh352
/-! ### min and max of numbers -/
theorem nats_min {K : PySem.W.Frag} {H : Hp} {l : Addr} {ns : List Nat} {dv : V} {Q : VK} (hl : Nums H l ns) (h0 : ns = [] → Q dv H) (h1 : ∀ m ∈ ns, (∀ z ∈ ns, m ≤ z) → Q (nV m) H) :
    ∃ W : Nat → Option (V × V) → Hp → Prop, W 0 none H ∧ (∀ i o H', W i o H' → SqL K H' l (ns.map nV)) ∧ (∀ i o x H', (ns.map nV)[i]? = some x → W i o H' → After (rI0 fun i j => .bl (decide (i < j))) W i o x x H') ∧
      (∀ H', W (ns.map nV).length none H' → Q dv H') ∧ ∀ x y H', W (ns.map nV).length (some (x, y)) H' → Q x H' := by
  refine ⟨fun i o H' => H' = H ∧ match o with
    | none => i = 0
    | some q => ∃ m, q = (nV m, nV m) ∧ m ∈ ns.take i ∧ ∀ z ∈ ns.take i, m ≤ z, ⟨rfl, rfl⟩, fun i o H' h => by rw [h.1]; exact SqL.of hl, fun i o x H' hx h => ?_, fun H' h => ?_, fun x y H' h => ?_⟩
  · obtain ⟨rfl, h⟩ := h
    rw [List.getElem?_map] at hx
    obtain ⟨z, hz, rfl⟩ := Option.map_eq_some_iff.mp hx
    cases o with
    | none =>
      have h : i = 0 := h
      subst h
      refine ⟨rfl, z, rfl, ?_, fun y hy => ?_⟩
      · rw [take_snoc hz]; simp
      · rw [take_snoc hz] at hy
        have : y = z := by simpa using hy
        omega
    | some q =>
      obtain ⟨m, rfl, hm, hall⟩ := h
      refine ⟨_, _, rfl, rfl, decide ((z : Int) < (m : Int)), rfl, rfl, ?_⟩
      by_cases c : z < m
      · rw [decide_eq_true (show (z : Int) < (m : Int) by omega), if_pos rfl]
        refine ⟨z, rfl, by rw [take_snoc hz]; simp, fun y hy => ?_⟩
        rw [take_snoc hz] at hy
        rcases List.mem_append.mp hy with h | h
        · have := hall y h; omega
        · have : y = z := by simpa using h
          omega
      · rw [decide_eq_false (show ¬ (z : Int) < (m : Int) by omega), if_neg Bool.false_ne_true]
        refine ⟨m, rfl, by rw [take_snoc hz]; exact List.mem_append_left _ hm, fun y hy => ?_⟩
        rw [take_snoc hz] at hy
        rcases List.mem_append.mp hy with h | h
        · exact hall y h
        · have : y = z := by simpa using h
          omega
  · obtain ⟨rfl, h⟩ := h
    have h : (ns.map nV).length = 0 := h
    rw [List.length_map] at h
    exact h0 (List.eq_nil_of_length_eq_zero h)
  · obtain ⟨rfl, m, e, hm, hall⟩ := h
    cases e
    rw [List.length_map, List.take_length] at hm hall
    exact h1 m hm hall
theorem nats_max {K : PySem.W.Frag} {H : Hp} {l : Addr} {ns : List Nat} {dv : V} {Q : VK} (hl : Nums H l ns) (h0 : ns = [] → Q dv H) (h1 : ∀ m ∈ ns, (∀ z ∈ ns, z ≤ m) → Q (nV m) H) :
    ∃ W : Nat → Option (V × V) → Hp → Prop, W 0 none H ∧ (∀ i o H', W i o H' → SqL K H' l (ns.map nV)) ∧ (∀ i o x H', (ns.map nV)[i]? = some x → W i o H' → After (rI0 fun i j => .bl (decide (j < i))) W i o x x H') ∧
      (∀ H', W (ns.map nV).length none H' → Q dv H') ∧ ∀ x y H', W (ns.map nV).length (some (x, y)) H' → Q x H' := by
  refine ⟨fun i o H' => H' = H ∧ match o with
    | none => i = 0
    | some q => ∃ m, q = (nV m, nV m) ∧ m ∈ ns.take i ∧ ∀ z ∈ ns.take i, z ≤ m, ⟨rfl, rfl⟩, fun i o H' h => by rw [h.1]; exact SqL.of hl, fun i o x H' hx h => ?_, fun H' h => ?_, fun x y H' h => ?_⟩
  · obtain ⟨rfl, h⟩ := h
    rw [List.getElem?_map] at hx
    obtain ⟨z, hz, rfl⟩ := Option.map_eq_some_iff.mp hx
    cases o with
    | none =>
      have h : i = 0 := h
      subst h
      refine ⟨rfl, z, rfl, ?_, fun y hy => ?_⟩
      · rw [take_snoc hz]; simp
      · rw [take_snoc hz] at hy
        have : y = z := by simpa using hy
        omega
    | some q =>
      obtain ⟨m, rfl, hm, hall⟩ := h
      refine ⟨_, _, rfl, rfl, decide ((m : Int) < (z : Int)), rfl, rfl, ?_⟩
      by_cases c : m < z
      · rw [decide_eq_true (show (m : Int) < (z : Int) by omega), if_pos rfl]
        refine ⟨z, rfl, by rw [take_snoc hz]; simp, fun y hy => ?_⟩
        rw [take_snoc hz] at hy
        rcases List.mem_append.mp hy with h | h
        · have := hall y h; omega
        · have : y = z := by simpa using h
          omega
      · rw [decide_eq_false (show ¬ (m : Int) < (z : Int) by omega), if_neg Bool.false_ne_true]
        refine ⟨m, rfl, by rw [take_snoc hz]; exact List.mem_append_left _ hm, fun y hy => ?_⟩
        rw [take_snoc hz] at hy
        rcases List.mem_append.mp hy with h | h
        · exact hall y h
        · have : y = z := by simpa using h
          omega
  · obtain ⟨rfl, h⟩ := h
    have h : (ns.map nV).length = 0 := h
    rw [List.length_map] at h
    exact h0 (List.eq_nil_of_length_eq_zero h)
  · obtain ⟨rfl, m, e, hm, hall⟩ := h
    cases e
    rw [List.length_map, List.take_length] at hm hall
    exact h1 m hm hall
theorem nat_succ1 (i : Nat) : (V.int (1 + ((i : Nat) : Int))) = nV (i + 1) := by
  unfold nV
  rw [show (1 + (i : Int)) = ((i + 1 : Nat) : Int) by omega]
theorem nat_plus (f i : Nat) : (V.int ((f : Int) + ((i : Nat) : Int))) = nV (f + i) := by
  unfold nV
  rw [show ((f : Int) + (i : Int)) = ((f + i : Nat) : Int) by omega]
theorem lex_lt3 (t u : Found) : HT.lexLt [(t.1 : Int), (t.2.1 : Int), (t.2.2 : Int)] [(u.1 : Int), (u.2.1 : Int), (u.2.2 : Int)] = lt3 t u := by
  unfold lt3
  rw [HT.lexLt_cons, HT.lexLt_cons, HT.lexLt_cons, HT.lexLt_nil_nil]
  by_cases h1 : t.1 = u.1
  · rw [if_pos (by omega), if_pos h1]
    by_cases h2 : t.2.1 = u.2.1
    · rw [if_pos (by omega), if_pos h2]
      by_cases h3 : t.2.2 = u.2.2
      · rw [if_pos (by omega), if_pos h3]
      · rw [if_neg (by omega), if_neg h3]
        exact decide_eq_decide.mpr ⟨fun _ => by omega, fun _ => by omega⟩
    · rw [if_neg (by omega), if_neg h2]
      exact decide_eq_decide.mpr ⟨fun _ => by omega, fun _ => by omega⟩
  · rw [if_neg (by omega), if_neg h1]
    exact decide_eq_decide.mpr ⟨fun _ => by omega, fun _ => by omega⟩
/-- the merit of a first strip -/
def meritL (w x o : Nat) : List Int := [-((seams w x o).length : Int), ((narrow w x o : Nat) : Int), (o : Int)]
theorem merit_gt {w x b o : Nat} (h : b < o) : lexGt (meritL w x o) (meritL w x b) = decide (Bt w x o b) := by
  rw [← Bt_merit h]
  rfl
/-- the inner def's scope -/
theorem cs_merit : ClosScope "first" "plan" (defScope mst) := ⟨rfl, rfl, rfl, by decide +kernel, rfl, rfl, by decide +kernel⟩

section
variable {P : Program} {w : World} {K : PySem.W.Frag} {mg : Str → Option Value} {base : Heap} {CP CW : Addr} (T : Txt K mg base CP CW)
include T

/-! ### first strips -/
def spFirsts (K : PySem.W.Frag) (CP : Addr) : Sp := fun vs H Q _ => ∃ (p : Addr) (kk : Kh352.Kept), vs = [.ref p] ∧ PlanAt K CP H p kk ∧ Fit kk ∧ ∀ (l : Addr) (H' : Hp), Same H H' → Nums H' l (firsts kk.doors kk.wide kk.across) → Q (.ref l) H'
theorem def_clear_firsts : Def P w K mg base "clear_firsts" 4 ["plan"] (spFirsts K CP) := by
  refine T.g_clear_firsts.mk_def (N := ["plan", "first"]) sc_clear_firsts bi_clear_firsts (fun vs H Q E h => ?_) (fun f cdv A outer s H vs Q E hr h => ?_)
  · obtain ⟨p, kk, rfl, _⟩ := h
    rfl
  · obtain ⟨p, kk, rfl, hP, hk, k⟩ := h
    refine ⟨_, (pss_one (ps_ret (pe_lc rfl sc_clear_firsts.nd (pi_range2 rfl T.b_range (pa_cons pe_int (pa_cons (pe_op op_add (pe_fld (pv 0) rfl) pe_int) pa_nil))) (show BlkOk ["plan", "first"] (defScope st_clear_firsts) _ [("first", 1)] from blkOk_by (by decide +kernel)) (fun _ _ _ _ _ => pg_name (i := 1) sc_clear_firsts.nd rfl (by first | exact Or.inl rfl | exact Or.inr rfl)) (fun _ _ _ _ _ => (pts_one (pt_val (pe_def (def_is_clear T) (hr.mono (by decide)) rfl (pa_cons (pv 0) (pa_cons (pv 1) pa_nil)))))) (fun _ _ _ _ _ => (pv 1))))), ?_⟩
    obtain ⟨dx, d, e, hp, hd, he⟩ := id hP
    have w2 := hk.w2
    refine ⟨_, rfl, p, CP, dx, _, _, rfl, hp, T.cl_Plan, T.n_wide, rfl, _, _, rfl, rfl, _, _, rfl, ⟨by decide, by decide, by omega, by omega⟩, fun D hD => ?_⟩
    have en : (((kk.wide : Nat) : Int) + 1 - 1).toNat = kk.wide := by omega
    rw [en]
    refine lc_range_fm (lo := 1) (n := kk.wide) (fun i => clear kk.doors kk.wide kk.across (i + 1)) (fun i => nV (i + 1)) hD (small1000 (by omega)) (fun i H' R R' hi s2 h1 h2 => ?_) (fun H' s2 hl' => ?_)
    · rw [nat_succ1]
      refine ⟨rfl, _, rfl, _, rfl, p, kk, i + 1, rfl, hP.same s2, hk, by omega, fun H3 s3 => ⟨_, rfl, ?_⟩⟩
      cases q : clear kk.doors kk.wide kk.across (i + 1) with
      | true => exact iteT (B := R' H3) ⟨_, rfl, h1 q H3 s3⟩
      | false => exact iteF (h2 q H3 s3)
    · refine k D H' s2 ?_
      show H' D = _
      rw [hl', firsts_fm, List.map_map]
      rfl
def spSome (K : PySem.W.Frag) (CP : Addr) : Sp := fun vs H Q _ => ∃ (p : Addr) (kk : Kh352.Kept), vs = [.ref p] ∧ PlanAt K CP H p kk ∧ Fit kk ∧ ∀ H' : Hp, Same H H' → Q (.bl (best kk.doors kk.wide kk.across).isSome) H'
theorem def_some_first_is_clear : Def P w K mg base "some_first_is_clear" 5 ["plan"] (spSome K CP) := by
  refine T.g_some_first_is_clear.mk_def (N := ["plan"]) sc_some_first_is_clear bi_some_first_is_clear (fun vs H Q E h => ?_) (fun f cdv A outer s H vs Q E hr h => ?_)
  · obtain ⟨p, kk, rfl, _⟩ := h
    rfl
  · obtain ⟨p, kk, rfl, hP, hk, k⟩ := h
    refine ⟨_, (pss_one (ps_ret (pe_cmpR op_gt (pe_callB call_len_seq rfl T.b_len bt_len (pa_cons (pe_def (def_clear_firsts T) (hr.mono (by decide)) rfl (pa_cons (pv 0) pa_nil)) pa_nil)) pe_int (nomark _)))), ?_⟩
    refine ⟨_, rfl, p, kk, rfl, hP, hk, fun l H1 s1 hl => ⟨l, _, rfl, .inl (SqL.of hl), _, _, rfl, rfl, ?_⟩⟩
    have e : decide ((0 : Int) < ((((firsts kk.doors kk.wide kk.across).map nV).length : Nat) : Int)) = (best kk.doors kk.wide kk.across).isSome := by
      rw [List.length_map, best_isSome_firsts]
      cases firsts kk.doors kk.wide kk.across with
      | nil => rfl
      | cons z r => exact decide_eq_true (by rw [List.length_cons]; omega)
    show Q (V.bl (decide ((0 : Int) < ((((firsts kk.doors kk.wide kk.across).map nV).length : Nat) : Int)))) H1
    rw [e]
    exact k H1 s1
def spStripsBy (K : PySem.W.Frag) (CP : Addr) : Sp := fun vs H Q _ => ∃ (p : Addr) (kk : Kh352.Kept) (o : Nat), vs = [.ref p, nV o] ∧ PlanAt K CP H p kk ∧ Fit kk ∧ o < 4294967296 ∧ ∀ H' : Hp, Same H H' → Q (nV (strips kk.wide kk.across o)) H'
theorem def_strips_by : Def P w K mg base "strips_by" 2 ["plan", "first"] (spStripsBy K CP) := by
  refine T.g_strips_by.mk_def (N := ["plan", "first"]) sc_strips_by bi_strips_by (fun vs H Q E h => ?_) (fun f cdv A outer s H vs Q E hr h => ?_)
  · obtain ⟨p, kk, o, rfl, _⟩ := h
    rfl
  · obtain ⟨p, kk, o, rfl, hP, hk, ho, k⟩ := h
    refine ⟨_, (pss_one (ps_ret (pe_op op_add (pe_callB call_len_seq rfl T.b_len bt_len (pa_cons (pe_def (def_seams_of T) (hr.mono (by decide)) rfl (pa_cons (pv 0) (pa_cons (pv 1) pa_nil))) pa_nil)) pe_int))), ?_⟩
    refine ⟨_, rfl, _, rfl, p, kk, o, rfl, hP, hk, ho, fun l H1 s1 hl => ⟨l, _, rfl, .inl (SqL.of hl), _, _, rfl, rfl, ?_⟩⟩
    rw [List.length_map]
    exact k H1 s1

/-! ### the best first strip -/
def spBest (K : PySem.W.Frag) (CP : Addr) : Sp := fun vs H Q _ => ∃ (p : Addr) (kk : Kh352.Kept), vs = [.ref p] ∧ PlanAt K CP H p kk ∧ Fit kk ∧ Tb K H ∧ (best kk.doors kk.wide kk.across = none → ∀ H' : Hp, But (PTb K) H H' → Tb K H' → Q .non H') ∧
  ∀ o, best kk.doors kk.wide kk.across = some o → ∀ H' : Hp, But (PTb K) H H' → Tb K H' → Q (nV o) H'
omit T in
theorem plan_tab {H H' : Hp} {p : Addr} {kk : Kh352.Kept} (hT : Tb K H) (b : But (PTb K) H H') (h : PlanAt K CP H p kk) : PlanAt K CP H' p kk := by
  obtain ⟨ps, e, _⟩ := hT
  exact PlanAt.odd (odd_tbl e) b h
theorem def_best_first : Def P w K mg base "best_first" 5 ["plan"] (spBest K CP) := by
  refine T.g_best_first.mk_def (N := ["plan", "merit"]) sc_best_first bi_best_first (fun vs H Q E h => ?_) (fun f c A outer s H vs Q E hch hr h => ?_)
  · obtain ⟨p, kk, rfl, _⟩ := h
    rfl
  · obtain ⟨p, kk, rfl, hP, hk, hT, k0, k1⟩ := h
    have w2 := hk.w2
    refine ⟨_, (pss_cons (ps_nest (i := 1) sc_best_first.nd rfl (by first | exact Or.inl rfl | exact Or.inr rfl) rfl hch T.bm rfl rfl)
      (pss_one (ps_ret (pe_max_key (op_gtT ((hr.mono (j := 1) (by decide)).in1).units0) rfl rfl T.b_max (pa_cons (pe_def (def_clear_firsts T) (hr.mono (by decide)) rfl (pa_cons (pv 0) pa_nil)) pa_nil) (pk_cons (pv 1) (pk_cons pe_non pk_nil)))))), ?_⟩
    refine ⟨hT, fun f1 c1 pm H1 nf hf hc b1 hT1 => ?_⟩
    have hP1 := plan_tab hT b1 hP
    refine ⟨_, rfl, p, kk, rfl, hP1, hk, fun l H2 s2 hl => ⟨_, rfl, ?_⟩⟩
    have b2 : ∀ {H3 : Hp}, Same H2 H3 → But (PTb K) H H3 := fun s3 b o e n => s3 _ _ (s2 _ _ (b1 b o e n))
    refine ⟨l, f1, .non, (firsts kk.doors kk.wide kk.across).map nV, fun i o H3 => Same H2 H3 ∧ match o with
      | none => bestOf kk.wide kk.across ((firsts kk.doors kk.wide kk.across).take i) = none
      | some q => ∃ b t, q = (nV b, .ref t) ∧ SqT K H3 t ((meritL kk.wide kk.across b).map V.int) ∧ bestOf kk.wide kk.across ((firsts kk.doors kk.wide kk.across).take i) = some b, rfl, rfl, ⟨Same.refl _, rfl⟩, fun i o H3 h => SqL.of (h.1 _ _ hl), fun i o x H3 hx h => ?_, fun H3 h => ?_, fun x y H3 h => ?_⟩
    · obtain ⟨s3, h⟩ := h
      rw [List.getElem?_map] at hx
      obtain ⟨b', hb', rfl⟩ := Option.map_eq_some_iff.mp hx
      have hbm := (mem_firsts.mp (List.mem_of_getElem? hb'))
      intro pins s' u ru I
      refine run_clos (k := 2) (i := 0) (par := "first") (x := "plan") (name := "merit") (qual := "best_first.<locals>.merit") (params := defArgs mst) (body := defBody mst) (scope := defScope mst) (N := ["first", "seams", "plan"]) (σ0 := [some (nV b'), none, some (.ref p)]) (v := nV b') (vx := .ref p) I (Room.in1 hr) (s3 _ _ (s2 _ _ hf)) (s3 _ _ (s2 _ _ hc)) rfl rfl rfl rfl cs_merit (fun j y z h1 h2 => ?_) rfl (fun _ _ _ => rfl) ru (fun hr => ?_)
      · match j, h1, h2 with
        | 0, h1, h2 => cases h1; cases h2; exact .inl ⟨rfl, rfl⟩
        | 1, h1, h2 => cases h2
        | 2, h1, h2 => cases h1; cases h2; exact .inr ⟨rfl, rfl⟩
        | n + 3, h1, h2 => cases h1
      · have hP3 := (hP1.same s2).same s3
        refine ⟨_, (pss_cons (ps_set (i := 1) sc_best_first_merit.nd rfl (by first | exact Or.inl rfl | exact Or.inr rfl) (pe_def (def_seams_of T) (hr.mono (by decide)) rfl (pa_cons (pv 2) (pa_cons (pv 0) pa_nil))))
      (pss_one (ps_ret (pe_tup (pa_cons (pe_un un_neg (pe_callB call_len_seq rfl T.b_len bt_len (pa_cons (pv 1) pa_nil))) (pa_cons (pe_def (def_narrowest_width T) (hr.mono (by decide)) rfl (pa_cons (pv 2) (pa_cons (pv 0) (pa_cons (pv 1) pa_nil)))) (pa_cons (pv 0) pa_nil))))))), ?_⟩
        refine ⟨_, rfl, _, rfl, p, kk, b', rfl, hP3, hk, by omega, fun l4 H4 s4 hl4 => ?_⟩
        refine ⟨_, rfl, l4, _, rfl, .inl (SqL.of hl4), _, rfl, _, rfl, _, rfl, _, rfl, p, l4, kk, b', rfl, hP3.same s4, hk, hl4, _, rfl, (szl rfl), fun t ht => ?_⟩
        have s5 := Same.upd (o := .tup [V.int (-((((seams kk.wide kk.across b').map nV).length : Nat) : Int)), nV (narrow kk.wide kk.across b'), nV b']) s4 ht
        have hS5 : SqT K (upd H4 t (.tup [V.int (-((((seams kk.wide kk.across b').map nV).length : Nat) : Int)), nV (narrow kk.wide kk.across b'), nV b'])) t ((meritL kk.wide kk.across b').map V.int) := by
          have := SqT.of (K := K) (upd_same (H := H4) (a := t) (o := .tup [V.int (-((((seams kk.wide kk.across b').map nV).length : Nat) : Int)), nV (narrow kk.wide kk.across b'), nV b']))
          rw [List.length_map] at this ⊢
          exact this
        cases o with
        | none => exact ⟨s3.trans s5, b', t, rfl, hS5, bestOf_take0 hb' h⟩
        | some q =>
          obtain ⟨b, tq, rfl, hSq, hq⟩ := h
          refine ⟨t, tq, meritL kk.wide kk.across b', meritL kk.wide kk.across b, rfl, rfl, hS5, Same.tup s5 hSq, _, rfl, s3.trans s5, ?_⟩
          have hlt := rising_take (firsts_rising kk.doors kk.wide kk.across) (bestOf_mem (List.Pairwise.sublist (List.take_sublist _ _) (firsts_rising kk.doors kk.wide kk.across)) hq) hb'
          rw [merit_gt hlt]
          have e := bestOf_take (firsts_rising kk.doors kk.wide kk.across) hb' hq
          by_cases c : Bt kk.wide kk.across b' b
          · rw [decide_eq_true c, if_pos rfl] at e ⊢
            exact ⟨b', t, rfl, hS5, e⟩
          · rw [decide_eq_false c, if_neg Bool.false_ne_true] at e ⊢
            exact ⟨b, tq, rfl, Same.tup s5 hSq, e⟩
    · obtain ⟨s3, h⟩ := h
      have h : bestOf kk.wide kk.across ((firsts kk.doors kk.wide kk.across).take ((firsts kk.doors kk.wide kk.across).map nV).length) = none := h
      rw [List.length_map, List.take_length] at h
      exact k0 h H3 (b2 s3) ((hT1.same s2).same s3)
    · obtain ⟨s3, b, t, e, _, h⟩ := h
      cases e
      rw [List.length_map, List.take_length] at h
      exact k1 b h H3 (b2 s3) ((hT1.same s2).same s3)

/-! ### the least carpet -/
def ChAt (K : PySem.W.Frag) (CP : Addr) (H : Hp) (v : V) (c : Nat × Kh352.Kept) : Prop := ∃ t p, v = .ref t ∧ SqT K H t [nV c.1, .ref p] ∧ PlanAt K CP H p c.2
def FAt (K : PySem.W.Frag) (H : Hp) (v : V) (t : Found) : Prop := ∃ a, v = .ref a ∧ SqT K H a [nV t.1, nV t.2.1, nV t.2.2]
omit T in
theorem ChAt.same {H H' : Hp} {v : V} {c : Nat × Kh352.Kept} (s : Same H H') (h : ChAt K CP H v c) : ChAt K CP H' v c := by
  obtain ⟨t, p, e, h1, h2⟩ := h
  exact ⟨t, p, e, Same.tup s h1, h2.same s⟩
omit T in
theorem ChAt.odd {H H' : Hp} {q : Addr} {v : V} {c : Nat × Kh352.Kept} (hq : Odd CP H q) (b : But q H H') (h : ChAt K CP H v c) : ChAt K CP H' v c := by
  obtain ⟨t, p, e, h1, h2⟩ := h
  exact ⟨t, p, e, odd_tup hq b h1, PlanAt.odd hq b h2⟩
omit T in
theorem FAt.same {H H' : Hp} {v : V} {t : Found} (s : Same H H') (h : FAt K H v t) : FAt K H' v t := by
  obtain ⟨a, e, h1⟩ := h
  exact ⟨a, e, Same.tup s h1⟩
omit T in
theorem FAt.odd {H H' : Hp} {q : Addr} {v : V} {t : Found} (hq : Odd CP H q) (b : But q H H') (h : FAt K H v t) : FAt K H' v t := by
  obtain ⟨a, e, h1⟩ := h
  exact ⟨a, e, odd_tup hq b h1⟩
omit T in
theorem Tb.lst {H H' : Hp} {q : Addr} {xs : List V} (h : Tb K H) (hq : H q = some (.lst xs)) (b : But q H H') : Tb K H' :=
  TabOk.but b (fun ps z => by rw [hq] at z; cases z) (fun φ z => by rw [hq] at z; cases z) h
omit T in
theorem Tb.ne {H : Hp} {q : Addr} {xs : List V} (h : Tb K H) (hq : H q = some (.lst xs)) : q ≠ PTb K := by
  obtain ⟨ps, e, _⟩ := h
  exact ne_of hq e (by intro z; cases z)
def spLeast (K : PySem.W.Frag) (CP : Addr) : Sp := fun vs H Q _ => ∃ (l : Addr) (us : List V) (cs : List (Nat × Kh352.Kept)), vs = [.ref l] ∧ H l = some (.lst us) ∧ Paired (fun v c => ChAt K CP H v c) us cs ∧ (∀ c ∈ cs, Fit c.2) ∧ cs.length ≤ 100 ∧ Tb K H ∧
  (leastOf cs = none → ∀ H' : Hp, But (PTb K) H H' → Tb K H' → Q .non H') ∧ ∀ t, leastOf cs = some t → ∀ (a : Addr) (H' : Hp), But (PTb K) H H' → Tb K H' → SqT K H' a [nV t.1, nV t.2.1, nV t.2.2] → Q (.ref a) H'
omit T in
theorem fmp_len {α β : Type} (f : α → Option β) (l : List α) : (l.filterMap f).length ≤ l.length := List.length_filterMap_le f l
omit T in
theorem fm_take {α β : Type} {f : α → Option β} {l : List α} {i : Nat} {c : α} (h : l[i]? = some c) : (l.take (i + 1)).filterMap f = (l.take i).filterMap f ++ (f c).toList := by
  rw [take_snoc h, List.filterMap_append]
  cases e : f c with
  | none => rw [List.filterMap_cons_none e]; rfl
  | some b => rw [List.filterMap_cons_some e]; rfl
theorem def_least_carpet : Def P w K mg base "least_carpet" 6 ["choices"] (spLeast K CP) := by
  refine T.g_least_carpet.mk_def (N := ["choices", "found", "number", "plan", "first"]) sc_least_carpet bi_least_carpet (fun vs H Q E h => ?_) (fun f cdv A outer s H vs Q E hr h => ?_)
  · obtain ⟨l, us, cs, rfl, _⟩ := h
    rfl
  · obtain ⟨l, us, cs, rfl, hl, hC, hfit, hlen, hT, k0, k1⟩ := h
    refine ⟨_, (pss_cons (ps_set (i := 1) sc_least_carpet.nd rfl (by first | exact Or.inl rfl | exact Or.inr rfl) (pe_lst pa_nil))
      (pss_cons (ps_for PassesOwn.never rfl (pi_list (pv 0)) (pg_tup (n := 2) rfl (pgs_cons (pg_name (i := 2) sc_least_carpet.nd rfl (by first | exact Or.inl rfl | exact Or.inr rfl)) (pgs_cons (pg_name (i := 3) sc_least_carpet.nd rfl (by first | exact Or.inl rfl | exact Or.inr rfl)) pgs_nil))) (pss_cons (ps_set (i := 4) sc_least_carpet.nd rfl (by first | exact Or.inl rfl | exact Or.inr rfl) (pe_def (def_best_first T) (hr.mono (by decide)) rfl (pa_cons (pv 3) pa_nil)))
      (pss_one (ps_if (pt_cmpR op_notN (pv 4) pe_non (nomark _)) (pss_one (ps_expr (pe_bm PySem.F.plainAttrs_list PySem.F.slot_list_append PySem.F.type_list_append mt_append (pv 1) (pa_cons (pe_tup (pa_cons (pe_def (def_carpet_needed T) (hr.mono (by decide)) rfl (pa_cons (pv 3) (pa_cons (pe_def (def_strips_by T) (hr.mono (by decide)) rfl (pa_cons (pv 3) (pa_cons (pv 4) pa_nil))) pa_nil))) (pa_cons (pv 2) (pa_cons (pv 4) pa_nil)))) pa_nil)))) pss_nil))))
      (pss_one (ps_ret (pe_min_dflt (op_ltT ((hr.mono (j := 1) (by decide)).in1).units0) rfl rfl T.b_min (pa_cons (pv 1) pa_nil) (pk_cons pe_non pk_nil)))))), ?_⟩
    refine ⟨(szl rfl), fun fl nfl => ?_⟩
    have s0 : Same H (upd H fl (.lst [])) := same_upd nfl
    have nlf : l ≠ fl := ne_of_none hl nfl
    have hle : us.length = cs.length := pr_len hC
    refine ⟨_, rfl, l, rfl, ⟨_, SqL.of (s0 _ _ hl)⟩, for_list (K := K) (a := l) (xs := us) (fun i σ H' => ∃ (v2 v3 v4 : Option V) (ts : List V), σ = [some (.ref l), some (.ref fl), v2, v3, v4] ∧ But (PTb K) H H' ∧ Tb K H' ∧ H' fl = some (.lst ts) ∧ Paired (fun v t => FAt K H' v t) ts ((cs.take i).filterMap fnd))
      ⟨none, none, none, [], rfl, fun b o e _ => s0 b o e, hT.same s0, upd_same, .nil⟩ (fun i σ H' _ h => ?_) (fun i x σ H' hx h => ?_) (fun σ H' h => ?_)⟩
    · obtain ⟨v2, v3, v4, ts, rfl, b1, hT1, hfl, hF⟩ := h
      exact SqL.of (b1 _ _ hl (hT.ne hl))
    · obtain ⟨v2, v3, v4, ts, rfl, b1, hT1, hfl, hF⟩ := h
      obtain ⟨c, hc, t, p, rfl, hS, hP⟩ := pr_get hC hx
      have fit := hfit c (List.mem_of_getElem? hc)
      obtain ⟨ps0, eP, _⟩ := id hT
      have hS1 := odd_tup (CP := CP) (odd_tbl eP) b1 hS
      have hP1 := plan_tab hT b1 hP
      have hi : i < cs.length := (List.getElem?_eq_some_iff.mp hc).1
      have hts : ts.length ≤ 100 := by
        have := pr_len hF
        have q := fmp_len fnd (cs.take i)
        rw [List.length_take] at q
        omega
      refine ⟨t, _, rfl, hS1, rfl, _, _, rfl, _, _, rfl, rfl, _, rfl, p, c.2, rfl, hP1, fit, hT1, fun hn H2 b2 hT2 => ?_, fun o ho H2 b2 hT2 => ?_⟩
      · refine ⟨_, rfl, rfl, _, rfl, iteNS rfl ?_⟩
        obtain ⟨ps1, eP1, _⟩ := id hT1
        refine ⟨_, _, _, ts, rfl, fun b o e n => b2 _ _ (b1 b o e n) n, hT2, b2 _ _ hfl (hT1.ne hfl), ?_⟩
        have e : fnd c = none := by unfold fnd; rw [hn]; rfl
        rw [fm_take hc, e, Option.toList_none, List.append_nil]
        exact pr_imp (fun _ _ z => FAt.odd (CP := CP) (odd_tbl eP1) b2 z) hF
      · obtain ⟨ps1, eP1, _⟩ := id hT1
        have hP2 := plan_tab hT1 b2 hP1
        have hfl2 := b2 _ _ hfl (hT1.ne hfl)
        have ho2 : o < 4294967296 := by
          have := (mem_firsts.mp (best_some.mp ho).1).2.1
          have := fit.w2
          omega
        refine ⟨_, rfl, rfl, _, rfl, iteNT (by intro z; cases z) ?_⟩
        refine ⟨_, rfl, .inl ⟨rfl, _, SqL.of hfl2⟩, _, rfl, _, rfl, _, rfl, p, c.2, o, rfl, hP2, fit, ho2, fun H3 s3 => ⟨p, c.2, strips c.2.wide c.2.across o, rfl, hP2.same s3, fit, _, rfl, _, rfl, (szl rfl), fun a na => ⟨fl, _, _, rfl, rfl, (same_upd na) _ _ (s3 _ _ hfl2), small1000 (by omega), ?_⟩⟩⟩
        have hfl3 := (same_upd (o := .tup [nV (strips c.2.wide c.2.across o * c.2.wide * c.2.along), nV c.1, nV o]) na) _ _ (s3 _ _ hfl2)
        have b4 : But fl (upd H3 a (.tup [nV (strips c.2.wide c.2.across o * c.2.wide * c.2.along), nV c.1, nV o])) (upd (upd H3 a (.tup [nV (strips c.2.wide c.2.across o * c.2.wide * c.2.along), nV c.1, nV o])) fl (.lst (ts ++ [.ref a]))) := but_upd
        refine ⟨_, _, _, ts ++ [.ref a], rfl, fun b u e n => ?_, Tb.lst ((hT2.same s3).same (same_upd na)) hfl3 b4, upd_same, ?_⟩
        · rw [upd_ne (ne_of_none e nfl)]
          exact (same_upd na) _ _ (s3 _ _ (b2 _ _ (b1 b u e n) n))
        · have e : fnd c = some (area c.2.wide c.2.across c.2.along o, c.1, o) := by unfold fnd; rw [ho]; rfl
          rw [fm_take hc, e]
          refine pr_app (pr_imp (fun _ _ z => FAt.odd (CP := CP) (odd_lst hfl3) b4 (FAt.same (same_upd na) (FAt.same s3 (FAt.odd (CP := CP) (odd_tbl eP1) b2 z)))) hF) (.cons ⟨a, rfl, odd_tup (CP := CP) (odd_lst hfl3) b4 (SqT.of upd_same)⟩ .nil)
    · obtain ⟨v2, v3, v4, ts, rfl, b1, hT1, hfl, hF⟩ := h
      rw [hle, List.take_length] at hF
      refine ⟨_, rfl, fl, .non, ts, fun i o H2 => H2 = H' ∧ match o with
        | none => minOf ((cs.filterMap fnd).take i) = none
        | some q => ∃ a t, q = (.ref a, .ref a) ∧ SqT K H' a [nV t.1, nV t.2.1, nV t.2.2] ∧ minOf ((cs.filterMap fnd).take i) = some t, rfl, rfl, ⟨rfl, rfl⟩, fun i o H2 h => by rw [h.1]; exact SqL.of hfl, fun i o x H2 hx h => ?_, fun H2 h => ?_, fun x y H2 h => ?_⟩
      · obtain ⟨rfl, h⟩ := h
        obtain ⟨t, ht, a, rfl, hS⟩ := pr_get hF hx
        cases o with
        | none =>
          refine ⟨rfl, a, t, rfl, hS, ?_⟩
          have h : minOf ((cs.filterMap fnd).take i) = none := h
          rw [take_snoc ht, minOf_snoc, h]
          rfl
        | some q =>
          obtain ⟨b, u, rfl, hSb, hm⟩ := h
          refine ⟨a, b, [(t.1 : Int), (t.2.1 : Int), (t.2.2 : Int)], [(u.1 : Int), (u.2.1 : Int), (u.2.2 : Int)], rfl, rfl, hS, hSb, _, rfl, rfl, ?_⟩
          rw [lex_lt3]
          cases c : lt3 t u with
          | true =>
            rw [if_pos rfl]
            refine ⟨a, t, rfl, hS, ?_⟩
            rw [take_snoc ht, minOf_snoc, hm]
            unfold mstep
            simp only [c, if_true]
          | false =>
            rw [if_neg Bool.false_ne_true]
            refine ⟨b, u, rfl, hSb, ?_⟩
            rw [take_snoc ht, minOf_snoc, hm]
            unfold mstep
            simp only [c, Bool.false_eq_true, if_false]
      · obtain ⟨rfl, h⟩ := h
        have h : minOf ((cs.filterMap fnd).take ts.length) = none := h
        rw [pr_len hF, List.take_length] at h
        exact k0 h _ b1 hT1
      · obtain ⟨rfl, a, t, e, hS, h⟩ := h
        cases e
        rw [pr_len hF, List.take_length] at h
        exact k1 t h a _ b1 hT1 hS
def spWay (K : PySem.W.Frag) (CP : Addr) : Sp := fun vs H Q _ => ∃ (p : Addr) (kk : Kh352.Kept), vs = [.ref p] ∧ PlanAt K CP H p kk ∧ KeptOk kk ∧ Tb K H ∧
  (leastOf [(0, kk), (1, ⟨kk.wide, kk.along, kk.across, kk.sides, kk.doors⟩)] = none → ∀ H' : Hp, But (PTb K) H H' → Tb K H' → Q .non H') ∧
  ∀ t, leastOf [(0, kk), (1, ⟨kk.wide, kk.along, kk.across, kk.sides, kk.doors⟩)] = some t → ∀ (a : Addr) (H' : Hp), But (PTb K) H H' → Tb K H' → SqT K H' a [nV t.1, nV t.2.1, nV t.2.2] → Q (.ref a) H'
theorem def_best_way_round : Def P w K mg base "best_way_round" 7 ["plan"] (spWay K CP) := by
  refine T.g_best_way_round.mk_def (N := ["plan"]) sc_best_way_round bi_best_way_round (fun vs H Q E h => ?_) (fun f cdv A outer s H vs Q E hr h => ?_)
  · obtain ⟨p, kk, rfl, _⟩ := h
    rfl
  · obtain ⟨p, kk, rfl, hP, hk, hT, k0, k1⟩ := h
    refine ⟨_, (pss_one (ps_ret (pe_def (def_least_carpet T) (hr.mono (by decide)) rfl (pa_cons (pe_lst (pa_cons (pe_tup (pa_cons (pe_cst T.c_ALONG rfl) (pa_cons (pv 0) pa_nil))) (pa_cons (pe_tup (pa_cons (pe_cst T.c_ACROSS rfl) (pa_cons (pe_md0 (def_Plan_turned T) T.cl_Plan (hr.mono (by decide)) (pv 0)) pa_nil))) pa_nil))) pa_nil)))), ?_⟩
    refine ⟨_, rfl, (szl rfl), fun t1 n1 => ?_⟩
    have s1 := same_upd (o := .tup [.int 0, .ref p]) n1
    obtain ⟨dx, d, e, hp, hd, he⟩ := id (hP.same s1)
    refine ⟨_, rfl, p, dx, _, rfl, hp, rfl, p, _, kk, _, rfl, hP.same s1, ⟨rfl, rfl⟩, fun x H2 s2 nx hP2 => ⟨(szl rfl), fun t2 n2 => ⟨(szl rfl), fun l nl => ?_⟩⟩⟩
    have s3 := same_upd (o := .tup [.int 1, .ref x]) n2
    have s4 := same_upd (o := .lst [.ref t1, .ref t2]) nl
    have s13 : Same H (upd (upd H2 t2 (.tup [.int 1, .ref x])) l (.lst [.ref t1, .ref t2])) := s1.trans (s2.trans (s3.trans s4))
    refine ⟨l, _, [(0, kk), (1, ⟨kk.wide, kk.along, kk.across, kk.sides, kk.doors⟩)], rfl, upd_same, .cons ⟨t1, p, rfl, Same.tup (s2.trans (s3.trans s4)) (SqT.of upd_same), hP.same s13⟩ (.cons ⟨t2, x, rfl, Same.tup s4 (SqT.of upd_same), hP2.same (s3.trans s4)⟩ .nil), fun c hc => ?_, by show (2 : Nat) ≤ 100; decide, hT.same s13, fun hn H5 b5 hT5 => k0 hn H5 (fun b o e n => b5 _ _ (s13 b o e) n) hT5, fun t ht a H5 b5 hT5 hS5 => k1 t ht a H5 (fun b o e n => b5 _ _ (s13 b o e) n) hT5 hS5⟩
    rcases List.mem_cons.mp hc with e | hc
    · rw [e]; exact hk.fit
    · have e : c = (1, ⟨kk.wide, kk.along, kk.across, kk.sides, kk.doors⟩) := by simpa using hc
      rw [e]; exact hk.turned.fit
def spBestW (K : PySem.W.Frag) (CP : Addr) : Sp := fun vs H Q _ => ∃ (p : Addr) (kk : Kh352.Kept) (f t : Nat), vs = [.ref p, nV f, nV t] ∧ PlanAt K CP H p kk ∧ KeptOk kk ∧ (1 ≤ f ∧ f ≤ t ∧ t ≤ 60) ∧ Tb K H ∧
  (leastOf (widthsC kk f (t + 1 - f)) = none → ∀ H' : Hp, But (PTb K) H H' → Tb K H' → Q .non H') ∧
  ∀ u, leastOf (widthsC kk f (t + 1 - f)) = some u → ∀ (a : Addr) (H' : Hp), But (PTb K) H H' → Tb K H' → SqT K H' a [nV u.1, nV u.2.1, nV u.2.2] → Q (.ref a) H'
theorem def_best_width : Def P w K mg base "best_width" 7 ["plan", "low", "high"] (spBestW K CP) := by
  refine T.g_best_width.mk_def (N := ["plan", "low", "high", "wide"]) sc_best_width bi_best_width (fun vs H Q E h => ?_) (fun f cdv A outer s H vs Q E hr h => ?_)
  · obtain ⟨p, kk, f, t, rfl, _⟩ := h
    rfl
  · obtain ⟨p, kk, f, t, rfl, hP, hk, hb, hT, k0, k1⟩ := h
    refine ⟨_, (pss_one (ps_ret (pe_def (def_least_carpet T) (hr.mono (by decide)) rfl (pa_cons (pe_lc rfl sc_best_width.nd (pi_range2 rfl T.b_range (pa_cons (pv 1) (pa_cons (pe_op op_add (pv 2) pe_int) pa_nil))) (show BlkOk ["plan", "low", "high", "wide"] (defScope st_best_width) _ [("wide", 3)] from blkOk_by (by decide +kernel)) (fun _ _ _ _ _ => pg_name (i := 3) sc_best_width.nd rfl (by first | exact Or.inl rfl | exact Or.inr rfl)) (fun _ _ _ _ _ => pts_nil) (fun _ _ _ _ _ => (pe_tup (pa_cons (pv 3) (pa_cons (pe_md (def_Plan_with_wide T) T.cl_Plan (hr.mono (by decide)) (pv 0) (pa_cons (pv 3) pa_nil)) pa_nil))))) pa_nil)))), ?_⟩
    refine ⟨_, rfl, _, rfl, _, _, rfl, rfl, _, _, rfl, ⟨by omega, by omega, by omega, by omega⟩, fun D hD => ?_⟩
    have en : (((t : Nat) : Int) + 1 - ((f : Nat) : Int)).toNat = t + 1 - f := by omega
    rw [en]
    refine lc_range (lo := (f : Int)) (n := t + 1 - f) (fun i H' => Same H H' ∧ ∃ us, H' D = some (.lst us) ∧ Paired (fun v c => ChAt K CP H' v c) us (widthsC kk f i)) ⟨same_upd hD, [], upd_same, .nil⟩ (fun i H' hi h => ?_) (fun H' h => ?_)
    · obtain ⟨s1, us, hus, hC⟩ := h
      have hul : us.length = i := by
        have := pr_len hC
        unfold widthsC at this
        rw [List.length_map, List.length_range] at this
        exact this
      rw [nat_plus]
      obtain ⟨dx, d, e, hp, hd, he⟩ := id (hP.same s1)
      refine ⟨rfl, iteT (B := Same H H' ∧ ∃ us, H' D = some (.lst us) ∧ Paired (fun v c => ChAt K CP H' v c) us (widthsC kk f (i + 1))) ⟨_, rfl, _, rfl, p, dx, _, rfl, hp, rfl, _, rfl, p, _, kk, _, rfl, hP.same s1, ⟨f + i, rfl, rfl⟩, fun x H2 s2 nx hP2 => ⟨(szl rfl), fun a na => ?_⟩⟩⟩
      have s3 := same_upd (o := .tup [nV (f + i), .ref x]) na
      have hus3 := s3 _ _ (s2 _ _ hus)
      refine ⟨us, hus3, small1000 (by omega), ?_⟩
      have b4 : But D (upd H2 a (.tup [nV (f + i), .ref x])) (upd (upd H2 a (.tup [nV (f + i), .ref x])) D (.lst (us ++ [.ref a]))) := but_upd
      refine ⟨fun b o e => ?_, us ++ [.ref a], upd_same, ?_⟩
      · rw [upd_ne (ne_of_none e hD)]
        exact s3 _ _ (s2 _ _ (s1 b o e))
      · have e0 : widthsC kk f (i + 1) = widthsC kk f i ++ [(f + i, ⟨f + i, kk.across, kk.along, kk.doors, kk.sides⟩)] := by
          unfold widthsC
          rw [List.range_succ, List.map_append]
          rfl
        rw [e0]
        exact pr_app (pr_imp (fun _ _ z => ChAt.odd (odd_lst hus3) b4 (ChAt.same (s2.trans s3) z)) hC) (.cons ⟨a, x, rfl, odd_tup (CP := CP) (odd_lst hus3) b4 (SqT.of upd_same), PlanAt.odd (odd_lst hus3) b4 (hP2.same s3)⟩ .nil)
    · obtain ⟨s1, us, hus, hC⟩ := h
      refine ⟨D, us, widthsC kk f (t + 1 - f), rfl, hus, hC, fun c hc => ?_, ?_, hT.same s1, fun hn H5 b5 hT5 => k0 hn H5 (fun b o e n => b5 _ _ (s1 b o e) n) hT5, fun u hu a H5 b5 hT5 hS5 => k1 u hu a H5 (fun b o e n => b5 _ _ (s1 b o e) n) hT5 hS5⟩
      · unfold widthsC at hc
        obtain ⟨i, hi, rfl⟩ := List.mem_map.mp hc
        have := List.mem_range.mp hi
        exact (hk.wider (by omega) (by omega)).fit
      · unfold widthsC
        rw [List.length_map, List.length_range]
        omega
def spFitW (K : PySem.W.Frag) (CP : Addr) : Sp := fun vs H Q _ => ∃ (p : Addr) (kk : Kh352.Kept) (f t : Nat), vs = [.ref p, nV f, nV t] ∧ PlanAt K CP H p kk ∧ KeptOk kk ∧ (1 ≤ f ∧ f ≤ t ∧ t ≤ 60) ∧ ∀ (l : Addr) (H' : Hp), Same H H' → Nums H' l (fitN kk f (t + 1 - f)) → Q (.ref l) H'
theorem def_fit_widths : Def P w K mg base "fit_widths" 6 ["plan", "low", "high"] (spFitW K CP) := by
  refine T.g_fit_widths.mk_def (N := ["plan", "low", "high", "wide"]) sc_fit_widths bi_fit_widths (fun vs H Q E h => ?_) (fun f cdv A outer s H vs Q E hr h => ?_)
  · obtain ⟨p, kk, f, t, rfl, _⟩ := h
    rfl
  · obtain ⟨p, kk, f, t, rfl, hP, hk, hb, k⟩ := h
    refine ⟨_, (pss_one (ps_ret (pe_lc rfl sc_fit_widths.nd (pi_range2 rfl T.b_range (pa_cons (pv 1) (pa_cons (pe_op op_add (pv 2) pe_int) pa_nil))) (show BlkOk ["plan", "low", "high", "wide"] (defScope st_fit_widths) _ [("wide", 3)] from blkOk_by (by decide +kernel)) (fun _ _ _ _ _ => pg_name (i := 3) sc_fit_widths.nd rfl (by first | exact Or.inl rfl | exact Or.inr rfl)) (fun _ _ _ _ _ => (pts_one (pt_val (pe_def (def_some_first_is_clear T) (hr.mono (by decide)) rfl (pa_cons (pe_md (def_Plan_with_wide T) T.cl_Plan (hr.mono (by decide)) (pv 0) (pa_cons (pv 3) pa_nil)) pa_nil))))) (fun _ _ _ _ _ => (pv 3))))), ?_⟩
    refine ⟨_, rfl, _, rfl, _, _, rfl, rfl, _, _, rfl, ⟨by omega, by omega, by omega, by omega⟩, fun D hD => ?_⟩
    have en : (((t : Nat) : Int) + 1 - ((f : Nat) : Int)).toNat = t + 1 - f := by omega
    rw [en]
    refine lc_range_fm (lo := (f : Int)) (n := t + 1 - f) (fun i => (best kk.doors (f + i) kk.across).isSome) (fun i => nV (f + i)) hD (small1000 (by omega)) (fun i H' R R' hi s2 h1 h2 => ?_) (fun H' s2 hl' => ?_)
    · rw [nat_plus]
      obtain ⟨dx, d, e, hp, hd, he⟩ := id (hP.same s2)
      refine ⟨rfl, _, rfl, p, dx, _, rfl, hp, rfl, _, rfl, p, _, kk, _, rfl, hP.same s2, ⟨f + i, rfl, rfl⟩, fun x H3 s3 nx hP3 => ⟨x, _, rfl, hP3, (hk.wider (by omega) (by omega)).fit, fun H4 s4 => ⟨_, rfl, ?_⟩⟩⟩
      cases q : (best kk.doors (f + i) kk.across).isSome with
      | true => exact iteT (B := R' H4) ⟨_, rfl, h1 q H4 (s3.trans s4)⟩
      | false => exact iteF (h2 q H4 (s3.trans s4))
    · refine k D H' s2 ?_
      show H' D = _
      rw [hl']
      unfold fitN
      rw [List.map_map]
      rfl

/-! ### the widest door -/
def spNext (K : PySem.W.Frag) (CP : Addr) : Sp := fun vs H Q _ => ∃ (p : Addr) (kk : Kh352.Kept) (o f : Nat), vs = [.ref p, nV o, nV f] ∧ PlanAt K CP H p kk ∧ Fit kk ∧ o < 4294967296 ∧ ∀ H' : Hp, Same H H' → Q (nV (nextOf kk.wide kk.across o f)) H'
theorem def_next_seam : Def P w K mg base "next_seam" 2 ["plan", "first", "place"] (spNext K CP) := by
  refine T.g_next_seam.mk_def (N := ["plan", "first", "place", "seam"]) sc_next_seam bi_next_seam (fun vs H Q E h => ?_) (fun f cdv A outer s H vs Q E hr h => ?_)
  · obtain ⟨p, kk, o, f, rfl, _⟩ := h
    rfl
  · obtain ⟨p, kk, o, f, rfl, hP, hk, ho, k⟩ := h
    refine ⟨_, (pss_one (ps_ret (pe_min_dflt (op_lt) rfl rfl T.b_min (pa_cons (pe_lc rfl sc_next_seam.nd (pi_list (pe_def (def_seams_of T) (hr.mono (by decide)) rfl (pa_cons (pv 0) (pa_cons (pv 1) pa_nil)))) (show BlkOk ["plan", "first", "place", "seam"] (defScope st_next_seam) _ [("seam", 3)] from blkOk_by (by decide +kernel)) (fun _ _ _ _ _ => pg_name (i := 3) sc_next_seam.nd rfl (by first | exact Or.inl rfl | exact Or.inr rfl)) (fun _ _ _ _ _ => (pts_one (pt_cmpR op_gt (pv 3) (pv 2) (nomark _)))) (fun _ _ _ _ _ => (pv 3))) pa_nil) (pk_cons (pe_fld (pv 0) rfl) pk_nil)))), ?_⟩
    refine ⟨_, rfl, _, rfl, p, kk, o, rfl, hP, hk, ho, fun l H1 s1 hl => ⟨l, rfl, ⟨_, SqL.of hl⟩, fun D hD => ?_⟩⟩
    have hsl : (seams kk.wide kk.across o).length ≤ 1000 := by
      rw [seams_len hk.w1]
      exact Nat.le_trans (nSeams_small hk.x2) (by decide)
    refine lc_list_fm (K := K) (a := l) (xs := (seams kk.wide kk.across o).map nV) (fun i => decide (f < (seams kk.wide kk.across o).getD i 0)) (fun i => nV ((seams kk.wide kk.across o).getD i 0)) hD (small1000 (by rw [List.length_map]; exact hsl)) (SqL.of hl) (fun i y H' R R' hi s2 h1 h2 => ?_) (fun H' s2 hl' => ?_)
    · rw [List.getElem?_map] at hi
      obtain ⟨z, hz, rfl⟩ := Option.map_eq_some_iff.mp hi
      have ez : (seams kk.wide kk.across o).getD i 0 = z := by rw [List.getD_eq_getElem?_getD, hz]; rfl
      simp only [ez] at h1 h2
      refine ⟨rfl, _, rfl, _, rfl, _, _, rfl, rfl, _, rfl, ?_⟩
      by_cases c : f < z
      · rw [decide_eq_true (show (f : Int) < (z : Int) by omega)]
        exact iteT (B := R' H') ⟨_, rfl, h1 (decide_eq_true c) H' (Same.refl _)⟩
      · rw [decide_eq_false (show ¬ (f : Int) < (z : Int) by omega)]
        exact iteF (h2 (decide_eq_false c) H' (Same.refl _))
    · obtain ⟨dx, d, e, hp, hd, he⟩ := (hP.same s1).same s2
      have hN : Nums H' D ((seams kk.wide kk.across o).filter fun s => decide (f < s)) := by
        show H' D = _
        rw [hl', List.length_map]
        have q : ∀ ss : List Nat, ((List.range ss.length).filter fun i => decide (f < ss.getD i 0)).map (fun i => nV (ss.getD i 0)) = (ss.filter fun s => decide (f < s)).map nV := by
          intro ss
          refine snoc_rec (P := fun ss => ((List.range ss.length).filter fun i => decide (f < ss.getD i 0)).map (fun i => nV (ss.getD i 0)) = (ss.filter fun s => decide (f < s)).map nV) rfl (fun l z ih => ?_) ss
          rw [List.length_append, List.length_singleton, List.range_succ, List.filter_append, List.filter_append, List.map_append, List.map_append, ← ih]
          have g : ∀ i, i < l.length → (l ++ [z]).getD i 0 = l.getD i 0 := fun i hi => by
            rw [List.getD_eq_getElem?_getD, List.getD_eq_getElem?_getD, List.getElem?_append_left hi]
          have g2 : (l ++ [z]).getD l.length 0 = z := by rw [List.getD_eq_getElem?_getD, List.getElem?_append_right (Nat.le_refl _), Nat.sub_self]; rfl
          congr 1
          · rw [List.filter_congr (fun i hi => by rw [g i (List.mem_range.mp hi)])]
            exact List.map_congr_left fun i hi => by rw [g i (List.mem_range.mp (List.mem_filter.mp hi).1)]
          · by_cases c : f < z
            · rw [List.filter_cons_of_pos (by rw [g2]; exact decide_eq_true c), List.filter_cons_of_pos (p := fun s => decide (f < s)) (decide_eq_true c)]
              simp only [List.filter_nil, List.map_cons, List.map_nil, g2]
            · rw [List.filter_cons_of_neg (by rw [g2]; simpa using c), List.filter_cons_of_neg (p := fun s => decide (f < s)) (by simpa using c)]
              rfl
        rw [q]
      have q0 : (seams kk.wide kk.across o).filter (fun s => decide (f < s)) = [] → Q (nV kk.across) H' := fun hn => by
        have : IsNext kk.wide kk.across o f kk.across := ⟨.inl rfl, Nat.le_refl _, fun s hs hf => absurd (decide_eq_true hf) (List.filter_eq_nil_iff.mp hn s hs)⟩
        rw [next_nextOf hk.w1 this]
        exact k H' (s1.trans s2)
      have q1 : ∀ m ∈ (seams kk.wide kk.across o).filter (fun s => decide (f < s)), (∀ z ∈ (seams kk.wide kk.across o).filter (fun s => decide (f < s)), m ≤ z) → Q (nV m) H' := fun m hm hall => by
        obtain ⟨h1, h2⟩ := List.mem_filter.mp hm
        have : IsNext kk.wide kk.across o f m := ⟨.inr ⟨h1, of_decide_eq_true h2⟩, Nat.le_of_lt (seams_lt hk.w1 h1), fun s hs hf => hall s (List.mem_filter.mpr ⟨hs, decide_eq_true hf⟩)⟩
        rw [next_nextOf hk.w1 this]
        exact k H' (s1.trans s2)
      obtain ⟨W, w0, wl, wk, f0, f1⟩ := nats_min (K := K) (dv := nV kk.across) (Q := Q) hN q0 q1
      exact ⟨_, rfl, p, CP, dx, _, _, rfl, hp, T.cl_Plan, T.n_across, rfl, D, _, _, W, rfl, rfl, w0, wl, wk, f0, f1⟩
def spWidest (K : PySem.W.Frag) (CP : Addr) : Sp := fun vs H Q _ => ∃ (p : Addr) (kk : Kh352.Kept) (f : Nat), vs = [.ref p, nV f] ∧ PlanAt K CP H p kk ∧ Fit kk ∧ (firsts kk.doors kk.wide kk.across = [] → ∀ H' : Hp, Same H H' → Q .non H') ∧
  ∀ (m : Nat) (H' : Hp), Same H H' → (∃ o ∈ firsts kk.doors kk.wide kk.across, IsNext kk.wide kk.across o f m) → (∀ o ∈ firsts kk.doors kk.wide kk.across, ∃ n, IsNext kk.wide kk.across o f n ∧ n ≤ m) → Q (nV m) H'
theorem def_widest_end : Def P w K mg base "widest_end" 5 ["plan", "low"] (spWidest K CP) := by
  refine T.g_widest_end.mk_def (N := ["plan", "low", "first"]) sc_widest_end bi_widest_end (fun vs H Q E h => ?_) (fun f cdv A outer s H vs Q E hr h => ?_)
  · obtain ⟨p, kk, f, rfl, _⟩ := h
    rfl
  · obtain ⟨p, kk, f, rfl, hP, hk, k0, k1⟩ := h
    refine ⟨_, (pss_one (ps_ret (pe_max_dflt (op_gt) rfl rfl T.b_max (pa_cons (pe_lc rfl sc_widest_end.nd (pi_list (pe_def (def_clear_firsts T) (hr.mono (by decide)) rfl (pa_cons (pv 0) pa_nil))) (show BlkOk ["plan", "low", "first"] (defScope st_widest_end) _ [("first", 2)] from blkOk_by (by decide +kernel)) (fun _ _ _ _ _ => pg_name (i := 2) sc_widest_end.nd rfl (by first | exact Or.inl rfl | exact Or.inr rfl)) (fun _ _ _ _ _ => pts_nil) (fun _ _ _ _ _ => (pe_def (def_next_seam T) (hr.mono (by decide)) rfl (pa_cons (pv 0) (pa_cons (pv 2) (pa_cons (pv 1) pa_nil)))))) pa_nil) (pk_cons pe_non pk_nil)))), ?_⟩
    refine ⟨_, rfl, p, kk, rfl, hP, hk, fun l H1 s1 hl => ⟨l, rfl, ⟨_, SqL.of hl⟩, fun D hD => ?_⟩⟩
    have w2 := hk.w2
    have hfl : (firsts kk.doors kk.wide kk.across).length ≤ 1000 := by
      rw [firsts_fm, List.length_map]
      have := List.length_filter_le (fun i => clear kk.doors kk.wide kk.across (i + 1)) (List.range kk.wide)
      rw [List.length_range] at this
      omega
    refine lc_list_fm (K := K) (a := l) (xs := (firsts kk.doors kk.wide kk.across).map nV) (fun _ => true) (fun i => nV (nextOf kk.wide kk.across ((firsts kk.doors kk.wide kk.across).getD i 0) f)) hD (small1000 (by rw [List.length_map]; exact hfl)) (SqL.of hl) (fun i y H' R R' hi s2 h1 h2 => ?_) (fun H' s2 hl' => ?_)
    · rw [List.getElem?_map] at hi
      obtain ⟨z, hz, rfl⟩ := Option.map_eq_some_iff.mp hi
      have ez : (firsts kk.doors kk.wide kk.across).getD i 0 = z := by rw [List.getD_eq_getElem?_getD, hz]; rfl
      simp only [ez] at h1
      have hz2 := (mem_firsts.mp (List.mem_of_getElem? hz)).2.1
      exact ⟨rfl, iteT (B := R' H') ⟨_, rfl, _, rfl, _, rfl, p, kk, z, f, rfl, (hP.same s1).same s2, hk, by omega, fun H3 s3 => h1 trivial H3 s3⟩⟩
    · have hN : Nums H' D ((firsts kk.doors kk.wide kk.across).map fun o => nextOf kk.wide kk.across o f) := by
        show H' D = _
        rw [hl', List.length_map, List.filter_eq_self.mpr (fun _ _ => rfl), List.map_map]
        have q : ∀ ss : List Nat, (List.range ss.length).map (fun i => nV (nextOf kk.wide kk.across (ss.getD i 0) f)) = ss.map (nV ∘ fun o => nextOf kk.wide kk.across o f) := by
          intro ss
          refine List.ext_getElem? fun i => ?_
          rw [List.getElem?_map, List.getElem?_map]
          by_cases hi : i < ss.length
          · rw [List.getElem?_range hi, List.getElem?_eq_getElem hi]
            show some (nV (nextOf kk.wide kk.across (ss.getD i 0) f)) = some (nV (nextOf kk.wide kk.across ss[i] f))
            rw [List.getD_eq_getElem?_getD, List.getElem?_eq_getElem hi]
            rfl
          · rw [List.getElem?_eq_none (by rw [List.length_range]; omega), List.getElem?_eq_none (by omega)]
            rfl
        rw [q]
      have q1 : ∀ m ∈ (firsts kk.doors kk.wide kk.across).map (fun o => nextOf kk.wide kk.across o f), (∀ z ∈ (firsts kk.doors kk.wide kk.across).map (fun o => nextOf kk.wide kk.across o f), z ≤ m) → Q (nV m) H' := fun m hm hall => by
        obtain ⟨o, ho, rfl⟩ := List.mem_map.mp hm
        exact k1 _ H' (s1.trans s2) ⟨o, ho, nextOf_is hk.w1 o f⟩ fun o' ho' => ⟨_, nextOf_is hk.w1 o' f, hall _ (List.mem_map.mpr ⟨o', ho', rfl⟩)⟩
      obtain ⟨W, w0, wl, wk, f0, f1⟩ := nats_max (K := K) (dv := .non) (Q := Q) hN (fun hn => k0 (List.map_eq_nil_iff.mp hn) H' (s1.trans s2)) q1
      exact ⟨D, .non, _, W, rfl, rfl, w0, wl, wk, f0, f1⟩
end
end Sd

set_option Elab.async false
set_option linter.all false
set_option maxRecDepth 100000
set_option maxHeartbeats 2000000
/-! THE STEPS: one theorem a call. -/
namespace Sd
open PySem PySem.Spec PyProof.Rows L2 Kh352
theorem len0 {xs : List Nat} (h : some 0 = some xs.length) : xs = [] := List.eq_nil_of_length_eq_zero (Option.some.inj h).symm
theorem len1 {xs : List Nat} (h : some 1 = some xs.length) : ∃ a, xs = [a] := by
  match xs, Option.some.inj h with
  | [a], _ => exact ⟨a, rfl⟩
theorem len2 {xs : List Nat} (h : some 2 = some xs.length) : ∃ a b, xs = [a, b] := by
  match xs, Option.some.inj h with
  | [a, b], _ => exact ⟨a, b, rfl⟩
theorem len3 {xs : List Nat} (h : some 3 = some xs.length) : ∃ a b c, xs = [a, b, c] := by
  match xs, Option.some.inj h with
  | [a, b, c], _ => exact ⟨a, b, c, rfl⟩
/-- a step's promise, by the call's number -/
def spStep (K : PySem.W.Frag) (CP CW : Addr) (c : Nat) : Sp := fun vs H Q _ => ∃ (W l : Addr) (s : Option Abs) (xs : List Nat), vs = [.ref W, .ref l] ∧ WorksAt K CP CW H W s ∧ OptOk s ∧ (c ≠ 0 → s ≠ none) ∧ Nums H l xs ∧ argc[c]? = some xs.length ∧
  (∀ x ∈ xs, x < 4294967296) ∧ Tb K H ∧ ∀ (r : Addr) (H' : Hp), ButT W (PTb K) H H' → H r = none → WorksAt K CP CW H' W (stp s c xs).1 → Ints H' r (stp s c xs).2 → Tb K H' → Q (.ref r) H'
theorem some_of {s : Option Abs} (h : s ≠ none) : ∃ a, s = some a := by
  cases s with
  | none => exact absurd rfl h
  | some a => exact ⟨a, rfl⟩
section
variable {K : PySem.W.Frag} {CP CW W p : Addr} {H H1 : Hp} {s s' : Option Abs} {c : Nat} {xs : List Nat} {ys : List Int} {Q : VK}
theorem fin_but (k : ∀ (r : Addr) (H' : Hp), But W H H' → H r = none → WorksAt K CP CW H' W (stp s c xs).1 → Ints H' r (stp s c xs).2 → Q (.ref r) H') (e : stp s c xs = (s', ys)) (b : But W H H1) (hW : WorksAt K CP CW H1 W s') (hp : H1 p = none) : Q (.ref p) (upd H1 p (.lst (ys.map V.int))) := by
  rw [e] at k
  obtain ⟨dx, pv, l, vs, h1, _⟩ := hW.ins
  exact k p _ (b.trans (Same.but (same_upd hp))) (b.free h1 hp) (hW.same (same_upd hp)) upd_same
theorem fin_same (k : ∀ (r : Addr) (H' : Hp), But W H H' → H r = none → WorksAt K CP CW H' W (stp s c xs).1 → Ints H' r (stp s c xs).2 → Q (.ref r) H') (e : stp s c xs = (s, ys)) (b : Same H H1) (hW : WorksAt K CP CW H W s) (hp : H1 p = none) : Q (.ref p) (upd H1 p (.lst (ys.map V.int))) :=
  fin_but k e (Same.but b) (hW.same b) hp
end
theorem step_k {K : PySem.W.Frag} {CP CW W : Addr} {H : Hp} {s s' : Option Abs} {ys : List Int} {Q : VK} (hW : WorksAt K CP CW H W s) (hT : Tb K H)
    (k0 : ∀ (r : Addr) (H' : Hp), ButT W (PTb K) H H' → H r = none → WorksAt K CP CW H' W s' → Ints H' r ys → Tb K H' → Q (.ref r) H') :
    ∀ (r : Addr) (H' : Hp), But W H H' → H r = none → WorksAt K CP CW H' W s' → Ints H' r ys → Q (.ref r) H' := fun r H' b nr hW' hi => by
  obtain ⟨dx, pv, l, vs, h1, _⟩ := hW.ins
  exact k0 r H' (fun c o e n1 _ => b c o e n1) nr hW' hi (TabOk.but b (fun ps z => by rw [h1] at z; cases z) (fun φ z => by rw [h1] at z; cases z) hT)
theorem fin_tab {K : PySem.W.Frag} {CP CW W p : Addr} {H H1 : Hp} {s : Option Abs} {c : Nat} {xs : List Nat} {ys : List Int} {Q : VK}
    (k0 : ∀ (r : Addr) (H' : Hp), ButT W (PTb K) H H' → H r = none → WorksAt K CP CW H' W (stp s c xs).1 → Ints H' r (stp s c xs).2 → Tb K H' → Q (.ref r) H') (e : stp s c xs = (s, ys)) (b : But (PTb K) H H1) (hT : Tb K H) (hT1 : Tb K H1) (hW : WorksAt K CP CW H W s) (hp : H1 p = none) : Q (.ref p) (upd H1 p (.lst (ys.map V.int))) := by
  rw [e] at k0
  obtain ⟨ps, eP, _⟩ := id hT
  obtain ⟨ps1, eP1, _⟩ := id hT1
  have hp0 : H p = none := by
    cases q : H p with
    | none => rfl
    | some o =>
      by_cases z : p = PTb K
      · rw [z, eP1] at hp; cases hp
      · rw [b _ _ q z] at hp; cases hp
  exact k0 p _ (fun c o e _ n2 => (same_upd hp) _ _ (b c o e n2)) hp0 ((hW.tab eP b).same (same_upd hp)) upd_same (hT1.same (same_upd hp))
theorem Same.rfl' {H : Hp} : Same H H := fun _ _ z => z

theorem best_bound {a : Abs} {o : Nat} (ok : AbsOk a) (h : best (cur a).doors (cur a).wide (cur a).across = some o) : o < 4294967296 := by
  have := (mem_firsts.mp (best_some.mp h).1).2.1
  have := ok.now.w2
  omega
section
variable {P : Program} {w : World} {K : PySem.W.Frag} {mg : Str → Option Value} {base : Heap} {CP CW : Addr} (T : Txt K mg base CP CW)
include T

theorem def_call_begin : Def P w K mg base "call_begin" 8 ["works", "numbers"] (spStep K CP CW 0) := by
  refine T.g_call_begin.mk_def (N := ["works", "numbers", "wide", "across", "along"]) sc_call_begin bi_call_begin (fun vs H Q E h => ?_) (fun f cdv A outer s H vs Q E hr h => ?_)
  · obtain ⟨W, l, st, xs, rfl, _⟩ := h
    rfl
  · obtain ⟨W, l, st, xs, rfl, hW, hok, hne, hl, hx, hb, hT, k0⟩ := h
    have k := step_k hW hT k0
    obtain ⟨wd, x, y, rfl⟩ := len3 hx
    refine ⟨_, (pss_cons (ps_set (i := 2) sc_call_begin.nd rfl (by first | exact Or.inl rfl | exact Or.inr rfl) (pe_ix ix_list (pv 1) pe_int (fun _ _ => rfl)))
      (pss_cons (ps_set (i := 3) sc_call_begin.nd rfl (by first | exact Or.inl rfl | exact Or.inr rfl) (pe_ix ix_list (pv 1) pe_int (fun _ _ => rfl)))
      (pss_cons (ps_set (i := 4) sc_call_begin.nd rfl (by first | exact Or.inl rfl | exact Or.inr rfl) (pe_ix ix_list (pv 1) pe_int (fun _ _ => rfl)))
      (pss_cons (ps_if (pt_not (PW.pt (pw_and (pt_val (pe_def (def_is_strip_width T) (hr.mono (by decide)) rfl (pa_cons (pv 2) pa_nil))) (pw_and (pt_val (pe_def (def_is_wall_length T) (hr.mono (by decide)) rfl (pa_cons (pv 3) pa_nil))) (pw_and1 (pt_val (pe_def (def_is_wall_length T) (hr.mono (by decide)) rfl (pa_cons (pv 4) pa_nil)))))))) (pss_one (ps_ret (pe_lst (pa_cons (pe_cst T.c_NOT_AS_TOLD rfl) pa_nil)))) pss_nil)
      (pss_cons (ps_expr (pe_md (def_Works_begin_with T) T.cl_Works (hr.mono (by decide)) (pv 0) (pa_cons (pe_mk (mk_Plan T) (hr.mono (by decide)) rfl (pa_cons (pv 2) (pa_cons (pv 3) (pa_cons (pv 4) (pa_cons (pe_tup pa_nil) (pa_cons (pe_tup pa_nil) pa_nil)))))) pa_nil)))
      (pss_one (ps_ret (pe_lst (pa_cons pe_int pa_nil))))))))), ?_⟩
    refine ⟨_, rfl, l, _, _, _, rfl, rfl, SqL.of hl, rfl, _, rfl, l, _, _, _, rfl, rfl, SqL.of hl, rfl, _, rfl, l, _, _, _, rfl, rfl, SqL.of hl, rfl, ?_⟩
    refine ⟨_, rfl, _, rfl, fun b1 h1 => ⟨_, rfl, ?_⟩⟩
    cases b1 with
    | false =>
      refine iteF (iteT ⟨(szl rfl), fun r hr' => fin_same k (way_begin_no fun z => ?_) Same.rfl' hW hr'⟩)
      exact absurd (h1.mpr ⟨by omega, by omega⟩) Bool.false_ne_true
    | true =>
      refine iteT ⟨_, rfl, _, rfl, fun b2 h2 => ⟨_, rfl, ?_⟩⟩
      cases b2 with
      | false =>
        refine iteF (iteT ⟨(szl rfl), fun r hr' => fin_same k (way_begin_no fun z => ?_) Same.rfl' hW hr'⟩)
        exact absurd (h2.mpr ⟨by omega, by omega⟩) Bool.false_ne_true
      | true =>
        refine iteT ⟨_, rfl, _, rfl, fun b3 h3 => ⟨_, rfl, ?_⟩⟩
        cases b3 with
        | false =>
          refine iteT ⟨(szl rfl), fun r hr' => fin_same k (way_begin_no fun z => ?_) Same.rfl' hW hr'⟩
          exact absurd (h3.mpr ⟨by omega, by omega⟩) Bool.false_ne_true
        | true =>
          have q1 := h1.mp rfl
          have q2 := h2.mp rfl
          have q3 := h3.mp rfl
          obtain ⟨dw, pv0, l0, vs, hw, hl0⟩ := hW.ins
          refine iteF ⟨_, rfl, W, dw, _, rfl, hw, rfl, _, rfl, _, rfl, _, rfl, (szl rfl), fun t1 ht1 => ⟨(szl rfl), fun t2 ht2 => ?_⟩⟩
          have s1 := same_upd (o := .tup []) ht1
          have s2 := Same.upd (o := .tup []) s1 ht2
          intro p dx nx nd _
          refine ⟨p, dx, ⟨wd, x, y, [], []⟩, .ref t1, .ref t2, rfl, upd_same, fun H3 h4 h5 => ⟨rfl, ?_⟩⟩
          have s3 := Same.made nx nd h5
          have hP : PlanAt K CP H3 p ⟨wd, x, y, [], []⟩ := ⟨dx, .ref t1, .ref t2, h4, OpsAt.same s3 ⟨t1, [], rfl, Same.tup (same_upd ht2) (SqT.of upd_same), .nil⟩, OpsAt.same s3 ⟨t2, [], rfl, SqT.of upd_same, .nil⟩⟩
          have s13 : Same H H3 := s2.trans s3
          refine ⟨W, p, st, _, rfl, hW.same s13, hP, fun H4 b4 hW4 => ⟨(szl rfl), fun r hr' => ?_⟩⟩
          exact fin_but (ys := [0]) k (way_begin ⟨by omega, by omega, by omega, by omega, by omega, by omega⟩) ((Same.but s13).trans b4) hW4 hr'

def spRefuse (K : PySem.W.Frag) : Sp := fun vs H Q _ => ∃ (v : V) (es : List (Nat × Nat)) (l : Addr) (i j x : Nat), vs = [v, .ref l, nV x] ∧ OpsAt K H v es ∧ Nums H l [i, j] ∧ (¬ (i < j ∧ j ≤ x) → Q (.int (-22)) H) ∧ (i < j ∧ j ≤ x → 5 ≤ es.length → Q (.int (-28)) H) ∧ (i < j ∧ j ≤ x → ¬ 5 ≤ es.length → Q .non H)
theorem def_refusal_of_opening : Def P w K mg base "refusal_of_opening" 2 ["openings", "numbers", "wall"] (spRefuse K) := by
  refine T.g_refusal_of_opening.mk_def (N := ["openings", "numbers", "wall"]) sc_refusal_of_opening bi_refusal_of_opening (fun vs H Q E h => ?_) (fun f cdv A outer s H vs Q E hr h => ?_)
  · obtain ⟨v, es, l, i, j, x, rfl, _⟩ := h
    rfl
  · obtain ⟨v, es, l, i, j, x, rfl, ⟨a0, vs, rfl, hS, hPr⟩, hl, k1, k2, k3⟩ := h
    refine ⟨_, (pss_cons (ps_if (pt_not (pt_val (pe_def (def_lies_in_wall T) (hr.mono (by decide)) rfl (pa_cons (pe_ix ix_list (pv 1) pe_int (fun _ _ => rfl)) (pa_cons (pe_ix ix_list (pv 1) pe_int (fun _ _ => rfl)) (pa_cons (pv 2) pa_nil)))))) (pss_one (ps_ret (pe_cst T.c_NOT_AS_TOLD rfl))) pss_nil)
      (pss_cons (ps_if (pt_cmpR op_ge (pe_callB call_len_seq rfl T.b_len bt_len (pa_cons (pv 0) pa_nil)) (pe_cst T.c_MOST_OPENINGS rfl) (nomark _)) (pss_one (ps_ret (pe_cst T.c_TOO_MANY rfl))) pss_nil)
      (pss_one (ps_ret pe_non)))), ?_⟩
    have hlen := pr_len hPr
    refine ⟨_, rfl, l, _, _, _, rfl, rfl, SqL.of hl, rfl, _, rfl, l, _, _, _, rfl, rfl, SqL.of hl, rfl, _, rfl, _, _, _, rfl, fun b hb => ⟨b, rfl, ?_⟩⟩
    cases b with
    | false => exact iteT (k1 fun z => absurd (hb.mpr ⟨by omega, by omega⟩) Bool.false_ne_true)
    | true =>
      have q := hb.mp rfl
      refine iteF ⟨_, rfl, a0, _, rfl, .inr hS, _, _, rfl, rfl, _, rfl, ite2 (fun h1 => k2 ⟨by omega, by omega⟩ ?_) (fun h1 => k3 ⟨by omega, by omega⟩ ?_)⟩
      · have := of_decide_eq_true h1
        omega
      · intro z
        exact h1 (decide_eq_true (by omega))

theorem def_call_door : Def P w K mg base "call_door" 8 ["works", "numbers"] (spStep K CP CW 1) := by
  refine T.g_call_door.mk_def (N := ["works", "numbers", "plan", "refusal"]) sc_call_door bi_call_door (fun vs H Q E h => ?_) (fun f cdv A outer s H vs Q E hr h => ?_)
  · obtain ⟨W, l, st, xs, rfl, _⟩ := h
    rfl
  · obtain ⟨W, l, st, xs, rfl, hW, hok, hne, hl, hx, hb, hT, k0⟩ := h
    have k := step_k hW hT k0
    obtain ⟨a, rfl⟩ := some_of (hne (by decide))
    have ok : AbsOk a := hok
    obtain ⟨dw, p, l0, us, hw, hP, hl0, hU⟩ := id hW
    obtain ⟨dx, d, e, hp, hd, he⟩ := id hP
    obtain ⟨i, j, rfl⟩ := len2 hx
    refine ⟨_, (pss_cons (ps_set (i := 2) sc_call_door.nd rfl (by first | exact Or.inl rfl | exact Or.inr rfl) (pe_fld (pv 0) rfl))
      (pss_cons (ps_set (i := 3) sc_call_door.nd rfl (by first | exact Or.inl rfl | exact Or.inr rfl) (pe_def (def_refusal_of_opening T) (hr.mono (by decide)) rfl (pa_cons (pe_fld (pv 2) rfl) (pa_cons (pv 1) (pa_cons (pe_fld (pv 2) rfl) pa_nil)))))
      (pss_cons (ps_if (pt_cmpR op_notN (pv 3) pe_non (nomark _)) (pss_one (ps_ret (pe_lst (pa_cons (pv 3) pa_nil)))) pss_nil)
      (pss_cons (ps_expr (pe_md (def_Works_change_to T) T.cl_Works (hr.mono (by decide)) (pv 0) (pa_cons (pe_md (def_Plan_with_doors T) T.cl_Plan (hr.mono (by decide)) (pv 2) (pa_cons (pe_op op_catA (pe_fld (pv 2) rfl) (pe_tup (pa_cons (pe_callTy call_tuple_of rfl T.b_tuple bt_tuple (pa_cons (pv 1) pa_nil)) pa_nil))) pa_nil)) pa_nil)))
      (pss_one (ps_ret (pe_lst (pa_cons (pe_callB call_len_seq rfl T.b_len bt_len (pa_cons (pe_fld (pv 2) rfl) pa_nil)) pa_nil)))))))), ?_⟩
    refine ⟨_, rfl, W, CW, dw, _, _, rfl, hw, T.cl_Works, T.n_plan, rfl, _, rfl, p, CP, dx, _, _, rfl, hp, T.cl_Plan, T.n_doors, rfl, _, rfl, _, rfl, p, CP, dx, _, _, rfl, hp, T.cl_Plan, T.n_across, rfl, d, a.doors, l, i, j, a.across, rfl, hd, hl, fun q => ?_, fun q1 q2 => ?_, fun q1 q2 => ?_⟩
    · exact ⟨_, rfl, rfl, _, rfl, iteNT (by intro z; cases z) ⟨_, rfl, (szl rfl), fun r hr' => fin_same k (way_door_no q) Same.rfl' hW hr'⟩⟩
    · exact ⟨_, rfl, rfl, _, rfl, iteNT (by intro z; cases z) ⟨_, rfl, (szl rfl), fun r hr' => fin_same k (way_door_many q1 q2) Same.rfl' hW hr'⟩⟩
    · refine ⟨_, rfl, rfl, _, rfl, iteNS rfl ?_⟩
      refine ⟨_, rfl, W, dw, _, rfl, hw, rfl, _, rfl, p, dx, _, rfl, hp, rfl, _, rfl, p, CP, dx, _, _, rfl, hp, T.cl_Plan, T.n_doors, rfl, _, rfl, l, _, rfl, .inl ⟨SqL.of hl, fun t1 n1 => ⟨(szl rfl), fun t2 n2 => ?_⟩⟩⟩
      obtain ⟨a0, vs, rfl, hS, hPr⟩ := id hd
      have hd5 := ok.now.d
      have hlen : vs.length = a.doors.length := pr_len hPr
      have s1 : Same H (upd H t1 (.tup [nV i, nV j])) := same_upd n1
      have s2 := Same.upd (o := .tup [.ref t1]) s1 n2
      refine ⟨a0, t2, vs, [.ref t1], rfl, rfl, Same.tup s2 hS, SqT.of upd_same, ?_, fun t3 H3 s3 hS3 => ?_⟩
      · exact Nat.le_of_lt (small1000 (by show vs.length + 1 ≤ 1000; have : (cur a).doors.length = a.doors.length := rfl; omega))
      have s13 : Same H H3 := s2.trans s3
      have hO : OpAt K H3 (.ref t1) (i, j) := ⟨t1, rfl, Same.tup s3 (Same.tup (same_upd n2) (SqT.of upd_same))⟩
      refine ⟨p, _, cur a, _, rfl, hP.same s13, ⟨.ref t3, a.doors ++ [(i, j)], rfl, ⟨t3, _, rfl, hS3, pr_app (pr_imp (fun _ _ z => OpAt.same s13 z) hPr) (.cons hO .nil)⟩, rfl⟩, fun x H4 s4 nx hP4 => ?_⟩
      have s14 := s13.trans s4
      refine ⟨W, x, a, _, rfl, hW.same s14, ok.few, hP4, fun H5 b5 hW5 => ?_⟩
      obtain ⟨dx5, d5, e5, hp5, ⟨a5, vs5, rfl, hS5, hPr5⟩, he5⟩ := (hP.same s14).but (s14 _ _ hw) b5
      refine ⟨_, rfl, p, CP, dx5, _, _, rfl, hp5, T.cl_Plan, T.n_doors, rfl, a5, vs5, rfl, .inr hS5, (szl rfl), fun r hr' => ?_⟩
      rw [show vs5.length = a.doors.length from pr_len hPr5]
      exact fin_but (ys := [(a.doors.length : Int)]) k (way_door q1 q2) ((Same.but s14).trans b5) hW5 hr'

theorem def_call_side : Def P w K mg base "call_side" 8 ["works", "numbers"] (spStep K CP CW 2) := by
  refine T.g_call_side.mk_def (N := ["works", "numbers", "plan", "refusal"]) sc_call_side bi_call_side (fun vs H Q E h => ?_) (fun f cdv A outer s H vs Q E hr h => ?_)
  · obtain ⟨W, l, st, xs, rfl, _⟩ := h
    rfl
  · obtain ⟨W, l, st, xs, rfl, hW, hok, hne, hl, hx, hb, hT, k0⟩ := h
    have k := step_k hW hT k0
    obtain ⟨a, rfl⟩ := some_of (hne (by decide))
    have ok : AbsOk a := hok
    obtain ⟨dw, p, l0, us, hw, hP, hl0, hU⟩ := id hW
    obtain ⟨dx, d, e, hp, hd, he⟩ := id hP
    obtain ⟨i, j, rfl⟩ := len2 hx
    refine ⟨_, (pss_cons (ps_set (i := 2) sc_call_side.nd rfl (by first | exact Or.inl rfl | exact Or.inr rfl) (pe_fld (pv 0) rfl))
      (pss_cons (ps_set (i := 3) sc_call_side.nd rfl (by first | exact Or.inl rfl | exact Or.inr rfl) (pe_def (def_refusal_of_opening T) (hr.mono (by decide)) rfl (pa_cons (pe_fld (pv 2) rfl) (pa_cons (pv 1) (pa_cons (pe_fld (pv 2) rfl) pa_nil)))))
      (pss_cons (ps_if (pt_cmpR op_notN (pv 3) pe_non (nomark _)) (pss_one (ps_ret (pe_lst (pa_cons (pv 3) pa_nil)))) pss_nil)
      (pss_cons (ps_expr (pe_md (def_Works_change_to T) T.cl_Works (hr.mono (by decide)) (pv 0) (pa_cons (pe_md (def_Plan_with_sides T) T.cl_Plan (hr.mono (by decide)) (pv 2) (pa_cons (pe_op op_catA (pe_fld (pv 2) rfl) (pe_tup (pa_cons (pe_callTy call_tuple_of rfl T.b_tuple bt_tuple (pa_cons (pv 1) pa_nil)) pa_nil))) pa_nil)) pa_nil)))
      (pss_one (ps_ret (pe_lst (pa_cons (pe_callB call_len_seq rfl T.b_len bt_len (pa_cons (pe_fld (pv 2) rfl) pa_nil)) pa_nil)))))))), ?_⟩
    refine ⟨_, rfl, W, CW, dw, _, _, rfl, hw, T.cl_Works, T.n_plan, rfl, _, rfl, p, CP, dx, _, _, rfl, hp, T.cl_Plan, T.n_sides, rfl, _, rfl, _, rfl, p, CP, dx, _, _, rfl, hp, T.cl_Plan, T.n_along, rfl, e, a.sides, l, i, j, a.along, rfl, he, hl, fun q => ?_, fun q1 q2 => ?_, fun q1 q2 => ?_⟩
    · exact ⟨_, rfl, rfl, _, rfl, iteNT (by intro z; cases z) ⟨_, rfl, (szl rfl), fun r hr' => fin_same k (way_side_no q) Same.rfl' hW hr'⟩⟩
    · exact ⟨_, rfl, rfl, _, rfl, iteNT (by intro z; cases z) ⟨_, rfl, (szl rfl), fun r hr' => fin_same k (way_side_many q1 q2) Same.rfl' hW hr'⟩⟩
    · refine ⟨_, rfl, rfl, _, rfl, iteNS rfl ?_⟩
      refine ⟨_, rfl, W, dw, _, rfl, hw, rfl, _, rfl, p, dx, _, rfl, hp, rfl, _, rfl, p, CP, dx, _, _, rfl, hp, T.cl_Plan, T.n_sides, rfl, _, rfl, l, _, rfl, .inl ⟨SqL.of hl, fun t1 n1 => ⟨(szl rfl), fun t2 n2 => ?_⟩⟩⟩
      obtain ⟨a0, vs, rfl, hS, hPr⟩ := id he
      have hd5 := ok.now.s
      have hlen : vs.length = a.sides.length := pr_len hPr
      have s1 : Same H (upd H t1 (.tup [nV i, nV j])) := same_upd n1
      have s2 := Same.upd (o := .tup [.ref t1]) s1 n2
      refine ⟨a0, t2, vs, [.ref t1], rfl, rfl, Same.tup s2 hS, SqT.of upd_same, ?_, fun t3 H3 s3 hS3 => ?_⟩
      · exact Nat.le_of_lt (small1000 (by show vs.length + 1 ≤ 1000; have : (cur a).sides.length = a.sides.length := rfl; omega))
      have s13 : Same H H3 := s2.trans s3
      have hO : OpAt K H3 (.ref t1) (i, j) := ⟨t1, rfl, Same.tup s3 (Same.tup (same_upd n2) (SqT.of upd_same))⟩
      refine ⟨p, _, cur a, _, rfl, hP.same s13, ⟨.ref t3, a.sides ++ [(i, j)], rfl, ⟨t3, _, rfl, hS3, pr_app (pr_imp (fun _ _ z => OpAt.same s13 z) hPr) (.cons hO .nil)⟩, rfl⟩, fun x H4 s4 nx hP4 => ?_⟩
      have s14 := s13.trans s4
      refine ⟨W, x, a, _, rfl, hW.same s14, ok.few, hP4, fun H5 b5 hW5 => ?_⟩
      obtain ⟨dx5, d5, e5, hp5, hd5', ⟨a5, vs5, rfl, hS5, hPr5⟩⟩ := (hP.same s14).but (s14 _ _ hw) b5
      refine ⟨_, rfl, p, CP, dx5, _, _, rfl, hp5, T.cl_Plan, T.n_sides, rfl, a5, vs5, rfl, .inr hS5, (szl rfl), fun r hr' => ?_⟩
      rw [show vs5.length = a.sides.length from pr_len hPr5]
      exact fin_but (ys := [(a.sides.length : Int)]) k (way_side q1 q2) ((Same.but s14).trans b5) hW5 hr'

def spWithout (K : PySem.W.Frag) : Sp := fun vs H Q _ => ∃ (v : V) (es : List (Nat × Nat)) (i : Nat), vs = [v, nV i] ∧ OpsAt K H v es ∧ es.length ≤ 100 ∧ i < es.length ∧ ∀ (u : V) (H' : Hp), Same H H' → OpsAt K H' u (es.eraseIdx i) → Q u H'
theorem def_without : Def P w K mg base "without" 1 ["openings", "i"] (spWithout K) := by
  refine T.g_without.mk_def (N := ["openings", "i"]) sc_without bi_without (fun vs H Q E h => ?_) (fun f cdv A outer s H vs Q E hr h => ?_)
  · obtain ⟨v, es, i, rfl, _⟩ := h
    rfl
  · obtain ⟨v, es, i, rfl, ⟨a0, vs, rfl, hS, hPr⟩, hes, hi, k⟩ := h
    refine ⟨_, (pss_one (ps_ret (pe_op op_catA (pe_slice sl_tup (pv 0) po_none (po_some (pv 1))) (pe_slice sl_tup (pv 0) (po_some (pe_op op_add (pv 1) pe_int)) po_none)))), ?_⟩
    have hlen : vs.length = es.length := pr_len hPr
    refine ⟨_, rfl, _, rfl, _, rfl, a0, vs, rfl, hS, ?_, fun t1 n1 => ?_⟩
    · rintro ⟨-, z⟩
      rw [show (HT.sIx vs.length vs.length (some (i : Int))) = min i vs.length from HT.sIx_nat ..] at z
      omega
    have s1 := same_upd (o := .tup (cutV vs none (some (i : Int)))) n1
    refine ⟨_, rfl, _, rfl, _, _, rfl, rfl, _, rfl, a0, vs, rfl, Same.tup s1 hS, ?_, fun t2 n2 => ?_⟩
    · rintro ⟨z, -⟩
      rw [show (HT.sIx vs.length 0 (some ((i : Int) + 1))) = min (i + 1) vs.length from HT.sIx_nat vs.length 0 (i + 1)] at z
      omega
    have e1 : cutV vs none (some (i : Int)) = vs.take i := by
      unfold cutV
      rw [HT.sIx_none, HT.sIx_nat, List.drop_zero, Nat.sub_zero, show min i vs.length = i by omega]
    have e2 : cutV vs (some ((i : Int) + 1)) none = vs.drop (i + 1) := by
      unfold cutV
      rw [HT.sIx_none, show (HT.sIx vs.length 0 (some ((i : Int) + 1))) = min (i + 1) vs.length from HT.sIx_nat vs.length 0 (i + 1), show min (i + 1) vs.length = i + 1 by omega]
      exact List.take_of_length_le (by rw [List.length_drop]; exact Nat.le_refl _)
    have s2 := Same.upd (o := .tup (cutV vs (some ((i : Int) + 1)) none)) s1 n2
    refine ⟨t1, t2, _, _, rfl, rfl, Same.tup (same_upd n2) (SqT.of upd_same), SqT.of upd_same, ?_, fun t3 H3 s3 hS3 => ?_⟩
    · rw [e1, e2, List.length_take, List.length_drop]
      exact Nat.le_of_lt (small1000 (by omega))
    · refine k _ H3 (s2.trans s3) ⟨t3, _, rfl, hS3, ?_⟩
      rw [e1, e2, List.eraseIdx_eq_take_drop_succ]
      have hPr' := pr_imp (fun _ _ z => OpAt.same (s2.trans s3) z) hPr
      exact pr_app (pr_take i hPr') (pr_drop (i + 1) hPr')

theorem def_call_undoor : Def P w K mg base "call_undoor" 8 ["works", "numbers"] (spStep K CP CW 3) := by
  refine T.g_call_undoor.mk_def (N := ["works", "numbers", "plan", "i", "doors"]) sc_call_undoor bi_call_undoor (fun vs H Q E h => ?_) (fun f cdv A outer s H vs Q E hr h => ?_)
  · obtain ⟨W, l, st, xs, rfl, _⟩ := h
    rfl
  · obtain ⟨W, l, st, xs, rfl, hW, hok, hne, hl, hx, hb, hT, k0⟩ := h
    have k := step_k hW hT k0
    obtain ⟨a, rfl⟩ := some_of (hne (by decide))
    have ok : AbsOk a := hok
    obtain ⟨dw, p, l0, us, hw, hP, hl0, hU⟩ := id hW
    obtain ⟨dx, d, e, hp, hd, he⟩ := id hP
    obtain ⟨i, rfl⟩ := len1 hx
    refine ⟨_, (pss_cons (ps_set (i := 2) sc_call_undoor.nd rfl (by first | exact Or.inl rfl | exact Or.inr rfl) (pe_fld (pv 0) rfl))
      (pss_cons (ps_set (i := 3) sc_call_undoor.nd rfl (by first | exact Or.inl rfl | exact Or.inr rfl) (pe_ix ix_list (pv 1) pe_int (fun _ _ => rfl)))
      (pss_cons (ps_if (pt_cmpR op_ge (pv 3) (pe_callB call_len_seq rfl T.b_len bt_len (pa_cons (pe_fld (pv 2) rfl) pa_nil)) (nomark _)) (pss_one (ps_ret (pe_lst (pa_cons (pe_cst T.c_NO_SUCH rfl) pa_nil)))) pss_nil)
      (pss_cons (ps_set (i := 4) sc_call_undoor.nd rfl (by first | exact Or.inl rfl | exact Or.inr rfl) (pe_def (def_without T) (hr.mono (by decide)) rfl (pa_cons (pe_fld (pv 2) rfl) (pa_cons (pv 3) pa_nil))))
      (pss_cons (ps_expr (pe_md (def_Works_change_to T) T.cl_Works (hr.mono (by decide)) (pv 0) (pa_cons (pe_md (def_Plan_with_doors T) T.cl_Plan (hr.mono (by decide)) (pv 2) (pa_cons (pv 4) pa_nil)) pa_nil)))
      (pss_one (ps_ret (pe_lst (pa_cons (pe_callB call_len_seq rfl T.b_len bt_len (pa_cons (pv 4) pa_nil)) pa_nil))))))))), ?_⟩
    obtain ⟨a0, vs, rfl, hS, hPr⟩ := id hd
    have hlen : vs.length = a.doors.length := pr_len hPr
    have hd5 : a.doors.length ≤ 5 := ok.now.d
    refine ⟨_, rfl, W, CW, dw, _, _, rfl, hw, T.cl_Works, T.n_plan, rfl, _, rfl, l, _, _, _, rfl, rfl, SqL.of hl, rfl, _, rfl, _, rfl, p, CP, dx, _, _, rfl, hp, T.cl_Plan, T.n_doors, rfl, a0, vs, rfl, .inr hS, _, _, rfl, rfl, _, rfl, ite2 (fun h1 => ?_) (fun h1 => ?_)⟩
    · have := of_decide_eq_true h1
      exact ⟨(szl rfl), fun r hr' => fin_same k (way_undoor_no (by omega)) Same.rfl' hW hr'⟩
    · have hi : ¬ a.doors.length ≤ i := fun z => h1 (decide_eq_true (by omega))
      refine ⟨_, rfl, p, CP, dx, _, _, rfl, hp, T.cl_Plan, T.n_doors, rfl, _, rfl, .ref a0, a.doors, i, rfl, hd, by omega, by omega, fun u H1 s1 hu => ?_⟩
      refine ⟨_, rfl, W, dw, _, rfl, s1 _ _ hw, rfl, _, rfl, p, dx, _, rfl, s1 _ _ hp, rfl, _, rfl, ?_⟩
      refine ⟨p, _, cur a, _, rfl, hP.same s1, ⟨u, _, rfl, hu, rfl⟩, fun x H4 s4 nx hP4 => ?_⟩
      have s14 := s1.trans s4
      refine ⟨W, x, a, _, rfl, hW.same s14, ok.few, hP4, fun H5 b5 hW5 => ?_⟩
      obtain ⟨a5, vs5, rfl, hS5, hPr5⟩ := (hu.same s4).but (s14 _ _ hw) b5
      refine ⟨_, rfl, a5, vs5, rfl, .inr hS5, (szl rfl), fun r hr' => ?_⟩
      have e5 : vs5.length = a.doors.length - 1 := by
        rw [pr_len hPr5, List.length_eraseIdx_of_lt (by omega)]
      rw [e5]
      exact fin_but (ys := [((a.doors.length - 1 : Nat) : Int)]) k (way_undoor hi) ((Same.but s14).trans b5) hW5 hr'

theorem def_call_unside : Def P w K mg base "call_unside" 8 ["works", "numbers"] (spStep K CP CW 4) := by
  refine T.g_call_unside.mk_def (N := ["works", "numbers", "plan", "i", "sides"]) sc_call_unside bi_call_unside (fun vs H Q E h => ?_) (fun f cdv A outer s H vs Q E hr h => ?_)
  · obtain ⟨W, l, st, xs, rfl, _⟩ := h
    rfl
  · obtain ⟨W, l, st, xs, rfl, hW, hok, hne, hl, hx, hb, hT, k0⟩ := h
    have k := step_k hW hT k0
    obtain ⟨a, rfl⟩ := some_of (hne (by decide))
    have ok : AbsOk a := hok
    obtain ⟨dw, p, l0, us, hw, hP, hl0, hU⟩ := id hW
    obtain ⟨dx, d, e, hp, hd, he⟩ := id hP
    obtain ⟨i, rfl⟩ := len1 hx
    refine ⟨_, (pss_cons (ps_set (i := 2) sc_call_unside.nd rfl (by first | exact Or.inl rfl | exact Or.inr rfl) (pe_fld (pv 0) rfl))
      (pss_cons (ps_set (i := 3) sc_call_unside.nd rfl (by first | exact Or.inl rfl | exact Or.inr rfl) (pe_ix ix_list (pv 1) pe_int (fun _ _ => rfl)))
      (pss_cons (ps_if (pt_cmpR op_ge (pv 3) (pe_callB call_len_seq rfl T.b_len bt_len (pa_cons (pe_fld (pv 2) rfl) pa_nil)) (nomark _)) (pss_one (ps_ret (pe_lst (pa_cons (pe_cst T.c_NO_SUCH rfl) pa_nil)))) pss_nil)
      (pss_cons (ps_set (i := 4) sc_call_unside.nd rfl (by first | exact Or.inl rfl | exact Or.inr rfl) (pe_def (def_without T) (hr.mono (by decide)) rfl (pa_cons (pe_fld (pv 2) rfl) (pa_cons (pv 3) pa_nil))))
      (pss_cons (ps_expr (pe_md (def_Works_change_to T) T.cl_Works (hr.mono (by decide)) (pv 0) (pa_cons (pe_md (def_Plan_with_sides T) T.cl_Plan (hr.mono (by decide)) (pv 2) (pa_cons (pv 4) pa_nil)) pa_nil)))
      (pss_one (ps_ret (pe_lst (pa_cons (pe_callB call_len_seq rfl T.b_len bt_len (pa_cons (pv 4) pa_nil)) pa_nil))))))))), ?_⟩
    obtain ⟨a0, vs, rfl, hS, hPr⟩ := id he
    have hlen : vs.length = a.sides.length := pr_len hPr
    have hd5 : a.sides.length ≤ 5 := ok.now.s
    refine ⟨_, rfl, W, CW, dw, _, _, rfl, hw, T.cl_Works, T.n_plan, rfl, _, rfl, l, _, _, _, rfl, rfl, SqL.of hl, rfl, _, rfl, _, rfl, p, CP, dx, _, _, rfl, hp, T.cl_Plan, T.n_sides, rfl, a0, vs, rfl, .inr hS, _, _, rfl, rfl, _, rfl, ite2 (fun h1 => ?_) (fun h1 => ?_)⟩
    · have := of_decide_eq_true h1
      exact ⟨(szl rfl), fun r hr' => fin_same k (way_unside_no (by omega)) Same.rfl' hW hr'⟩
    · have hi : ¬ a.sides.length ≤ i := fun z => h1 (decide_eq_true (by omega))
      refine ⟨_, rfl, p, CP, dx, _, _, rfl, hp, T.cl_Plan, T.n_sides, rfl, _, rfl, .ref a0, a.sides, i, rfl, he, by omega, by omega, fun u H1 s1 hu => ?_⟩
      refine ⟨_, rfl, W, dw, _, rfl, s1 _ _ hw, rfl, _, rfl, p, dx, _, rfl, s1 _ _ hp, rfl, _, rfl, ?_⟩
      refine ⟨p, _, cur a, _, rfl, hP.same s1, ⟨u, _, rfl, hu, rfl⟩, fun x H4 s4 nx hP4 => ?_⟩
      have s14 := s1.trans s4
      refine ⟨W, x, a, _, rfl, hW.same s14, ok.few, hP4, fun H5 b5 hW5 => ?_⟩
      obtain ⟨a5, vs5, rfl, hS5, hPr5⟩ := (hu.same s4).but (s14 _ _ hw) b5
      refine ⟨_, rfl, a5, vs5, rfl, .inr hS5, (szl rfl), fun r hr' => ?_⟩
      have e5 : vs5.length = a.sides.length - 1 := by
        rw [pr_len hPr5, List.length_eraseIdx_of_lt (by omega)]
      rw [e5]
      exact fin_but (ys := [((a.sides.length - 1 : Nat) : Int)]) k (way_unside hi) ((Same.but s14).trans b5) hW5 hr'

theorem def_call_wide : Def P w K mg base "call_wide" 8 ["works", "numbers"] (spStep K CP CW 5) := by
  refine T.g_call_wide.mk_def (N := ["works", "numbers", "plan"]) sc_call_wide bi_call_wide (fun vs H Q E h => ?_) (fun f cdv A outer s H vs Q E hr h => ?_)
  · obtain ⟨W, l, st, xs, rfl, _⟩ := h
    rfl
  · obtain ⟨W, l, st, xs, rfl, hW, hok, hne, hl, hx, hb, hT, k0⟩ := h
    have k := step_k hW hT k0
    obtain ⟨a, rfl⟩ := some_of (hne (by decide))
    have ok : AbsOk a := hok
    obtain ⟨dw, p, l0, us, hw, hP, hl0, hU⟩ := id hW
    obtain ⟨dx, d, e, hp, hd, he⟩ := id hP
    obtain ⟨n, rfl⟩ := len1 hx
    refine ⟨_, (pss_cons (ps_set (i := 2) sc_call_wide.nd rfl (by first | exact Or.inl rfl | exact Or.inr rfl) (pe_fld (pv 0) rfl))
      (pss_cons (ps_if (pt_not (pt_val (pe_def (def_is_strip_width T) (hr.mono (by decide)) rfl (pa_cons (pe_ix ix_list (pv 1) pe_int (fun _ _ => rfl)) pa_nil)))) (pss_one (ps_ret (pe_lst (pa_cons (pe_cst T.c_NOT_AS_TOLD rfl) pa_nil)))) pss_nil)
      (pss_cons (ps_expr (pe_md (def_Works_change_to T) T.cl_Works (hr.mono (by decide)) (pv 0) (pa_cons (pe_md (def_Plan_with_wide T) T.cl_Plan (hr.mono (by decide)) (pv 2) (pa_cons (pe_ix ix_list (pv 1) pe_int (fun _ _ => rfl)) pa_nil)) pa_nil)))
      (pss_one (ps_ret (pe_lst (pa_cons (pe_fld (pv 2) rfl) pa_nil))))))), ?_⟩
    refine ⟨_, rfl, W, CW, dw, _, _, rfl, hw, T.cl_Works, T.n_plan, rfl, _, rfl, l, _, _, _, rfl, rfl, SqL.of hl, rfl, _, rfl, fun b hb' => ⟨b, rfl, ?_⟩⟩
    cases b with
    | false => exact iteT ⟨(szl rfl), fun r hr' => fin_same k (way_wide_no fun z => absurd (hb'.mpr ⟨by omega, by omega⟩) Bool.false_ne_true) Same.rfl' hW hr'⟩
    | true =>
      have q := hb'.mp rfl
      refine iteF ⟨_, rfl, W, dw, _, rfl, hw, rfl, _, rfl, p, dx, _, rfl, hp, rfl, _, rfl, l, _, _, _, rfl, rfl, SqL.of hl, rfl, ?_⟩
      refine ⟨p, _, cur a, _, rfl, hP, ⟨n, rfl, rfl⟩, fun x H4 s4 nx hP4 => ?_⟩
      refine ⟨W, x, a, _, rfl, hW.same s4, ok.few, hP4, fun H5 b5 hW5 => ?_⟩
      obtain ⟨dx5, d5, e5, hp5, hd5, he5⟩ := (hP.same s4).but (s4 _ _ hw) b5
      refine ⟨_, rfl, p, CP, dx5, _, _, rfl, hp5, T.cl_Plan, T.n_wide, rfl, (szl rfl), fun r hr' => ?_⟩
      exact fin_but (ys := [(a.wide : Int)]) k (way_wide ⟨by omega, by omega⟩) ((Same.but s4).trans b5) hW5 hr'

theorem def_call_room : Def P w K mg base "call_room" 8 ["works", "numbers"] (spStep K CP CW 6) := by
  refine T.g_call_room.mk_def (N := ["works", "numbers", "plan", "across", "along"]) sc_call_room bi_call_room (fun vs H Q E h => ?_) (fun f cdv A outer s H vs Q E hr h => ?_)
  · obtain ⟨W, l, st, xs, rfl, _⟩ := h
    rfl
  · obtain ⟨W, l, st, xs, rfl, hW, hok, hne, hl, hx, hb, hT, k0⟩ := h
    have k := step_k hW hT k0
    obtain ⟨a, rfl⟩ := some_of (hne (by decide))
    have ok : AbsOk a := hok
    obtain ⟨dw, p, l0, us, hw, hP, hl0, hU⟩ := id hW
    obtain ⟨dx, d, e, hp, hd, he⟩ := id hP
    obtain ⟨x, y, rfl⟩ := len2 hx
    refine ⟨_, (pss_cons (ps_set (i := 2) sc_call_room.nd rfl (by first | exact Or.inl rfl | exact Or.inr rfl) (pe_fld (pv 0) rfl))
      (pss_cons (ps_set (i := 3) sc_call_room.nd rfl (by first | exact Or.inl rfl | exact Or.inr rfl) (pe_ix ix_list (pv 1) pe_int (fun _ _ => rfl)))
      (pss_cons (ps_set (i := 4) sc_call_room.nd rfl (by first | exact Or.inl rfl | exact Or.inr rfl) (pe_ix ix_list (pv 1) pe_int (fun _ _ => rfl)))
      (pss_cons (ps_if (pt_not (PW.pt (pw_and (pt_val (pe_def (def_is_wall_length T) (hr.mono (by decide)) rfl (pa_cons (pv 3) pa_nil))) (pw_and1 (pt_val (pe_def (def_is_wall_length T) (hr.mono (by decide)) rfl (pa_cons (pv 4) pa_nil))))))) (pss_one (ps_ret (pe_lst (pa_cons (pe_cst T.c_NOT_AS_TOLD rfl) pa_nil)))) pss_nil)
      (pss_cons (ps_if (pt_not (PW.pt (pw_and (pt_val (pe_def (def_all_end_within T) (hr.mono (by decide)) rfl (pa_cons (pe_fld (pv 2) rfl) (pa_cons (pv 3) pa_nil)))) (pw_and1 (pt_val (pe_def (def_all_end_within T) (hr.mono (by decide)) rfl (pa_cons (pe_fld (pv 2) rfl) (pa_cons (pv 4) pa_nil)))))))) (pss_one (ps_ret (pe_lst (pa_cons (pe_cst T.c_BEYOND_WALL rfl) pa_nil)))) pss_nil)
      (pss_cons (ps_expr (pe_md (def_Works_change_to T) T.cl_Works (hr.mono (by decide)) (pv 0) (pa_cons (pe_md (def_Plan_with_room T) T.cl_Plan (hr.mono (by decide)) (pv 2) (pa_cons (pv 3) (pa_cons (pv 4) pa_nil))) pa_nil)))
      (pss_one (ps_ret (pe_lst (pa_cons (pe_fld (pv 2) rfl) (pa_cons (pe_fld (pv 2) rfl) pa_nil))))))))))), ?_⟩
    refine ⟨_, rfl, W, CW, dw, _, _, rfl, hw, T.cl_Works, T.n_plan, rfl, _, rfl, l, _, _, _, rfl, rfl, SqL.of hl, rfl, _, rfl, l, _, _, _, rfl, rfl, SqL.of hl, rfl, ?_⟩
    refine ⟨_, rfl, _, rfl, fun b1 h1 => ⟨_, rfl, ?_⟩⟩
    cases b1 with
    | false =>
      refine iteF (iteT ⟨(szl rfl), fun r hr' => fin_same k (way_room_no fun z => ?_) Same.rfl' hW hr'⟩)
      exact absurd (h1.mpr ⟨by omega, by omega⟩) Bool.false_ne_true
    | true =>
      refine iteT ⟨_, rfl, _, rfl, fun b2 h2 => ⟨_, rfl, ?_⟩⟩
      cases b2 with
      | false =>
        refine iteT ⟨(szl rfl), fun r hr' => fin_same k (way_room_no fun z => ?_) Same.rfl' hW hr'⟩
        exact absurd (h2.mpr ⟨by omega, by omega⟩) Bool.false_ne_true
      | true =>
        have q1 := h1.mp rfl
        have q2 := h2.mp rfl
        have hq : 1 ≤ x ∧ x ≤ 200 ∧ 1 ≤ y ∧ y ≤ 200 := ⟨by omega, by omega, by omega, by omega⟩
        have hd5 : a.doors.length ≤ 5 := ok.now.d
        have he5 : a.sides.length ≤ 5 := ok.now.s
        refine iteF ⟨_, rfl, p, CP, dx, _, _, rfl, hp, T.cl_Plan, T.n_doors, rfl, _, rfl, d, a.doors, _, rfl, hd, by omega, fun b3 H1 s1 h3 => ⟨b3, rfl, ?_⟩⟩
        cases b3 with
        | false =>
          refine iteF (iteT ⟨(szl rfl), fun r hr' => fin_same k (way_room_beyond hq fun z => ?_) s1 hW hr'⟩)
          exact absurd (h3.mpr fun e he => by have := z.1 e he; omega) Bool.false_ne_true
        | true =>
          refine iteT ⟨_, rfl, p, CP, dx, _, _, rfl, s1 _ _ hp, T.cl_Plan, T.n_sides, rfl, _, rfl, e, a.sides, _, rfl, he.same s1, by omega, fun b4 H2 s2 h4 => ⟨b4, rfl, ?_⟩⟩
          have s12 := s1.trans s2
          cases b4 with
          | false =>
            refine iteT ⟨(szl rfl), fun r hr' => fin_same k (way_room_beyond hq fun z => ?_) s12 hW hr'⟩
            exact absurd (h4.mpr fun e he => by have := z.2 e he; omega) Bool.false_ne_true
          | true =>
            refine iteF ⟨_, rfl, W, dw, _, rfl, s12 _ _ hw, rfl, _, rfl, p, dx, _, rfl, s12 _ _ hp, rfl, _, rfl, _, rfl, ?_⟩
            refine ⟨p, _, cur a, _, rfl, hP.same s12, ⟨x, y, rfl, rfl⟩, fun q H4 s4 nx hP4 => ?_⟩
            have s14 := s12.trans s4
            refine ⟨W, q, a, _, rfl, hW.same s14, ok.few, hP4, fun H5 b5 hW5 => ?_⟩
            obtain ⟨dx5, d5, e5, hp5, hd5, he5⟩ := (hP.same s14).but (s14 _ _ hw) b5
            refine ⟨_, rfl, p, CP, dx5, _, _, rfl, hp5, T.cl_Plan, T.n_across, rfl, _, rfl, p, CP, dx5, _, _, rfl, hp5, T.cl_Plan, T.n_along, rfl, (szl rfl), fun r hr' => ?_⟩
            exact fin_but (ys := [(a.across : Int), (a.along : Int)]) k (way_room hq (fun e he => by have := h3.mp rfl e he; omega) (fun e he => by have := h4.mp rfl e he; omega)) ((Same.but s14).trans b5) hW5 hr'

theorem def_call_back : Def P w K mg base "call_back" 8 ["works", "numbers"] (spStep K CP CW 7) := by
  refine T.g_call_back.mk_def (N := ["works", "numbers"]) sc_call_back bi_call_back (fun vs H Q E h => ?_) (fun f cdv A outer s H vs Q E hr h => ?_)
  · obtain ⟨W, l, st, xs, rfl, _⟩ := h
    rfl
  · obtain ⟨W, l, st, xs, rfl, hW, hok, hne, hl, hx, hb, hT, k0⟩ := h
    have k := step_k hW hT k0
    obtain ⟨a, rfl⟩ := some_of (hne (by decide))
    have ok : AbsOk a := hok
    obtain ⟨dw, p, l0, us, hw, hP, hl0, hU⟩ := id hW
    obtain ⟨dx, d, e, hp, hd, he⟩ := id hP
    obtain rfl := len0 hx
    refine ⟨_, (pss_cons (ps_if (pt_cmpR op_eq (pe_callB call_len_seq rfl T.b_len bt_len (pa_cons (pe_fld (pv 0) rfl) pa_nil)) pe_int (nomark _)) (pss_one (ps_ret (pe_lst (pa_cons (pe_cst T.c_NO_SUCH rfl) pa_nil)))) pss_nil)
      (pss_cons (ps_expr (pe_md0 (def_Works_take_back T) T.cl_Works (hr.mono (by decide)) (pv 0)))
      (pss_one (ps_ret (pe_lst (pa_cons (pe_callB call_len_seq rfl T.b_len bt_len (pa_cons (pe_fld (pv 0) rfl) pa_nil)) pa_nil)))))), ?_⟩
    have hlen : us.length = a.undo.length := by rw [pr_len hU, List.length_reverse]
    refine ⟨_, rfl, W, CW, dw, _, _, rfl, hw, T.cl_Works, T.n_earlier, rfl, l0, us, rfl, .inl (SqL.of hl0), rfl, _, rfl, ite2 (fun h1 => ?_) (fun h1 => ?_)⟩
    · have h2 : a.undo = [] := by
        have := of_decide_eq_true h1
        injection this with this
        exact List.eq_nil_of_length_eq_zero (by omega)
      exact ⟨(szl rfl), fun r hr' => fin_same k (way_back_no h2) Same.rfl' hW hr'⟩
    · cases hu : a.undo with
      | nil =>
        refine absurd (decide_eq_true ?_) h1
        rw [hlen, hu]
        rfl
      | cons kk u =>
        have hfew := ok.few
        rw [hu, List.length_cons] at hfew
        refine ⟨_, rfl, W, dw, _, rfl, hw, rfl, W, a, kk, u, rfl, hW, hu, by omega, fun H5 b5 hW5 => ?_⟩
        obtain ⟨dw5, p5, l5, us5, hw5, hP5, hl5, hU5⟩ := id hW5
        refine ⟨_, rfl, W, CW, dw5, _, _, rfl, hw5, T.cl_Works, T.n_earlier, rfl, l5, us5, rfl, .inl (SqL.of hl5), (szl rfl), fun r hr' => ?_⟩
        rw [show us5.length = u.length by rw [pr_len hU5, List.length_reverse]; rfl]
        exact fin_but (ys := [(u.length : Int)]) k (way_back hu) b5 hW5 hr'

theorem def_call_seams : Def P w K mg base "call_seams" 8 ["works", "numbers"] (spStep K CP CW 8) := by
  refine T.g_call_seams.mk_def (N := ["works", "numbers", "first", "seams"]) sc_call_seams bi_call_seams (fun vs H Q E h => ?_) (fun f cdv A outer s H vs Q E hr h => ?_)
  · obtain ⟨W, l, st, xs, rfl, _⟩ := h
    rfl
  · obtain ⟨W, l, st, xs, rfl, hW, hok, hne, hl, hx, hb, hT, k0⟩ := h
    have k := step_k hW hT k0
    obtain ⟨a, rfl⟩ := some_of (hne (by decide))
    have ok : AbsOk a := hok
    obtain ⟨dw, p, l0, us, hw, hP, hl0, hU⟩ := id hW
    obtain ⟨dx, d, e, hp, hd, he⟩ := id hP
    obtain ⟨o, rfl⟩ := len1 hx
    refine ⟨_, (pss_cons (ps_set (i := 2) sc_call_seams.nd rfl (by first | exact Or.inl rfl | exact Or.inr rfl) (pe_ix ix_list (pv 1) pe_int (fun _ _ => rfl)))
      (pss_cons (ps_if (pt_not (pt_val (pe_def (def_is_first_width T) (hr.mono (by decide)) rfl (pa_cons (pe_fld (pv 0) rfl) (pa_cons (pv 2) pa_nil))))) (pss_one (ps_ret (pe_lst (pa_cons (pe_cst T.c_NOT_AS_TOLD rfl) pa_nil)))) pss_nil)
      (pss_cons (ps_set (i := 3) sc_call_seams.nd rfl (by first | exact Or.inl rfl | exact Or.inr rfl) (pe_def (def_seams_of T) (hr.mono (by decide)) rfl (pa_cons (pe_fld (pv 0) rfl) (pa_cons (pv 2) pa_nil))))
      (pss_one (ps_ret (pe_op op_cat (pe_lst (pa_cons (pe_callB call_len_seq rfl T.b_len bt_len (pa_cons (pv 3) pa_nil)) pa_nil)) (pv 3))))))), ?_⟩
    have ho : o < 4294967296 := hb o List.mem_cons_self
    refine ⟨_, rfl, l, _, _, _, rfl, rfl, SqL.of hl, rfl, _, rfl, W, CW, dw, _, _, rfl, hw, T.cl_Works, T.n_plan, rfl, _, rfl, p, cur a, _, rfl, hP, fun b hb' => ⟨b, rfl, ?_⟩⟩
    cases b with
    | false => exact iteT ⟨(szl rfl), fun r hr' => fin_same k (way_seams_no fun z => absurd (hb'.mpr ⟨by omega, by have := z.2; show (o : Int) ≤ (a.wide : Int); omega⟩) Bool.false_ne_true) Same.rfl' hW hr'⟩
    | true =>
      have q := hb'.mp rfl
      have q2 : (o : Int) ≤ (a.wide : Int) := q.2
      have hq : 1 ≤ o ∧ o ≤ a.wide := ⟨by omega, by omega⟩
      refine iteF ⟨_, rfl, W, CW, dw, _, _, rfl, hw, T.cl_Works, T.n_plan, rfl, _, rfl, p, cur a, o, rfl, hP, ok.now.fit, ho, fun l1 H1 s1 h1 => ?_⟩
      refine ⟨_, rfl, l1, _, rfl, .inl (SqL.of h1), (szl rfl), fun l2 n2 => ⟨_, rfl, l2, l1, _, _, rfl, rfl, upd_same, (same_upd n2) _ _ h1, ?_, fun r hr' => ?_⟩⟩
      · rw [List.length_map, seams_len ok.now.w1]
        have := nSeams_small (w := a.wide) (x := a.across) (o := o) ok.now.x2
        exact Nat.le_of_lt (small1000 (by show 1 + nSeams a.wide a.across o ≤ 1000; omega))
      · have := fin_same (ys := ((seams a.wide a.across o).length : Int) :: (seams a.wide a.across o).map Int.ofNat) k (way_seams hq) (Same.upd (o := .lst [.int ((seams a.wide a.across o).length : Int)]) s1 n2) hW (p := r)
        rw [List.map_cons, ← nV_ofNat] at this
        rw [List.length_map] at hr' ⊢
        exact this hr'

theorem def_call_strips : Def P w K mg base "call_strips" 8 ["works", "numbers"] (spStep K CP CW 9) := by
  refine T.g_call_strips.mk_def (N := ["works", "numbers", "plan", "first", "seams", "strips"]) sc_call_strips bi_call_strips (fun vs H Q E h => ?_) (fun f cdv A outer s H vs Q E hr h => ?_)
  · obtain ⟨W, l, st, xs, rfl, _⟩ := h
    rfl
  · obtain ⟨W, l, st, xs, rfl, hW, hok, hne, hl, hx, hb, hT, k0⟩ := h
    have k := step_k hW hT k0
    obtain ⟨a, rfl⟩ := some_of (hne (by decide))
    have ok : AbsOk a := hok
    obtain ⟨dw, p, l0, us, hw, hP, hl0, hU⟩ := id hW
    obtain ⟨dx, d, e, hp, hd, he⟩ := id hP
    obtain ⟨o, rfl⟩ := len1 hx
    refine ⟨_, (pss_cons (ps_set (i := 2) sc_call_strips.nd rfl (by first | exact Or.inl rfl | exact Or.inr rfl) (pe_fld (pv 0) rfl))
      (pss_cons (ps_set (i := 3) sc_call_strips.nd rfl (by first | exact Or.inl rfl | exact Or.inr rfl) (pe_ix ix_list (pv 1) pe_int (fun _ _ => rfl)))
      (pss_cons (ps_if (pt_not (pt_val (pe_def (def_is_first_width T) (hr.mono (by decide)) rfl (pa_cons (pv 2) (pa_cons (pv 3) pa_nil))))) (pss_one (ps_ret (pe_lst (pa_cons (pe_cst T.c_NOT_AS_TOLD rfl) pa_nil)))) pss_nil)
      (pss_cons (ps_set (i := 4) sc_call_strips.nd rfl (by first | exact Or.inl rfl | exact Or.inr rfl) (pe_def (def_seams_of T) (hr.mono (by decide)) rfl (pa_cons (pv 2) (pa_cons (pv 3) pa_nil))))
      (pss_cons (ps_set (i := 5) sc_call_strips.nd rfl (by first | exact Or.inl rfl | exact Or.inr rfl) (pe_op op_add (pe_callB call_len_seq rfl T.b_len bt_len (pa_cons (pv 4) pa_nil)) pe_int))
      (pss_one (ps_ret (pe_lst (pa_cons (pv 5) (pa_cons (pe_def (def_last_width T) (hr.mono (by decide)) rfl (pa_cons (pv 2) (pa_cons (pv 4) pa_nil))) (pa_cons (pe_def (def_narrowest_width T) (hr.mono (by decide)) rfl (pa_cons (pv 2) (pa_cons (pv 3) (pa_cons (pv 4) pa_nil)))) (pa_cons (pe_def (def_carpet_needed T) (hr.mono (by decide)) rfl (pa_cons (pv 2) (pa_cons (pv 5) pa_nil))) pa_nil)))))))))))), ?_⟩
    have ho : o < 4294967296 := hb o List.mem_cons_self
    refine ⟨_, rfl, W, CW, dw, _, _, rfl, hw, T.cl_Works, T.n_plan, rfl, _, rfl, l, _, _, _, rfl, rfl, SqL.of hl, rfl, _, rfl, _, rfl, p, cur a, _, rfl, hP, fun b hb' => ⟨b, rfl, ?_⟩⟩
    cases b with
    | false => exact iteT ⟨(szl rfl), fun r hr' => fin_same k (way_strips_no fun z => absurd (hb'.mpr ⟨by omega, by have := z.2; show (o : Int) ≤ (a.wide : Int); omega⟩) Bool.false_ne_true) Same.rfl' hW hr'⟩
    | true =>
      have q := hb'.mp rfl
      have q2 : (o : Int) ≤ (a.wide : Int) := q.2
      have hq : 1 ≤ o ∧ o ≤ a.wide := ⟨by omega, by omega⟩
      refine iteF ⟨_, rfl, _, rfl, p, cur a, o, rfl, hP, ok.now.fit, ho, fun l1 H1 s1 h1 => ?_⟩
      have hP1 := hP.same s1
      refine ⟨_, rfl, l1, _, rfl, .inl (SqL.of h1), _, _, rfl, rfl, ?_⟩
      refine ⟨_, rfl, _, rfl, _, rfl, p, l1, cur a, o, rfl, hP1, ok.now.fit, h1, ?_⟩
      refine ⟨_, rfl, _, rfl, _, rfl, p, l1, cur a, o, rfl, hP1, ok.now.fit, h1, ?_⟩
      refine ⟨_, rfl, _, rfl, p, cur a, strips a.wide a.across o, ?_, hP1, ok.now.fit, ?_⟩
      · show [V.ref p, V.int _] = [V.ref p, V.int _]
        rw [List.length_map]
        rfl
      · refine ⟨(szl rfl), fun r hr' => ?_⟩
        rw [List.length_map]
        exact fin_same (ys := [(strips a.wide a.across o : Int), (last a.wide a.across o : Int), (narrow a.wide a.across o : Int), (area a.wide a.across a.along o : Int)]) k (way_strips hq) s1 hW hr'

theorem def_call_clear : Def P w K mg base "call_clear" 8 ["works", "numbers"] (spStep K CP CW 10) := by
  refine T.g_call_clear.mk_def (N := ["works", "numbers", "first"]) sc_call_clear bi_call_clear (fun vs H Q E h => ?_) (fun f cdv A outer s H vs Q E hr h => ?_)
  · obtain ⟨W, l, st, xs, rfl, _⟩ := h
    rfl
  · obtain ⟨W, l, st, xs, rfl, hW, hok, hne, hl, hx, hb, hT, k0⟩ := h
    have k := step_k hW hT k0
    obtain ⟨a, rfl⟩ := some_of (hne (by decide))
    have ok : AbsOk a := hok
    obtain ⟨dw, p, l0, us, hw, hP, hl0, hU⟩ := id hW
    obtain ⟨dx, d, e, hp, hd, he⟩ := id hP
    obtain ⟨o, rfl⟩ := len1 hx
    refine ⟨_, (pss_cons (ps_set (i := 2) sc_call_clear.nd rfl (by first | exact Or.inl rfl | exact Or.inr rfl) (pe_ix ix_list (pv 1) pe_int (fun _ _ => rfl)))
      (pss_cons (ps_if (pt_not (pt_val (pe_def (def_is_first_width T) (hr.mono (by decide)) rfl (pa_cons (pe_fld (pv 0) rfl) (pa_cons (pv 2) pa_nil))))) (pss_one (ps_ret (pe_lst (pa_cons (pe_cst T.c_NOT_AS_TOLD rfl) pa_nil)))) pss_nil)
      (pss_one (ps_ret (pe_lst (pa_cons (pe_ifExp (pt_val (pe_def (def_is_clear T) (hr.mono (by decide)) rfl (pa_cons (pe_fld (pv 0) rfl) (pa_cons (pv 2) pa_nil)))) pe_int pe_int) pa_nil)))))), ?_⟩
    have ho : o < 4294967296 := hb o List.mem_cons_self
    refine ⟨_, rfl, l, _, _, _, rfl, rfl, SqL.of hl, rfl, _, rfl, W, CW, dw, _, _, rfl, hw, T.cl_Works, T.n_plan, rfl, _, rfl, p, cur a, _, rfl, hP, fun b hb' => ⟨b, rfl, ?_⟩⟩
    cases b with
    | false => exact iteT ⟨(szl rfl), fun r hr' => fin_same k (way_clear_no fun z => absurd (hb'.mpr ⟨by omega, by have := z.2; show (o : Int) ≤ (a.wide : Int); omega⟩) Bool.false_ne_true) Same.rfl' hW hr'⟩
    | true =>
      have q := hb'.mp rfl
      have q2 : (o : Int) ≤ (a.wide : Int) := q.2
      have hq : 1 ≤ o ∧ o ≤ a.wide := ⟨by omega, by omega⟩
      refine iteF ⟨_, rfl, W, CW, dw, _, _, rfl, hw, T.cl_Works, T.n_plan, rfl, _, rfl, p, cur a, o, rfl, hP, ok.now.fit, ho, fun H1 s1 => ⟨_, rfl, ite2 (fun h1 => ⟨(szl rfl), fun r hr' => ?_⟩) (fun h1 => ⟨(szl rfl), fun r hr' => ?_⟩)⟩⟩
      · have e := way_clear hq
        rw [if_pos (show clear a.doors a.wide a.across o = true from h1)] at e
        exact fin_same (ys := [1]) k e s1 hW hr'
      · have e := way_clear hq
        rw [if_neg (show ¬ clear a.doors a.wide a.across o = true from h1)] at e
        exact fin_same (ys := [0]) k e s1 hW hr'
theorem def_call_firsts : Def P w K mg base "call_firsts" 8 ["works", "numbers"] (spStep K CP CW 11) := by
  refine T.g_call_firsts.mk_def (N := ["works", "numbers", "firsts"]) sc_call_firsts bi_call_firsts (fun vs H Q E h => ?_) (fun f cdv A outer s H vs Q E hr h => ?_)
  · obtain ⟨W, l, st, xs, rfl, _⟩ := h
    rfl
  · obtain ⟨W, l, st, xs, rfl, hW, hok, hne, hl, hx, hb, hT, k0⟩ := h
    have k := step_k hW hT k0
    obtain ⟨a, rfl⟩ := some_of (hne (by decide))
    have ok : AbsOk a := hok
    obtain ⟨dw, p, l0, us, hw, hP, hl0, hU⟩ := id hW
    obtain ⟨dx, d, e, hp, hd, he⟩ := id hP
    obtain rfl := len0 hx
    refine ⟨_, (pss_cons (ps_set (i := 2) sc_call_firsts.nd rfl (by first | exact Or.inl rfl | exact Or.inr rfl) (pe_def (def_clear_firsts T) (hr.mono (by decide)) rfl (pa_cons (pe_fld (pv 0) rfl) pa_nil)))
      (pss_one (ps_ret (pe_op op_cat (pe_lst (pa_cons (pe_callB call_len_seq rfl T.b_len bt_len (pa_cons (pv 2) pa_nil)) pa_nil)) (pv 2))))), ?_⟩
    refine ⟨_, rfl, W, CW, dw, _, _, rfl, hw, T.cl_Works, T.n_plan, rfl, p, cur a, rfl, hP, ok.now.fit, fun l1 H1 s1 h1 => ?_⟩
    refine ⟨_, rfl, l1, _, rfl, .inl (SqL.of h1), (szl rfl), fun l2 n2 => ⟨_, rfl, l2, l1, _, _, rfl, rfl, upd_same, (same_upd n2) _ _ h1, ?_, fun r hr' => ?_⟩⟩
    · have w2 := ok.now.w2
      have q : (firsts (cur a).doors (cur a).wide (cur a).across).length ≤ (cur a).wide := by
        rw [firsts_fm, List.length_map]
        have := List.length_filter_le (fun i => clear (cur a).doors (cur a).wide (cur a).across (i + 1)) (List.range (cur a).wide)
        rw [List.length_range] at this
        exact this
      exact Nat.le_of_lt (small1000 (by rw [List.length_map]; show 1 + _ ≤ 1000; omega))
    · have := fin_same (ys := ((firsts a.doors a.wide a.across).length : Int) :: (firsts a.doors a.wide a.across).map Int.ofNat) k way_firsts (Same.upd (o := .lst [.int ((firsts a.doors a.wide a.across).length : Int)]) s1 n2) hW (p := r)
      rw [List.map_cons, ← nV_ofNat] at this
      rw [List.length_map] at hr' ⊢
      exact this hr'

theorem def_call_best : Def P w K mg base "call_best" 8 ["works", "numbers"] (spStep K CP CW 12) := by
  refine T.g_call_best.mk_def (N := ["works", "numbers", "plan", "first", "seams"]) sc_call_best bi_call_best (fun vs H Q E h => ?_) (fun f cdv A outer s H vs Q E hr h => ?_)
  · obtain ⟨W, l, st, xs, rfl, _⟩ := h
    rfl
  · obtain ⟨W, l, st, xs, rfl, hW, hok, hne, hl, hx, hb, hT, k0⟩ := h
    have k := step_k hW hT k0
    obtain ⟨a, rfl⟩ := some_of (hne (by decide))
    have ok : AbsOk a := hok
    obtain ⟨dw, p, l0, us, hw, hP, hl0, hU⟩ := id hW
    obtain ⟨dx, d, e, hp, hd, he⟩ := id hP
    obtain rfl := len0 hx
    refine ⟨_, (pss_cons (ps_set (i := 2) sc_call_best.nd rfl (by first | exact Or.inl rfl | exact Or.inr rfl) (pe_fld (pv 0) rfl))
      (pss_cons (ps_set (i := 3) sc_call_best.nd rfl (by first | exact Or.inl rfl | exact Or.inr rfl) (pe_def (def_best_first T) (hr.mono (by decide)) rfl (pa_cons (pv 2) pa_nil)))
      (pss_cons (ps_if (pt_cmpR op_isN (pv 3) pe_non (nomark _)) (pss_one (ps_ret (pe_lst (pa_cons (pe_cst T.c_NONE_CLEAR rfl) pa_nil)))) pss_nil)
      (pss_cons (ps_set (i := 4) sc_call_best.nd rfl (by first | exact Or.inl rfl | exact Or.inr rfl) (pe_def (def_seams_of T) (hr.mono (by decide)) rfl (pa_cons (pv 2) (pa_cons (pv 3) pa_nil))))
      (pss_one (ps_ret (pe_lst (pa_cons (pv 3) (pa_cons (pe_op op_add (pe_callB call_len_seq rfl T.b_len bt_len (pa_cons (pv 4) pa_nil)) pe_int) (pa_cons (pe_def (def_narrowest_width T) (hr.mono (by decide)) rfl (pa_cons (pv 2) (pa_cons (pv 3) (pa_cons (pv 4) pa_nil)))) pa_nil)))))))))), ?_⟩
    refine ⟨_, rfl, W, CW, dw, _, _, rfl, hw, T.cl_Works, T.n_plan, rfl, _, rfl, p, cur a, rfl, hP, ok.now.fit, hT, fun hn H1 b1 T1 => ?_, fun o ho H1 b1 T1 => ?_⟩
    · exact ⟨_, rfl, rfl, _, rfl, iteT ⟨(szl rfl), fun r hr' => fin_tab (ys := [-33]) k0 (way_best_no hn) b1 hT T1 hW hr'⟩⟩
    · refine ⟨_, rfl, rfl, _, rfl, ite2 (fun z => absurd (of_decide_eq_true z) (by intro y; cases y)) (fun _ => ?_)⟩
      have ho2 := best_bound ok ho
      have hP1 := plan_tab hT b1 hP
      refine ⟨_, rfl, _, rfl, p, cur a, o, rfl, hP1, ok.now.fit, ho2, fun l1 H2 s2 h2 => ?_⟩
      refine ⟨_, rfl, _, rfl, l1, _, rfl, .inl (SqL.of h2), _, _, rfl, rfl, _, rfl, _, rfl, _, rfl, p, l1, cur a, o, rfl, hP1.same s2, ok.now.fit, h2, (szl rfl), fun r hr' => ?_⟩
      rw [List.length_map]
      exact fin_tab (ys := [(o : Int), (strips a.wide a.across o : Int), (narrow a.wide a.across o : Int)]) k0 (way_best ho) (fun b u e n => s2 _ _ (b1 b u e n)) hT (T1.same s2) hW hr'

theorem def_call_fewest : Def P w K mg base "call_fewest" 8 ["works", "numbers"] (spStep K CP CW 13) := by
  refine T.g_call_fewest.mk_def (N := ["works", "numbers", "first"]) sc_call_fewest bi_call_fewest (fun vs H Q E h => ?_) (fun f cdv A outer s H vs Q E hr h => ?_)
  · obtain ⟨W, l, st, xs, rfl, _⟩ := h
    rfl
  · obtain ⟨W, l, st, xs, rfl, hW, hok, hne, hl, hx, hb, hT, k0⟩ := h
    have k := step_k hW hT k0
    obtain ⟨a, rfl⟩ := some_of (hne (by decide))
    have ok : AbsOk a := hok
    obtain ⟨dw, p, l0, us, hw, hP, hl0, hU⟩ := id hW
    obtain ⟨dx, d, e, hp, hd, he⟩ := id hP
    obtain rfl := len0 hx
    refine ⟨_, (pss_cons (ps_set (i := 2) sc_call_fewest.nd rfl (by first | exact Or.inl rfl | exact Or.inr rfl) (pe_def (def_best_first T) (hr.mono (by decide)) rfl (pa_cons (pe_fld (pv 0) rfl) pa_nil)))
      (pss_cons (ps_if (pt_cmpR op_isN (pv 2) pe_non (nomark _)) (pss_one (ps_ret (pe_lst (pa_cons (pe_cst T.c_NONE_CLEAR rfl) pa_nil)))) pss_nil)
      (pss_one (ps_ret (pe_lst (pa_cons (pe_def (def_strips_by T) (hr.mono (by decide)) rfl (pa_cons (pe_fld (pv 0) rfl) (pa_cons (pv 2) pa_nil))) pa_nil)))))), ?_⟩
    refine ⟨_, rfl, W, CW, dw, _, _, rfl, hw, T.cl_Works, T.n_plan, rfl, p, cur a, rfl, hP, ok.now.fit, hT, fun hn H1 b1 T1 => ?_, fun o ho H1 b1 T1 => ?_⟩
    · exact ⟨_, rfl, rfl, _, rfl, iteT ⟨(szl rfl), fun r hr' => fin_tab (ys := [-33]) k0 (way_fewest_no hn) b1 hT T1 hW hr'⟩⟩
    · refine ⟨_, rfl, rfl, _, rfl, ite2 (fun z => absurd (of_decide_eq_true z) (by intro y; cases y)) (fun _ => ?_)⟩
      have ho2 := best_bound ok ho
      have hP1 := plan_tab hT b1 hP
      obtain ⟨ps, eP, _⟩ := id hT
      have hw1 := b1 _ _ hw (ne_of hw eP (by intro z; cases z))
      refine ⟨_, rfl, W, CW, dw, _, _, rfl, hw1, T.cl_Works, T.n_plan, rfl, _, rfl, p, cur a, o, rfl, hP1, ok.now.fit, ho2, fun H2 s2 => ⟨(szl rfl), fun r hr' => ?_⟩⟩
      exact fin_tab (ys := [(strips a.wide a.across o : Int)]) k0 (way_fewest ho) (fun b u e n => s2 _ _ (b1 b u e n)) hT (T1.same s2) hW hr'

theorem def_call_way_round : Def P w K mg base "call_way_round" 8 ["works", "numbers"] (spStep K CP CW 14) := by
  refine T.g_call_way_round.mk_def (N := ["works", "numbers", "found", "carpet", "way", "first"]) sc_call_way_round bi_call_way_round (fun vs H Q E h => ?_) (fun f cdv A outer s H vs Q E hr h => ?_)
  · obtain ⟨W, l, st, xs, rfl, _⟩ := h
    rfl
  · obtain ⟨W, l, st, xs, rfl, hW, hok, hne, hl, hx, hb, hT, k0⟩ := h
    have k := step_k hW hT k0
    obtain ⟨a, rfl⟩ := some_of (hne (by decide))
    have ok : AbsOk a := hok
    obtain ⟨dw, p, l0, us, hw, hP, hl0, hU⟩ := id hW
    obtain ⟨dx, d, e, hp, hd, he⟩ := id hP
    obtain rfl := len0 hx
    refine ⟨_, (pss_cons (ps_set (i := 2) sc_call_way_round.nd rfl (by first | exact Or.inl rfl | exact Or.inr rfl) (pe_def (def_best_way_round T) (hr.mono (by decide)) rfl (pa_cons (pe_fld (pv 0) rfl) pa_nil)))
      (pss_cons (ps_if (pt_cmpR op_isN (pv 2) pe_non (nomark _)) (pss_one (ps_ret (pe_lst (pa_cons (pe_cst T.c_NONE_CLEAR rfl) pa_nil)))) pss_nil)
      (pss_cons (ps_set (i := 3) sc_call_way_round.nd rfl (by first | exact Or.inl rfl | exact Or.inr rfl) (pe_ix ix_tup (pv 2) pe_int (fun _ _ => rfl)))
      (pss_cons (ps_set (i := 4) sc_call_way_round.nd rfl (by first | exact Or.inl rfl | exact Or.inr rfl) (pe_ix ix_tup (pv 2) pe_int (fun _ _ => rfl)))
      (pss_cons (ps_set (i := 5) sc_call_way_round.nd rfl (by first | exact Or.inl rfl | exact Or.inr rfl) (pe_ix ix_tup (pv 2) pe_int (fun _ _ => rfl)))
      (pss_one (ps_ret (pe_lst (pa_cons (pv 4) (pa_cons (pv 5) (pa_cons (pv 3) pa_nil))))))))))), ?_⟩
    refine ⟨_, rfl, W, CW, dw, _, _, rfl, hw, T.cl_Works, T.n_plan, rfl, p, cur a, rfl, hP, ok.now, hT, fun hn H1 b1 T1 => ?_, fun t ht a1 H1 b1 T1 hS => ?_⟩
    · exact ⟨_, rfl, rfl, _, rfl, iteT ⟨(szl rfl), fun r hr' => fin_tab (ys := [-33]) k0 (wr_none hn) b1 hT T1 hW hr'⟩⟩
    · refine ⟨_, rfl, rfl, _, rfl, ite2 (fun z => absurd (of_decide_eq_true z) (by intro y; cases y)) (fun _ => ?_)⟩
      refine ⟨_, rfl, a1, _, _, _, rfl, rfl, hS, rfl, _, rfl, a1, _, _, _, rfl, rfl, hS, rfl, _, rfl, a1, _, _, _, rfl, rfl, hS, rfl, _, rfl, _, rfl, _, rfl, (szl rfl), fun r hr' => ?_⟩
      exact fin_tab (ys := [(t.2.1 : Int), (t.2.2 : Int), (t.1 : Int)]) k0 (wr_some ht) b1 hT T1 hW hr'

theorem def_call_turn : Def P w K mg base "call_turn" 8 ["works", "numbers"] (spStep K CP CW 15) := by
  refine T.g_call_turn.mk_def (N := ["works", "numbers", "plan"]) sc_call_turn bi_call_turn (fun vs H Q E h => ?_) (fun f cdv A outer s H vs Q E hr h => ?_)
  · obtain ⟨W, l, st, xs, rfl, _⟩ := h
    rfl
  · obtain ⟨W, l, st, xs, rfl, hW, hok, hne, hl, hx, hb, hT, k0⟩ := h
    have k := step_k hW hT k0
    obtain ⟨a, rfl⟩ := some_of (hne (by decide))
    have ok : AbsOk a := hok
    obtain ⟨dw, p, l0, us, hw, hP, hl0, hU⟩ := id hW
    obtain ⟨dx, d, e, hp, hd, he⟩ := id hP
    obtain rfl := len0 hx
    refine ⟨_, (pss_cons (ps_set (i := 2) sc_call_turn.nd rfl (by first | exact Or.inl rfl | exact Or.inr rfl) (pe_fld (pv 0) rfl))
      (pss_cons (ps_expr (pe_md (def_Works_change_to T) T.cl_Works (hr.mono (by decide)) (pv 0) (pa_cons (pe_md0 (def_Plan_turned T) T.cl_Plan (hr.mono (by decide)) (pv 2)) pa_nil)))
      (pss_one (ps_ret (pe_lst (pa_cons (pe_fld (pv 2) rfl) pa_nil)))))), ?_⟩
    refine ⟨_, rfl, W, CW, dw, _, _, rfl, hw, T.cl_Works, T.n_plan, rfl, _, rfl, W, dw, _, rfl, hw, rfl, _, rfl, p, dx, _, rfl, hp, rfl, ?_⟩
    refine ⟨p, _, cur a, _, rfl, hP, ⟨rfl, rfl⟩, fun x H4 s4 nx hP4 => ?_⟩
    refine ⟨W, x, a, _, rfl, hW.same s4, ok.few, hP4, fun H5 b5 hW5 => ?_⟩
    obtain ⟨dx5, d5, e5, hp5, hd5, he5⟩ := (hP.same s4).but (s4 _ _ hw) b5
    refine ⟨_, rfl, p, CP, dx5, _, _, rfl, hp5, T.cl_Plan, T.n_along, rfl, (szl rfl), fun r hr' => ?_⟩
    exact fin_but (ys := [(a.along : Int)]) k way_turn ((Same.but s4).trans b5) hW5 hr'

def spAre : Sp := fun vs H Q _ => ∃ (l h : Int), vs = [.int l, .int h] ∧ ∀ b : Bool, (b = true ↔ 1 ≤ l ∧ l ≤ h ∧ h ≤ 60) → Q (.bl b) H
theorem def_are_widths : Def P w K mg base "are_widths" 2 ["low", "high"] spAre := by
  refine T.g_are_widths.mk_def (N := ["low", "high"]) sc_are_widths bi_are_widths (fun vs H Q E h => ?_) (fun f cdv A outer s H vs Q E hr h => ?_)
  · obtain ⟨l, h, rfl, _⟩ := h
    rfl
  · obtain ⟨l, h, rfl, k⟩ := h
    refine ⟨_, (pss_one (ps_ret (pe_and (pe_def (def_is_strip_width T) (hr.mono (by decide)) rfl (pa_cons (pv 0) pa_nil)) (pe_and (pe_cmpR op_le (pv 0) (pv 1) (nomark _)) (pe_one (pe_def (def_is_strip_width T) (hr.mono (by decide)) rfl (pa_cons (pv 1) pa_nil))))))), ?_⟩
    refine ⟨_, rfl, _, rfl, fun b1 h1 => ⟨b1, rfl, ?_⟩⟩
    cases b1 with
    | false => exact iteF (k false ⟨fun z => (by cases z), fun z => absurd (h1.mpr ⟨z.1, by omega⟩) Bool.false_ne_true⟩)
    | true =>
      have q1 := h1.mp rfl
      refine iteT ⟨_, rfl, _, rfl, _, _, rfl, rfl, _, rfl, ite2 (fun c => ?_) (fun c => ?_)⟩
      · have c1 := of_decide_eq_true c
        exact ⟨_, rfl, _, rfl, fun b2 h2 => k b2 ⟨fun z => ⟨q1.1, c1, (h2.mp z).2⟩, fun z => h2.mpr ⟨by omega, z.2.2⟩⟩⟩
      · exact k false ⟨fun z => (by cases z), fun z => absurd (decide_eq_true z.2.1) c⟩

theorem def_call_widths : Def P w K mg base "call_widths" 8 ["works", "numbers"] (spStep K CP CW 16) := by
  refine T.g_call_widths.mk_def (N := ["works", "numbers", "low", "high", "widths"]) sc_call_widths bi_call_widths (fun vs H Q E h => ?_) (fun f cdv A outer s H vs Q E hr h => ?_)
  · obtain ⟨W, l, st, xs, rfl, _⟩ := h
    rfl
  · obtain ⟨W, l, st, xs, rfl, hW, hok, hne, hl, hx, hb, hT, k0⟩ := h
    have k := step_k hW hT k0
    obtain ⟨a, rfl⟩ := some_of (hne (by decide))
    have ok : AbsOk a := hok
    obtain ⟨dw, p, l0, us, hw, hP, hl0, hU⟩ := id hW
    obtain ⟨dx, d, e, hp, hd, he⟩ := id hP
    obtain ⟨f, t, rfl⟩ := len2 hx
    refine ⟨_, (pss_cons (ps_set (i := 2) sc_call_widths.nd rfl (by first | exact Or.inl rfl | exact Or.inr rfl) (pe_ix ix_list (pv 1) pe_int (fun _ _ => rfl)))
      (pss_cons (ps_set (i := 3) sc_call_widths.nd rfl (by first | exact Or.inl rfl | exact Or.inr rfl) (pe_ix ix_list (pv 1) pe_int (fun _ _ => rfl)))
      (pss_cons (ps_if (pt_not (pt_val (pe_def (def_are_widths T) (hr.mono (by decide)) rfl (pa_cons (pv 2) (pa_cons (pv 3) pa_nil))))) (pss_one (ps_ret (pe_lst (pa_cons (pe_cst T.c_NOT_AS_TOLD rfl) pa_nil)))) pss_nil)
      (pss_cons (ps_set (i := 4) sc_call_widths.nd rfl (by first | exact Or.inl rfl | exact Or.inr rfl) (pe_def (def_fit_widths T) (hr.mono (by decide)) rfl (pa_cons (pe_fld (pv 0) rfl) (pa_cons (pv 2) (pa_cons (pv 3) pa_nil)))))
      (pss_one (ps_ret (pe_op op_cat (pe_lst (pa_cons (pe_callB call_len_seq rfl T.b_len bt_len (pa_cons (pv 4) pa_nil)) pa_nil)) (pv 4)))))))), ?_⟩
    refine ⟨_, rfl, l, _, _, _, rfl, rfl, SqL.of hl, rfl, _, rfl, l, _, _, _, rfl, rfl, SqL.of hl, rfl, _, rfl, _, rfl, _, _, rfl, fun b hb' => ⟨b, rfl, ?_⟩⟩
    cases b with
    | false => exact iteT ⟨(szl rfl), fun r hr' => fin_same k (way_widths_no fun z => absurd (hb'.mpr ⟨by omega, by omega, by omega⟩) Bool.false_ne_true) Same.rfl' hW hr'⟩
    | true =>
      have q := hb'.mp rfl
      have hq : 1 ≤ f ∧ f ≤ t ∧ t ≤ 60 := ⟨by omega, by omega, by omega⟩
      refine iteF ⟨_, rfl, W, CW, dw, _, _, rfl, hw, T.cl_Works, T.n_plan, rfl, _, rfl, _, rfl, p, cur a, f, t, rfl, hP, ok.now, hq, fun l1 H1 s1 h1 => ?_⟩
      refine ⟨_, rfl, l1, _, rfl, .inl (SqL.of h1), (szl rfl), fun l2 n2 => ⟨_, rfl, l2, l1, _, _, rfl, rfl, upd_same, (same_upd n2) _ _ h1, ?_, fun r hr' => ?_⟩⟩
      · have q : (fitN (cur a) f (t + 1 - f)).length ≤ t + 1 - f := by
          unfold fitN
          rw [List.length_map]
          have := List.length_filter_le (fun i => (best (cur a).doors (f + i) (cur a).across).isSome) (List.range (t + 1 - f))
          rw [List.length_range] at this
          exact this
        exact Nat.le_of_lt (small1000 (by rw [List.length_map]; show 1 + _ ≤ 1000; omega))
      · have := fin_same (ys := ((widthsN a f (t + 1 - f)).length : Int) :: (widthsN a f (t + 1 - f)).map Int.ofNat) k (way_widths hq) (Same.upd (o := .lst [.int ((widthsN a f (t + 1 - f)).length : Int)]) s1 n2) hW (p := r)
        rw [List.map_cons, ← nV_ofNat, widthsN_fitN] at this
        rw [List.length_map] at hr' ⊢
        exact this hr'

theorem def_call_best_width : Def P w K mg base "call_best_width" 8 ["works", "numbers"] (spStep K CP CW 17) := by
  refine T.g_call_best_width.mk_def (N := ["works", "numbers", "low", "high", "found", "carpet", "wide"]) sc_call_best_width bi_call_best_width (fun vs H Q E h => ?_) (fun f cdv A outer s H vs Q E hr h => ?_)
  · obtain ⟨W, l, st, xs, rfl, _⟩ := h
    rfl
  · obtain ⟨W, l, st, xs, rfl, hW, hok, hne, hl, hx, hb, hT, k0⟩ := h
    have k := step_k hW hT k0
    obtain ⟨a, rfl⟩ := some_of (hne (by decide))
    have ok : AbsOk a := hok
    obtain ⟨dw, p, l0, us, hw, hP, hl0, hU⟩ := id hW
    obtain ⟨dx, d, e, hp, hd, he⟩ := id hP
    obtain ⟨f, t, rfl⟩ := len2 hx
    refine ⟨_, (pss_cons (ps_set (i := 2) sc_call_best_width.nd rfl (by first | exact Or.inl rfl | exact Or.inr rfl) (pe_ix ix_list (pv 1) pe_int (fun _ _ => rfl)))
      (pss_cons (ps_set (i := 3) sc_call_best_width.nd rfl (by first | exact Or.inl rfl | exact Or.inr rfl) (pe_ix ix_list (pv 1) pe_int (fun _ _ => rfl)))
      (pss_cons (ps_if (pt_not (pt_val (pe_def (def_are_widths T) (hr.mono (by decide)) rfl (pa_cons (pv 2) (pa_cons (pv 3) pa_nil))))) (pss_one (ps_ret (pe_lst (pa_cons (pe_cst T.c_NOT_AS_TOLD rfl) pa_nil)))) pss_nil)
      (pss_cons (ps_set (i := 4) sc_call_best_width.nd rfl (by first | exact Or.inl rfl | exact Or.inr rfl) (pe_def (def_best_width T) (hr.mono (by decide)) rfl (pa_cons (pe_fld (pv 0) rfl) (pa_cons (pv 2) (pa_cons (pv 3) pa_nil)))))
      (pss_cons (ps_if (pt_cmpR op_isN (pv 4) pe_non (nomark _)) (pss_one (ps_ret (pe_lst (pa_cons (pe_cst T.c_NONE_CLEAR rfl) pa_nil)))) pss_nil)
      (pss_cons (ps_set (i := 5) sc_call_best_width.nd rfl (by first | exact Or.inl rfl | exact Or.inr rfl) (pe_ix ix_tup (pv 4) pe_int (fun _ _ => rfl)))
      (pss_cons (ps_set (i := 6) sc_call_best_width.nd rfl (by first | exact Or.inl rfl | exact Or.inr rfl) (pe_ix ix_tup (pv 4) pe_int (fun _ _ => rfl)))
      (pss_one (ps_ret (pe_lst (pa_cons (pv 6) (pa_cons (pv 5) pa_nil)))))))))))), ?_⟩
    refine ⟨_, rfl, l, _, _, _, rfl, rfl, SqL.of hl, rfl, _, rfl, l, _, _, _, rfl, rfl, SqL.of hl, rfl, _, rfl, _, rfl, _, _, rfl, fun b hb' => ⟨b, rfl, ?_⟩⟩
    cases b with
    | false => exact iteT ⟨(szl rfl), fun r hr' => fin_same k (way_bestWidth_no fun z => absurd (hb'.mpr ⟨by omega, by omega, by omega⟩) Bool.false_ne_true) Same.rfl' hW hr'⟩
    | true =>
      have q := hb'.mp rfl
      have hq : 1 ≤ f ∧ f ≤ t ∧ t ≤ 60 := ⟨by omega, by omega, by omega⟩
      refine iteF ⟨_, rfl, W, CW, dw, _, _, rfl, hw, T.cl_Works, T.n_plan, rfl, _, rfl, _, rfl, p, cur a, f, t, rfl, hP, ok.now, hq, hT, fun hn H1 b1 T1 => ?_, fun u hu a1 H1 b1 T1 hS => ?_⟩
      · exact ⟨_, rfl, rfl, _, rfl, iteT ⟨(szl rfl), fun r hr' => fin_tab (ys := [-33]) k0 (bw_none hq hn) b1 hT T1 hW hr'⟩⟩
      · refine ⟨_, rfl, rfl, _, rfl, ite2 (fun z => absurd (of_decide_eq_true z) (by intro y; cases y)) (fun _ => ?_)⟩
        refine ⟨_, rfl, a1, _, _, _, rfl, rfl, hS, rfl, _, rfl, a1, _, _, _, rfl, rfl, hS, rfl, _, rfl, _, rfl, (szl rfl), fun r hr' => ?_⟩
        exact fin_tab (ys := [(u.2.1 : Int), (u.1 : Int)]) k0 (bw_some hq hu) b1 hT T1 hW hr'

theorem def_call_could : Def P w K mg base "call_could" 8 ["works", "numbers"] (spStep K CP CW 18) := by
  refine T.g_call_could.mk_def (N := ["works", "numbers", "plan", "asked"]) sc_call_could bi_call_could (fun vs H Q E h => ?_) (fun f cdv A outer s H vs Q E hr h => ?_)
  · obtain ⟨W, l, st, xs, rfl, _⟩ := h
    rfl
  · obtain ⟨W, l, st, xs, rfl, hW, hok, hne, hl, hx, hb, hT, k0⟩ := h
    have k := step_k hW hT k0
    obtain ⟨a, rfl⟩ := some_of (hne (by decide))
    have ok : AbsOk a := hok
    obtain ⟨dw, p, l0, us, hw, hP, hl0, hU⟩ := id hW
    obtain ⟨dx, d, e, hp, hd, he⟩ := id hP
    obtain ⟨i, j, rfl⟩ := len2 hx
    refine ⟨_, (pss_cons (ps_set (i := 2) sc_call_could.nd rfl (by first | exact Or.inl rfl | exact Or.inr rfl) (pe_fld (pv 0) rfl))
      (pss_cons (ps_if (pt_not (pt_val (pe_def (def_lies_in_wall T) (hr.mono (by decide)) rfl (pa_cons (pe_ix ix_list (pv 1) pe_int (fun _ _ => rfl)) (pa_cons (pe_ix ix_list (pv 1) pe_int (fun _ _ => rfl)) (pa_cons (pe_fld (pv 2) rfl) pa_nil)))))) (pss_one (ps_ret (pe_lst (pa_cons (pe_cst T.c_NOT_AS_TOLD rfl) pa_nil)))) pss_nil)
      (pss_cons (ps_set (i := 3) sc_call_could.nd rfl (by first | exact Or.inl rfl | exact Or.inr rfl) (pe_md (def_Plan_with_doors T) T.cl_Plan (hr.mono (by decide)) (pv 2) (pa_cons (pe_op op_catA (pe_fld (pv 2) rfl) (pe_tup (pa_cons (pe_callTy call_tuple_of rfl T.b_tuple bt_tuple (pa_cons (pv 1) pa_nil)) pa_nil))) pa_nil)))
      (pss_one (ps_ret (pe_lst (pa_cons (pe_ifExp (pt_val (pe_def (def_some_first_is_clear T) (hr.mono (by decide)) rfl (pa_cons (pv 3) pa_nil))) pe_int pe_int) pa_nil))))))), ?_⟩
    refine ⟨_, rfl, W, CW, dw, _, _, rfl, hw, T.cl_Works, T.n_plan, rfl, _, rfl, l, _, _, _, rfl, rfl, SqL.of hl, rfl, _, rfl, l, _, _, _, rfl, rfl, SqL.of hl, rfl, _, rfl, p, CP, dx, _, _, rfl, hp, T.cl_Plan, T.n_across, rfl, _, _, _, rfl, fun b hb' => ⟨b, rfl, ?_⟩⟩
    cases b with
    | false => exact iteT ⟨(szl rfl), fun r hr' => fin_same k (way_could_no fun z => absurd (hb'.mpr ⟨by omega, by have := z.2; show (j : Int) ≤ (a.across : Int); omega⟩) Bool.false_ne_true) Same.rfl' hW hr'⟩
    | true =>
      have q := hb'.mp rfl
      have q2 : (j : Int) ≤ (a.across : Int) := q.2
      have hq : i < j ∧ j ≤ a.across := ⟨by omega, by omega⟩
      refine iteF ⟨_, rfl, p, dx, _, rfl, hp, rfl, _, rfl, p, CP, dx, _, _, rfl, hp, T.cl_Plan, T.n_doors, rfl, _, rfl, l, _, rfl, .inl ⟨SqL.of hl, fun t1 n1 => ⟨(szl rfl), fun t2 n2 => ?_⟩⟩⟩
      obtain ⟨a0, vs, rfl, hS, hPr⟩ := id hd
      have hd5 := ok.now.d
      have hlen : vs.length = a.doors.length := pr_len hPr
      have s1 : Same H (upd H t1 (.tup [nV i, nV j])) := same_upd n1
      have s2 := Same.upd (o := .tup [.ref t1]) s1 n2
      have hd6 : a.doors.length ≤ 5 := hd5
      refine ⟨a0, t2, vs, [.ref t1], rfl, rfl, Same.tup s2 hS, SqT.of upd_same, ?_, fun t3 H3 s3 hS3 => ?_⟩
      · exact Nat.le_of_lt (small1000 (by show vs.length + 1 ≤ 1000; omega))
      have s13 : Same H H3 := s2.trans s3
      have hO : OpAt K H3 (.ref t1) (i, j) := ⟨t1, rfl, Same.tup s3 (Same.tup (same_upd n2) (SqT.of upd_same))⟩
      refine ⟨p, _, cur a, _, rfl, hP.same s13, ⟨.ref t3, a.doors ++ [(i, j)], rfl, ⟨t3, _, rfl, hS3, pr_app (pr_imp (fun _ _ z => OpAt.same s13 z) hPr) (.cons hO .nil)⟩, rfl⟩, fun x H4 s4 nx hP4 => ?_⟩
      have fit6 : Fit ⟨(cur a).wide, (cur a).across, (cur a).along, a.doors ++ [(i, j)], (cur a).sides⟩ := ⟨ok.now.w1, ok.now.w2, ok.now.x2, ok.now.y2, by rw [List.length_append, List.length_singleton]; omega⟩
      refine ⟨_, rfl, x, _, rfl, hP4, fit6, fun H5 s5 => ⟨_, rfl, ite2 (fun h1 => ⟨(szl rfl), fun r hr' => ?_⟩) (fun h1 => ⟨(szl rfl), fun r hr' => ?_⟩)⟩⟩
      · have e := way_could hq
        rw [if_pos (show (best (a.doors ++ [(i, j)]) a.wide a.across).isSome = true from h1)] at e
        exact fin_same (ys := [1]) k e (s13.trans (s4.trans s5)) hW hr'
      · have e := way_could hq
        rw [if_neg (show ¬ (best (a.doors ++ [(i, j)]) a.wide a.across).isSome = true from h1)] at e
        exact fin_same (ys := [0]) k e (s13.trans (s4.trans s5)) hW hr'

theorem def_call_widest : Def P w K mg base "call_widest" 8 ["works", "numbers"] (spStep K CP CW 19) := by
  refine T.g_call_widest.mk_def (N := ["works", "numbers", "low", "end"]) sc_call_widest bi_call_widest (fun vs H Q E h => ?_) (fun f cdv A outer s H vs Q E hr h => ?_)
  · obtain ⟨W, l, st, xs, rfl, _⟩ := h
    rfl
  · obtain ⟨W, l, st, xs, rfl, hW, hok, hne, hl, hx, hb, hT, k0⟩ := h
    have k := step_k hW hT k0
    obtain ⟨a, rfl⟩ := some_of (hne (by decide))
    have ok : AbsOk a := hok
    obtain ⟨dw, p, l0, us, hw, hP, hl0, hU⟩ := id hW
    obtain ⟨dx, d, e, hp, hd, he⟩ := id hP
    obtain ⟨f, rfl⟩ := len1 hx
    refine ⟨_, (pss_cons (ps_set (i := 2) sc_call_widest.nd rfl (by first | exact Or.inl rfl | exact Or.inr rfl) (pe_ix ix_list (pv 1) pe_int (fun _ _ => rfl)))
      (pss_cons (ps_if (pt_cmpR op_ge (pv 2) (pe_fld (pe_fld (pv 0) rfl) rfl) (nomark _)) (pss_one (ps_ret (pe_lst (pa_cons (pe_cst T.c_NOT_AS_TOLD rfl) pa_nil)))) pss_nil)
      (pss_cons (ps_set (i := 3) sc_call_widest.nd rfl (by first | exact Or.inl rfl | exact Or.inr rfl) (pe_def (def_widest_end T) (hr.mono (by decide)) rfl (pa_cons (pe_fld (pv 0) rfl) (pa_cons (pv 2) pa_nil))))
      (pss_cons (ps_if (pt_cmpR op_isN (pv 3) pe_non (nomark _)) (pss_one (ps_ret (pe_lst (pa_cons (pe_cst T.c_NONE_CLEAR rfl) pa_nil)))) pss_nil)
      (pss_one (ps_ret (pe_lst (pa_cons (pv 3) pa_nil)))))))), ?_⟩
    refine ⟨_, rfl, l, _, _, _, rfl, rfl, SqL.of hl, rfl, _, rfl, _, rfl, W, CW, dw, _, _, rfl, hw, T.cl_Works, T.n_plan, rfl, p, CP, dx, _, _, rfl, hp, T.cl_Plan, T.n_across, rfl, _, _, rfl, rfl, _, rfl, ite2 (fun h1 => ?_) (fun h1 => ?_)⟩
    · have q : ((a.across : Nat) : Int) ≤ (f : Int) := of_decide_eq_true h1
      exact ⟨(szl rfl), fun r hr' => fin_same k (way_widest_no (by omega)) Same.rfl' hW hr'⟩
    · have q : ¬ a.across ≤ f := fun z => h1 (decide_eq_true (by show ((a.across : Nat) : Int) ≤ (f : Int); omega))
      refine ⟨_, rfl, W, CW, dw, _, _, rfl, hw, T.cl_Works, T.n_plan, rfl, _, rfl, p, cur a, f, rfl, hP, ok.now.fit, fun hn H1 s1 => ?_, fun m H1 s1 e1 e2 => ?_⟩
      · exact ⟨_, rfl, rfl, _, rfl, iteT ⟨(szl rfl), fun r hr' => fin_same (ys := [-33]) k (way_widest_none q (ends_empty hn)) s1 hW hr'⟩⟩
      · refine ⟨_, rfl, rfl, _, rfl, ite2 (fun z => absurd (of_decide_eq_true z) (by intro y; cases y)) (fun _ => ⟨_, rfl, (szl rfl), fun r hr' => ?_⟩)⟩
        exact fin_same (ys := [(m : Int)]) k (way_widest q (ends_by (Nat.lt_of_not_le q) e1 e2)) s1 hW hr'

theorem def_call_hits : Def P w K mg base "call_hits" 8 ["works", "numbers"] (spStep K CP CW 20) := by
  refine T.g_call_hits.mk_def (N := ["works", "numbers", "first", "doors"]) sc_call_hits bi_call_hits (fun vs H Q E h => ?_) (fun f cdv A outer s H vs Q E hr h => ?_)
  · obtain ⟨W, l, st, xs, rfl, _⟩ := h
    rfl
  · obtain ⟨W, l, st, xs, rfl, hW, hok, hne, hl, hx, hb, hT, k0⟩ := h
    have k := step_k hW hT k0
    obtain ⟨a, rfl⟩ := some_of (hne (by decide))
    have ok : AbsOk a := hok
    obtain ⟨dw, p, l0, us, hw, hP, hl0, hU⟩ := id hW
    obtain ⟨dx, d, e, hp, hd, he⟩ := id hP
    obtain ⟨o, rfl⟩ := len1 hx
    refine ⟨_, (pss_cons (ps_set (i := 2) sc_call_hits.nd rfl (by first | exact Or.inl rfl | exact Or.inr rfl) (pe_ix ix_list (pv 1) pe_int (fun _ _ => rfl)))
      (pss_cons (ps_if (pt_not (pt_val (pe_def (def_is_first_width T) (hr.mono (by decide)) rfl (pa_cons (pe_fld (pv 0) rfl) (pa_cons (pv 2) pa_nil))))) (pss_one (ps_ret (pe_lst (pa_cons (pe_cst T.c_NOT_AS_TOLD rfl) pa_nil)))) pss_nil)
      (pss_cons (ps_set (i := 3) sc_call_hits.nd rfl (by first | exact Or.inl rfl | exact Or.inr rfl) (pe_def (def_hit_doors T) (hr.mono (by decide)) rfl (pa_cons (pe_fld (pv 0) rfl) (pa_cons (pv 2) pa_nil))))
      (pss_one (ps_ret (pe_op op_cat (pe_lst (pa_cons (pe_callB call_len_seq rfl T.b_len bt_len (pa_cons (pv 3) pa_nil)) pa_nil)) (pv 3))))))), ?_⟩
    have ho : o < 4294967296 := hb o List.mem_cons_self
    refine ⟨_, rfl, l, _, _, _, rfl, rfl, SqL.of hl, rfl, _, rfl, W, CW, dw, _, _, rfl, hw, T.cl_Works, T.n_plan, rfl, _, rfl, p, cur a, _, rfl, hP, fun b hb' => ⟨b, rfl, ?_⟩⟩
    cases b with
    | false => exact iteT ⟨(szl rfl), fun r hr' => fin_same k (way_hits_no fun z => absurd (hb'.mpr ⟨by omega, by have := z.2; show (o : Int) ≤ (a.wide : Int); omega⟩) Bool.false_ne_true) Same.rfl' hW hr'⟩
    | true =>
      have q := hb'.mp rfl
      have q2 : (o : Int) ≤ (a.wide : Int) := q.2
      have hq : 1 ≤ o ∧ o ≤ a.wide := ⟨by omega, by omega⟩
      refine iteF ⟨_, rfl, W, CW, dw, _, _, rfl, hw, T.cl_Works, T.n_plan, rfl, _, rfl, p, cur a, o, rfl, hP, ok.now.fit, ho, fun l1 H1 s1 h1 => ?_⟩
      refine ⟨_, rfl, l1, _, rfl, .inl (SqL.of h1), (szl rfl), fun l2 n2 => ⟨_, rfl, l2, l1, _, _, rfl, rfl, upd_same, (same_upd n2) _ _ h1, ?_, fun r hr' => ?_⟩⟩
      · have hd5 : a.doors.length ≤ 5 := ok.now.d
        have q : (hitsK (cur a) o).length ≤ a.doors.length := by
          unfold hitsK
          have := List.length_filter_le (fun i => !clear (((cur a).doors[i]?).toList) (cur a).wide (cur a).across o) (List.range (cur a).doors.length)
          rw [List.length_range] at this
          exact this
        exact Nat.le_of_lt (small1000 (by rw [List.length_map]; show 1 + _ ≤ 1000; omega))
      · have := fin_same (ys := ((hitsOf a o).length : Int) :: (hitsOf a o).map Int.ofNat) k (way_hits hq) (Same.upd (o := .lst [.int ((hitsOf a o).length : Int)]) s1 n2) hW (p := r)
        rw [List.map_cons, ← nV_ofNat, hits_hitsK] at this
        rw [List.length_map] at hr' ⊢
        exact this hr'

theorem def_call_state : Def P w K mg base "call_state" 8 ["works", "numbers"] (spStep K CP CW 21) := by
  refine T.g_call_state.mk_def (N := ["works", "numbers", "plan"]) sc_call_state bi_call_state (fun vs H Q E h => ?_) (fun f cdv A outer s H vs Q E hr h => ?_)
  · obtain ⟨W, l, st, xs, rfl, _⟩ := h
    rfl
  · obtain ⟨W, l, st, xs, rfl, hW, hok, hne, hl, hx, hb, hT, k0⟩ := h
    have k := step_k hW hT k0
    obtain ⟨a, rfl⟩ := some_of (hne (by decide))
    have ok : AbsOk a := hok
    obtain ⟨dw, p, l0, us, hw, hP, hl0, hU⟩ := id hW
    obtain ⟨dx, d, e, hp, hd, he⟩ := id hP
    obtain rfl := len0 hx
    refine ⟨_, (pss_cons (ps_set (i := 2) sc_call_state.nd rfl (by first | exact Or.inl rfl | exact Or.inr rfl) (pe_fld (pv 0) rfl))
      (pss_one (ps_ret (pe_lst (pa_cons (pe_fld (pv 2) rfl) (pa_cons (pe_fld (pv 2) rfl) (pa_cons (pe_fld (pv 2) rfl) (pa_cons (pe_callB call_len_seq rfl T.b_len bt_len (pa_cons (pe_fld (pv 2) rfl) pa_nil)) (pa_cons (pe_callB call_len_seq rfl T.b_len bt_len (pa_cons (pe_fld (pv 2) rfl) pa_nil)) (pa_cons (pe_callB call_len_seq rfl T.b_len bt_len (pa_cons (pe_fld (pv 0) rfl) pa_nil)) pa_nil)))))))))), ?_⟩
    obtain ⟨a0, vs, rfl, hS, hPr⟩ := id hd
    obtain ⟨a1, vs1, rfl, hS1, hPr1⟩ := id he
    have e0 : vs.length = a.doors.length := pr_len hPr
    have e1 : vs1.length = a.sides.length := pr_len hPr1
    have e2 : us.length = a.undo.length := by rw [pr_len hU, List.length_reverse]
    refine ⟨_, rfl, W, CW, dw, _, _, rfl, hw, T.cl_Works, T.n_plan, rfl, _, rfl, p, CP, dx, _, _, rfl, hp, T.cl_Plan, T.n_wide, rfl, _, rfl, p, CP, dx, _, _, rfl, hp, T.cl_Plan, T.n_across, rfl, _, rfl, p, CP, dx, _, _, rfl, hp, T.cl_Plan, T.n_along, rfl, _, rfl, p, CP, dx, _, _, rfl, hp, T.cl_Plan, T.n_doors, rfl, a0, vs, rfl, .inr hS, _, rfl, p, CP, dx, _, _, rfl, hp, T.cl_Plan, T.n_sides, rfl, a1, vs1, rfl, .inr hS1, _, rfl, W, CW, dw, _, _, rfl, hw, T.cl_Works, T.n_earlier, rfl, l0, us, rfl, .inl (SqL.of hl0), (szl rfl), fun r hr' => ?_⟩
    rw [e0, e1, e2]
    exact fin_same (ys := [(a.wide : Int), (a.across : Int), (a.along : Int), (a.doors.length : Int), (a.sides.length : Int), (a.undo.length : Int)]) k way_state Same.rfl' hW hr'
end
end Sd

set_option Elab.async false
set_option linter.all false
set_option maxRecDepth 100000
set_option maxHeartbeats 2000000
/-! ONE CALL'S ANSWER; ALL THE ANSWERS. -/
namespace Sd
open PySem PySem.Spec PyProof.Rows L2 Kh352
theorem Def.isFn {X : Cx} {x : Str} {k : Nat} {ps : List Str} {sp : Sp} {f : Addr} (D : Def X.prog X.w X.K X.mg X.base x k ps sp) (hm : X.mg x = some (.ref f)) (hr : Room k X.A) : IsFn X f sp := by
  obtain ⟨f', fd, F, hm', hk, hb⟩ := D.ex
  rw [hm'] at hm
  cases hm
  exact ⟨k, fd, ps, F, hr, hk, hb⟩
theorem steps_at {X : Cx} {CP CW : Addr} (T : Txt X.K X.mg X.base CP CW) (hr : Room 8 X.A) : ∃ a : Addr, Cst X.mg "STEPS" (.ref a) ∧ ∃ vs : List V, vs.length = 22 ∧ (∀ H : Hp, SqT X.K H a vs) ∧ ∀ c : Nat, c < 22 → ∃ f, vs[c]? = some (.ref f) ∧ IsFn X f (spStep X.K CP CW c) := by
  obtain ⟨a, f0, f1, f2, f3, f4, f5, f6, f7, f8, f9, f10, f11, f12, f13, f14, f15, f16, f17, f18, f19, f20, f21, hC, hS, m0, m1, m2, m3, m4, m5, m6, m7, m8, m9, m10, m11, m12, m13, m14, m15, m16, m17, m18, m19, m20, m21⟩ := T.c_STEPS
  refine ⟨a, hC, _, rfl, hS, fun c hc => ?_⟩
  match c, hc with
  | 0, _ => exact ⟨f0, rfl, (def_call_begin T).isFn m0 hr⟩
  | 1, _ => exact ⟨f1, rfl, (def_call_door T).isFn m1 hr⟩
  | 2, _ => exact ⟨f2, rfl, (def_call_side T).isFn m2 hr⟩
  | 3, _ => exact ⟨f3, rfl, (def_call_undoor T).isFn m3 hr⟩
  | 4, _ => exact ⟨f4, rfl, (def_call_unside T).isFn m4 hr⟩
  | 5, _ => exact ⟨f5, rfl, (def_call_wide T).isFn m5 hr⟩
  | 6, _ => exact ⟨f6, rfl, (def_call_room T).isFn m6 hr⟩
  | 7, _ => exact ⟨f7, rfl, (def_call_back T).isFn m7 hr⟩
  | 8, _ => exact ⟨f8, rfl, (def_call_seams T).isFn m8 hr⟩
  | 9, _ => exact ⟨f9, rfl, (def_call_strips T).isFn m9 hr⟩
  | 10, _ => exact ⟨f10, rfl, (def_call_clear T).isFn m10 hr⟩
  | 11, _ => exact ⟨f11, rfl, (def_call_firsts T).isFn m11 hr⟩
  | 12, _ => exact ⟨f12, rfl, (def_call_best T).isFn m12 hr⟩
  | 13, _ => exact ⟨f13, rfl, (def_call_fewest T).isFn m13 hr⟩
  | 14, _ => exact ⟨f14, rfl, (def_call_way_round T).isFn m14 hr⟩
  | 15, _ => exact ⟨f15, rfl, (def_call_turn T).isFn m15 hr⟩
  | 16, _ => exact ⟨f16, rfl, (def_call_widths T).isFn m16 hr⟩
  | 17, _ => exact ⟨f17, rfl, (def_call_best_width T).isFn m17 hr⟩
  | 18, _ => exact ⟨f18, rfl, (def_call_could T).isFn m18 hr⟩
  | 19, _ => exact ⟨f19, rfl, (def_call_widest T).isFn m19 hr⟩
  | 20, _ => exact ⟨f20, rfl, (def_call_hits T).isFn m20 hr⟩
  | 21, _ => exact ⟨f21, rfl, (def_call_state T).isFn m21 hr⟩
  | n + 22, h => exact absurd h (by omega)

/-- one call's promise -/
def spAnswer (K : PySem.W.Frag) (CP CW : Addr) : Sp := fun vs H Q _ => ∃ (W l : Addr) (c : Nat) (s : Option Abs) (xs : List Nat), vs = [.ref W, nV c, .ref l] ∧ WorksAt K CP CW H W s ∧ OptOk s ∧ c < 22 ∧ Nums H l xs ∧ argc[c]? = some xs.length ∧
  (∀ x ∈ xs, x < 4294967296) ∧ Tb K H ∧ ∀ (r : Addr) (H' : Hp), ButT W (PTb K) H H' → H r = none → WorksAt K CP CW H' W (stp s c xs).1 → Ints H' r (stp s c xs).2 → Tb K H' → Q (.ref r) H'
section
variable {P : Program} {w : World} {K : PySem.W.Frag} {mg : Str → Option Value} {base : Heap} {CP CW : Addr} (T : Txt K mg base CP CW)
include T
theorem def_answer : Def P w K mg base "answer" 9 ["works", "call", "numbers"] (spAnswer K CP CW) := by
  refine T.g_answer.mk_def (N := ["works", "call", "numbers", "step"]) sc_answer bi_answer (fun vs H Q E h => ?_) (fun f cdv A outer s H vs Q E hr h => ?_)
  · obtain ⟨W, l, c, st, xs, rfl, _⟩ := h
    rfl
  · obtain ⟨W, l, c, st, xs, rfl, hW, hok, hc, hl, hx, hb, hT, k0⟩ := h
    have k := step_k hW hT k0
    obtain ⟨aS, c_STEPS, vS, hvl, hvs, hfn⟩ := steps_at (X := (cxOf CX0 P w K mg base ["works", "call", "numbers", "step"] "answer" (defScope st_answer) f cdv A outer s H E).nox) T hr
    refine ⟨_, (pss_cons (ps_if (PW.pt (pw_and (pt_cmpR op_isN (pe_fld (pv 0) rfl) pe_non (nomark _)) (pw_and1 (pt_cmpR op_ne (pv 1) (pe_cst T.c_BEGIN rfl) (nomark _))))) (pss_one (ps_ret (pe_lst (pa_cons (pe_cst T.c_NOT_BEGUN rfl) pa_nil)))) pss_nil)
      (pss_cons (ps_set (i := 3) sc_answer.nd rfl (by first | exact Or.inl rfl | exact Or.inr rfl) (pe_ix ix_tup (pe_cst c_STEPS rfl) (pv 1) (fun _ _ => rfl)))
      (pss_one (ps_ret (pe_callV (pv 3) (pa_cons (pv 0) (pa_cons (pv 2) pa_nil))))))), ?_⟩
    obtain ⟨f1, hf1, hF⟩ := hfn c (by omega)
    cases st with
    | none =>
      obtain ⟨dw, l0, hw, hl0⟩ := id hW
      refine ⟨_, rfl, W, CW, dw, _, _, rfl, hw, T.cl_Works, T.n_plan, rfl, rfl, _, rfl, iteT ⟨_, rfl, rfl, _, rfl, ?_⟩⟩
      by_cases h0 : c = 0
      · subst h0
        refine iteNS rfl ⟨_, rfl, aS, _, _, _, rfl, rfl, hvs _, atI_nat hf1, ?_⟩
        exact ⟨_, rfl, f1, _, rfl, hF, _, rfl, _, rfl, W, l, none, xs, rfl, hW, hok, fun z => absurd rfl z, hl, hx, hb, hT, k0⟩
      · refine iteNT (fun z => h0 ?_) ⟨(szl rfl), fun r hr' => fin_same (ys := [-61]) k (stp_none h0 hc hx) Same.rfl' hW hr'⟩
        injection z with z
        omega
    | some a =>
      obtain ⟨dw, p, l0, us, hw, hP, hl0, hU⟩ := id hW
      refine ⟨_, rfl, W, CW, dw, _, _, rfl, hw, T.cl_Works, T.n_plan, rfl, rfl, _, rfl, ite2 (fun z => absurd (of_decide_eq_true z) (by intro y; cases y)) (fun _ => iteF ?_)⟩
      refine ⟨_, rfl, aS, _, _, _, rfl, rfl, hvs _, atI_nat hf1, ?_⟩
      exact ⟨_, rfl, f1, _, rfl, hF, _, rfl, _, rfl, W, l, some a, xs, rfl, hW, hok, (fun _ z => by cases z), hl, hx, hb, hT, k0⟩
/-- all the answers -/
def spAnswers (K : PySem.W.Frag) : Sp := fun vs H Q _ => ∃ (a : Addr) (ns : List Int), vs = [.ref a] ∧ SqL K H a (ns.map V.int) ∧ Tb K H ∧ PyKh352.answers_asked ns = true ∧ ∀ (H' : Hp) (p : Addr), H' p = some (.lst ((PyKh352.answers ns).map V.int)) → Q (.ref p) H'
omit T in
theorem argc_at {c n : Nat} (h : argc[c]? = some n) : atI (argc.map nV) (c : Int) = some (nV n) := atI_nat (by rw [List.getElem?_map, h]; rfl)
omit T in
theorem cut_at {ns : List Int} {xs : List Nat} {place n : Nat} (h : place + 1 + n ≤ ns.length) (e : (ns.drop (place + 1)).take n = xs.map Int.ofNat) : cutV (ns.map V.int) (some ((place : Int) + 1)) (some (((place : Int) + 1) + (n : Int))) = xs.map nV := by
  unfold cutV
  rw [show ((place : Int) + 1) = ((place + 1 : Nat) : Int) by omega, show (((place + 1 : Nat) : Int) + (n : Int)) = ((place + 1 + n : Nat) : Int) by omega, HT.sIx_nat, HT.sIx_nat, List.length_map,
    show min (place + 1) ns.length = place + 1 by omega, show min (place + 1 + n) ns.length = place + 1 + n by omega, show place + 1 + n - (place + 1) = n by omega, ← List.map_drop, ← List.map_take, e, nV_ofNat]
def placeOf (σ : List (Option V)) : Nat := match σ with
  | _ :: _ :: _ :: some (V.int z) :: _ => z.toNat
  | _ => 0
theorem ok_answers {f : Addr} {fd : FuncData} (F : Fun K "answers" "answers" st_answers f fd) : FnOk P w K mg base CX0 10 f fd ["calls"] (spAnswers K) := by
  refine F.ok (N := ["calls", "works", "told", "place", "call", "behind", "numbers"]) sc_answers (fun vs H Q E h => ?_) (fun cdv A outer s H vs Q E hr h => ?_)
  · obtain ⟨a, ns, rfl, _⟩ := h
    rfl
  · obtain ⟨a, ns, rfl, hS, hTb, hask, k⟩ := h
    obtain ⟨T0, hshort, hne⟩ := asked_parts hask
    obtain ⟨aC, c_ARGUMENT_COUNTS, hCs⟩ := T.c_ARGUMENT_COUNTS
    refine ⟨_, (pss_cons (ps_set (i := 1) sc_answers.nd rfl (by first | exact Or.inl rfl | exact Or.inr rfl) (pe_mk0 (mk_Works T) (hr.mono (by decide)) rfl))
      (pss_cons (ps_set (i := 2) sc_answers.nd rfl (by first | exact Or.inl rfl | exact Or.inr rfl) (pe_lst pa_nil))
      (pss_cons (ps_set (i := 3) sc_answers.nd rfl (by first | exact Or.inl rfl | exact Or.inr rfl) pe_int)
      (pss_cons (ps_while PassesOwn.never (pt_cmpR op_lt (pv 3) (pe_callB call_len_seq rfl T.b_len bt_len (pa_cons (pv 0) pa_nil)) (nomark _)) (pss_cons (ps_set (i := 4) sc_answers.nd rfl (by first | exact Or.inl rfl | exact Or.inr rfl) (pe_ix ix_list (pv 0) (pv 3) (fun _ _ => rfl)))
      (pss_cons (ps_set (i := 5) sc_answers.nd rfl (by first | exact Or.inl rfl | exact Or.inr rfl) (pe_op op_add (pe_op op_add (pv 3) pe_int) (pe_ix ix_tup (pe_cst c_ARGUMENT_COUNTS rfl) (pv 4) (fun _ _ => rfl))))
      (pss_cons (ps_set (i := 6) sc_answers.nd rfl (by first | exact Or.inl rfl | exact Or.inr rfl) (pe_lock (pe_def (def_answer T) (hr.mono (by decide)) rfl (pa_cons (pv 1) (pa_cons (pv 4) (pa_cons (pe_slice sl_list (pv 0) (po_some (pe_op op_add (pv 3) pe_int)) (po_some (pv 5))) pa_nil))))))
      (pss_cons (ps_expr (pe_bm PySem.F.plainAttrs_list PySem.F.slot_list_append PySem.F.type_list_append mt_append (pv 2) (pa_cons (pe_callB call_len_seq rfl T.b_len bt_len (pa_cons (pv 6) pa_nil)) pa_nil)))
      (pss_cons (ps_expr (pe_bm PySem.F.plainAttrs_list PySem.F.slot_list_extend PySem.F.type_list_extend mt_extend (pv 2) (pa_cons (pv 6) pa_nil)))
      (pss_one (ps_set (i := 3) sc_answers.nd rfl (by first | exact Or.inl rfl | exact Or.inr rfl) (pv 5)))))))))
      (pss_one (ps_ret (pv 2))))))), ?_⟩
    intro x dx nx nd _
    refine ⟨x, dx, rfl, upd_same, fun H1 hW1 k1 => ⟨rfl, (szl rfl), fun q hq => ?_⟩⟩
    have s1 : Same H H1 := Same.made nx nd k1
    have nHx : H x = none := nx
    have nHq : H q = none := s1.free hq
    have hsz : (10000000 : Nat) + 10 ≤ sizeLine := by decide
    refine while_by (fun σ H' => ∃ (place : Nat) (st : Option Abs) (out : List Int) (v4 v5 v6 : Option V), σ = [some (.ref a), some (.ref x), some (.ref q), some (nV place), v4, v5, v6] ∧ But (PTb K) H H' ∧ Tb K H' ∧ x ≠ q ∧ WorksOff K CP CW q H' x st ∧ OptOk st ∧ Tail ns place st out ∧ Ints H' q out)
      (fun σ _ => ns.length - placeOf σ) ⟨0, none, [], none, none, none, rfl, fun b o e _ => (Same.upd s1 hq) b o e, hTb.same (Same.upd s1 hq), ?_, fun o xs => ?_, trivial, T0, upd_same⟩ ?_ ?_
    · obtain ⟨dw, pv0, l0, vs0, hw, _⟩ := hW1.ins
      exact ne_of_none hw hq
    · refine hW1.same fun b u e => ?_
      rw [upd_ne (ne_of_none e hq), upd_ne (ne_of_none e hq)]
      exact e
    · rintro σ H2 ⟨place, st, out, v4, v5, v6, rfl, s2, hT2, nxq, hWo, hok, hT, hout⟩
      obtain ⟨ps0, eP0, _⟩ := id hTb
      have hS2 := seq_tab eP0 s2 hS
      refine ⟨_, rfl, _, rfl, a, _, rfl, .inl hS2, _, _, rfl, rfl, _, rfl, ite2 (fun h1 => ?_) (fun h1 => ?_)⟩
      · have hlt : place < ns.length := by
          have := of_decide_eq_true h1
          rw [List.length_map] at this
          omega
        obtain ⟨c, n, xs, hc, hc22, hn, hxl, hxb, hle, hcut, hTl⟩ := hT.turn hlt
        subst hxl
        -- call, behind
        refine ⟨_, rfl, _, rfl, a, _, _, _, rfl, rfl, hS2, atI_nat (v := V.int (c : Int)) (by rw [List.getElem?_map, hc]; rfl), ?_⟩
        refine ⟨_, rfl, _, _, rfl, rfl, _, rfl, aC, _, _, _, rfl, rfl, hCs H2, argc_at hn, _, _, rfl, rfl, ?_⟩
        -- numbers = answer(works, call, calls[place + 1:behind])
        refine ⟨q, _, hout, trivial, fun od => ?_⟩
        have hS3 : SqL K (upd H2 q (.frz od (.lst (out.map V.int)))) a (ns.map V.int) := seq_tab eP0 (fun b o e n => by rw [upd_ne (ne_of_none e nHq)]; exact s2 b o e n) hS
        have nqP : q ≠ PTb K := hT2.ne hout
        have hT3 : Tb K (upd H2 q (.frz od (.lst (out.map V.int)))) := Tb.lst hT2 hout but_upd
        refine ⟨_, rfl, _, rfl, _, rfl, _, rfl, _, _, rfl, rfl, _, rfl, _, rfl, _, rfl, a, _, rfl, hS3, fun l nl => ?_⟩
        rw [cut_at hle hcut]
        have s3 := same_upd (o := .lst (xs.map nV)) nl
        refine ⟨x, l, c, st, xs, rfl, (hWo od _).same s3, hok, hc22, upd_same, hn, hxb, hT3.same s3, fun r H5 b5 nr hW5 hr5 hT5 => ?_⟩
        have hq3 : upd (upd H2 q (.frz od (.lst (out.map V.int)))) l (.lst (xs.map nV)) q = some (.frz od (.lst (out.map V.int))) := s3 _ _ upd_same
        have hq5 := b5 q _ hq3 nxq.symm nqP
        refine ⟨hq5, ?_⟩
        have nrq : r ≠ q := (ne_of_none hq3 nr).symm
        have hlen : out.length + 1 + (stp st c xs).2.length ≤ 10000000 := by
          have := hTl.short
          rw [List.length_append, List.length_cons] at this
          omega
        -- told.append(len(numbers)); told.extend(numbers)
        refine ⟨_, rfl, .inl ⟨rfl, _, SqL.of upd_same⟩, _, rfl, r, _, rfl, .inl (SqL.of ((upd_ne nrq).trans hr5)), q, _, _, rfl, rfl, upd_same, (by rw [List.length_map]; omega), ?_⟩
        refine ⟨_, rfl, .inl ⟨rfl, _, SqL.of upd_same⟩, _, rfl, q, r, _, _, rfl, rfl, upd_same, ((upd_ne nrq).trans ((upd_ne nrq).trans hr5)), (by rw [List.length_append, List.length_map, List.length_map, List.length_singleton]; omega), ?_⟩
        -- place = behind
        refine ⟨_, rfl, ⟨place + 1 + xs.length, _, _, some (nV c), some (nV (place + 1 + xs.length)), some (.ref r), rfl, ?_, ?_, nxq, ?_, stp_ok hok, hTl, ?_⟩, ?_⟩
        · intro b o e n
          have nbq : b ≠ q := ne_of_none e nHq
          have nbx : b ≠ x := ne_of_none e nHx
          rw [upd_ne nbq, upd_ne nbq, upd_ne nbq]
          refine b5 b o (s3 _ _ ?_) nbx n
          rw [upd_ne nbq]
          exact s2 b o e n
        · refine TabOk.but (W := q) (fun b o e nb => ?_) (fun ps z => by rw [hq5] at z; cases z) (fun φ z => by rw [hq5] at z; cases z) hT5
          rw [upd_ne nb, upd_ne nb, upd_ne nb]
          exact e
        · intro o' xs'
          refine hW5.thaw hq5 fun b o e nb => ?_
          rw [upd_ne nb, upd_ne nb, upd_ne nb, upd_ne nb]
          exact e
        · show upd _ q _ q = _
          rw [upd_same]
          simp only [List.map_append, List.map_cons, List.map_nil, List.length_map, List.append_assoc, List.cons_append, List.nil_append]
        · show ns.length - (place + 1 + xs.length) < ns.length - place
          omega
      · have hge : ns.length ≤ place := by
          refine Nat.le_of_not_lt fun z => h1 (decide_eq_true ?_)
          rw [List.length_map]
          omega
        have e := hT.done hge
        subst e
        exact ⟨_, rfl, k _ q hout⟩
    · rintro σ H Q Q' h ⟨v, e, v', e', p, ys, e1, e2, i, j, e3, e4, b, e5, z⟩
      exact ⟨v, e, v', e', p, ys, e1, e2, i, j, e3, e4, b, e5, h _ _ z⟩
end
end Sd

set_option Elab.async false
set_option linter.all false
set_option maxRecDepth 100000
set_option maxHeartbeats 2000000
/-! WHAT THE TOP HAS WRITTEN; THE ROW'S HEAD. -/
namespace Sd
open PySem PySem.Spec PyProof.Rows L2 Kh352
theorem txt_mk {K : PySem.W.Frag} {h : Heap} {mg : Str → Option Value} {CP CW F0 F1 F2 F3 F4 F5 F6 F7 F8 F9 F10 F11 F12 F13 F14 F15 F16 F17 F18 F19 F20 C20 P20 F21 F22 F23 F24 F25 F26 F27 F28 F29 F30 F31 F32 F33 F34 F35 F36 F37 F38 F39 F40 F41 F42 F43 F44 F45 F46 F47 F48 F49 F50 F51 F52 F53 F54 F55 F56 F57 F58 AARGUMENT_COUNTS ASTEPS : Addr} {tWIDEST_STRIP tLONGEST_WALL tALONG tACROSS tCHANGES_KEPT tNO_SUCH tBEYOND_WALL tNOT_AS_TOLD tTOO_MANY tNONE_CLEAR tNOT_BEGUN tMOST_OPENINGS tBEGIN tARGUMENT_COUNTS0 tARGUMENT_COUNTS1 tARGUMENT_COUNTS2 tARGUMENT_COUNTS3 tARGUMENT_COUNTS4 tARGUMENT_COUNTS5 tARGUMENT_COUNTS6 tARGUMENT_COUNTS7 tARGUMENT_COUNTS8 tARGUMENT_COUNTS9 tARGUMENT_COUNTS10 tARGUMENT_COUNTS11 tARGUMENT_COUNTS12 tARGUMENT_COUNTS13 tARGUMENT_COUNTS14 tARGUMENT_COUNTS15 tARGUMENT_COUNTS16 tARGUMENT_COUNTS17 tARGUMENT_COUNTS18 tARGUMENT_COUNTS19 tARGUMENT_COUNTS20 tARGUMENT_COUNTS21 : Tok} (X : K.In h) (G : h.Ns mainGlobals mg)
    {oc0 kV0 dc0 pm0 cd0 ct0 : Value} {od0 an0 : Option Addr} {sl0 : Array (Option Value)}
    {oc1 kV1 dc1 pm1 cd1 ct1 : Value} {od1 an1 : Option Addr} {sl1 : Array (Option Value)}
    {oc2 kV2 dc2 pm2 cd2 ct2 : Value} {od2 an2 : Option Addr} {sl2 : Array (Option Value)}
    {oc3 kV3 dc3 pm3 cd3 ct3 : Value} {od3 an3 : Option Addr} {sl3 : Array (Option Value)}
    {oc4 kV4 dc4 pm4 cd4 ct4 : Value} {od4 an4 : Option Addr} {sl4 : Array (Option Value)}
    {oc5 kV5 dc5 pm5 cd5 ct5 : Value} {od5 an5 : Option Addr} {sl5 : Array (Option Value)}
    {oc6 kV6 dc6 pm6 cd6 ct6 : Value} {od6 an6 : Option Addr} {sl6 : Array (Option Value)}
    {oc7 kV7 dc7 pm7 cd7 ct7 : Value} {od7 an7 : Option Addr} {sl7 : Array (Option Value)}
    {oc8 kV8 dc8 pm8 cd8 ct8 : Value} {od8 an8 : Option Addr} {sl8 : Array (Option Value)}
    {oc9 kV9 dc9 pm9 cd9 ct9 : Value} {od9 an9 : Option Addr} {sl9 : Array (Option Value)}
    {oc10 kV10 dc10 pm10 cd10 ct10 : Value} {od10 an10 : Option Addr} {sl10 : Array (Option Value)}
    {oc11 kV11 dc11 pm11 cd11 ct11 : Value} {od11 an11 : Option Addr} {sl11 : Array (Option Value)}
    {oc12 kV12 dc12 pm12 cd12 ct12 : Value} {od12 an12 : Option Addr} {sl12 : Array (Option Value)}
    {oc13 kV13 dc13 pm13 cd13 ct13 : Value} {od13 an13 : Option Addr} {sl13 : Array (Option Value)}
    {oc14 kV14 dc14 pm14 cd14 ct14 : Value} {od14 an14 : Option Addr} {sl14 : Array (Option Value)}
    {oc15 kV15 dc15 pm15 cd15 ct15 : Value} {od15 an15 : Option Addr} {sl15 : Array (Option Value)}
    {oc16 kV16 dc16 pm16 cd16 ct16 : Value} {od16 an16 : Option Addr} {sl16 : Array (Option Value)}
    {oc17 kV17 dc17 pm17 cd17 ct17 : Value} {od17 an17 : Option Addr} {sl17 : Array (Option Value)}
    {oc18 kV18 dc18 pm18 cd18 ct18 : Value} {od18 an18 : Option Addr} {sl18 : Array (Option Value)}
    {oc19 kV19 dc19 pm19 cd19 ct19 : Value} {od19 an19 : Option Addr} {sl19 : Array (Option Value)}
    {oc20 kV20 dc20 pm20 cd20 ct20 : Value} {od20 an20 : Option Addr} {sl20 : Array (Option Value)}
    {oc21 kV21 dc21 pm21 cd21 ct21 : Value} {od21 an21 : Option Addr} {sl21 : Array (Option Value)}
    {oc22 kV22 dc22 pm22 cd22 ct22 : Value} {od22 an22 : Option Addr} {sl22 : Array (Option Value)}
    {oc23 kV23 dc23 pm23 cd23 ct23 : Value} {od23 an23 : Option Addr} {sl23 : Array (Option Value)}
    {oc24 kV24 dc24 pm24 cd24 ct24 : Value} {od24 an24 : Option Addr} {sl24 : Array (Option Value)}
    {oc25 kV25 dc25 pm25 cd25 ct25 : Value} {od25 an25 : Option Addr} {sl25 : Array (Option Value)}
    {oc26 kV26 dc26 pm26 cd26 ct26 : Value} {od26 an26 : Option Addr} {sl26 : Array (Option Value)}
    {oc27 kV27 dc27 pm27 cd27 ct27 : Value} {od27 an27 : Option Addr} {sl27 : Array (Option Value)}
    {oc28 kV28 dc28 pm28 cd28 ct28 : Value} {od28 an28 : Option Addr} {sl28 : Array (Option Value)}
    {oc29 kV29 dc29 pm29 cd29 ct29 : Value} {od29 an29 : Option Addr} {sl29 : Array (Option Value)}
    {oc30 kV30 dc30 pm30 cd30 ct30 : Value} {od30 an30 : Option Addr} {sl30 : Array (Option Value)}
    {oc31 kV31 dc31 pm31 cd31 ct31 : Value} {od31 an31 : Option Addr} {sl31 : Array (Option Value)}
    {oc32 kV32 dc32 pm32 cd32 ct32 : Value} {od32 an32 : Option Addr} {sl32 : Array (Option Value)}
    {oc33 kV33 dc33 pm33 cd33 ct33 : Value} {od33 an33 : Option Addr} {sl33 : Array (Option Value)}
    {oc34 kV34 dc34 pm34 cd34 ct34 : Value} {od34 an34 : Option Addr} {sl34 : Array (Option Value)}
    {oc35 kV35 dc35 pm35 cd35 ct35 : Value} {od35 an35 : Option Addr} {sl35 : Array (Option Value)}
    {oc36 kV36 dc36 pm36 cd36 ct36 : Value} {od36 an36 : Option Addr} {sl36 : Array (Option Value)}
    {oc37 kV37 dc37 pm37 cd37 ct37 : Value} {od37 an37 : Option Addr} {sl37 : Array (Option Value)}
    {oc38 kV38 dc38 pm38 cd38 ct38 : Value} {od38 an38 : Option Addr} {sl38 : Array (Option Value)}
    {oc39 kV39 dc39 pm39 cd39 ct39 : Value} {od39 an39 : Option Addr} {sl39 : Array (Option Value)}
    {oc40 kV40 dc40 pm40 cd40 ct40 : Value} {od40 an40 : Option Addr} {sl40 : Array (Option Value)}
    {oc41 kV41 dc41 pm41 cd41 ct41 : Value} {od41 an41 : Option Addr} {sl41 : Array (Option Value)}
    {oc42 kV42 dc42 pm42 cd42 ct42 : Value} {od42 an42 : Option Addr} {sl42 : Array (Option Value)}
    {oc43 kV43 dc43 pm43 cd43 ct43 : Value} {od43 an43 : Option Addr} {sl43 : Array (Option Value)}
    {oc44 kV44 dc44 pm44 cd44 ct44 : Value} {od44 an44 : Option Addr} {sl44 : Array (Option Value)}
    {oc45 kV45 dc45 pm45 cd45 ct45 : Value} {od45 an45 : Option Addr} {sl45 : Array (Option Value)}
    {oc46 kV46 dc46 pm46 cd46 ct46 : Value} {od46 an46 : Option Addr} {sl46 : Array (Option Value)}
    {oc47 kV47 dc47 pm47 cd47 ct47 : Value} {od47 an47 : Option Addr} {sl47 : Array (Option Value)}
    {oc48 kV48 dc48 pm48 cd48 ct48 : Value} {od48 an48 : Option Addr} {sl48 : Array (Option Value)}
    {oc49 kV49 dc49 pm49 cd49 ct49 : Value} {od49 an49 : Option Addr} {sl49 : Array (Option Value)}
    {oc50 kV50 dc50 pm50 cd50 ct50 : Value} {od50 an50 : Option Addr} {sl50 : Array (Option Value)}
    {oc51 kV51 dc51 pm51 cd51 ct51 : Value} {od51 an51 : Option Addr} {sl51 : Array (Option Value)}
    {oc52 kV52 dc52 pm52 cd52 ct52 : Value} {od52 an52 : Option Addr} {sl52 : Array (Option Value)}
    {oc53 kV53 dc53 pm53 cd53 ct53 : Value} {od53 an53 : Option Addr} {sl53 : Array (Option Value)}
    {oc54 kV54 dc54 pm54 cd54 ct54 : Value} {od54 an54 : Option Addr} {sl54 : Array (Option Value)}
    {oc55 kV55 dc55 pm55 cd55 ct55 : Value} {od55 an55 : Option Addr} {sl55 : Array (Option Value)}
    {oc56 kV56 dc56 pm56 cd56 ct56 : Value} {od56 an56 : Option Addr} {sl56 : Array (Option Value)}
    {oc57 kV57 dc57 pm57 cd57 ct57 : Value} {od57 an57 : Option Addr} {sl57 : Array (Option Value)}
    {oc58 kV58 dc58 pm58 cd58 ct58 : Value} {od58 an58 : Option Addr} {sl58 : Array (Option Value)}
    {odARGUMENT_COUNTS : Option Addr} {slARGUMENT_COUNTS : Array (Option Value)} {nARGUMENT_COUNTS : Nat}
    {odSTEPS : Option Addr} {slSTEPS : Array (Option Value)} {nSTEPS : Nat}
    (aPlan : PySem.W.nsIn K mainGlobals "Plan" = some (some (.ref CP)))
    (aWorks : PySem.W.nsIn K mainGlobals "Works" = some (some (.ref CW)))
    (a0 : PySem.W.findIn K (.ref CP) "__init__" = some (some (.ref F0)))
    (i0 : PySem.W.isFn K (.ref F0) = true)
    (l0 : K.lookup F0 = some ⟨oc0, od0, .func (PySem.W.fnOf "__init__" "Plan.__init__" (defArgs st_Plan_init) (defBody st_Plan_init) (defScope st_Plan_init) .none kV0 dc0 pm0 an0 cd0 ct0), sl0⟩)
    (d0 : PySem.W.codeIn K cd0 "Plan.__init__" = true)
    (k0 : PySem.W.keepIn K (.ref F0) = true)
    (a1 : PySem.W.findIn K (.ref CP) "with_wide" = some (some (.ref F1)))
    (i1 : PySem.W.isFn K (.ref F1) = true)
    (l1 : K.lookup F1 = some ⟨oc1, od1, .func (PySem.W.fnOf "with_wide" "Plan.with_wide" (defArgs st_Plan_with_wide) (defBody st_Plan_with_wide) (defScope st_Plan_with_wide) .none kV1 dc1 pm1 an1 cd1 ct1), sl1⟩)
    (d1 : PySem.W.codeIn K cd1 "Plan.with_wide" = true)
    (k1 : PySem.W.keepIn K (.ref F1) = true)
    (a2 : PySem.W.findIn K (.ref CP) "with_room" = some (some (.ref F2)))
    (i2 : PySem.W.isFn K (.ref F2) = true)
    (l2 : K.lookup F2 = some ⟨oc2, od2, .func (PySem.W.fnOf "with_room" "Plan.with_room" (defArgs st_Plan_with_room) (defBody st_Plan_with_room) (defScope st_Plan_with_room) .none kV2 dc2 pm2 an2 cd2 ct2), sl2⟩)
    (d2 : PySem.W.codeIn K cd2 "Plan.with_room" = true)
    (k2 : PySem.W.keepIn K (.ref F2) = true)
    (a3 : PySem.W.findIn K (.ref CP) "with_doors" = some (some (.ref F3)))
    (i3 : PySem.W.isFn K (.ref F3) = true)
    (l3 : K.lookup F3 = some ⟨oc3, od3, .func (PySem.W.fnOf "with_doors" "Plan.with_doors" (defArgs st_Plan_with_doors) (defBody st_Plan_with_doors) (defScope st_Plan_with_doors) .none kV3 dc3 pm3 an3 cd3 ct3), sl3⟩)
    (d3 : PySem.W.codeIn K cd3 "Plan.with_doors" = true)
    (k3 : PySem.W.keepIn K (.ref F3) = true)
    (a4 : PySem.W.findIn K (.ref CP) "with_sides" = some (some (.ref F4)))
    (i4 : PySem.W.isFn K (.ref F4) = true)
    (l4 : K.lookup F4 = some ⟨oc4, od4, .func (PySem.W.fnOf "with_sides" "Plan.with_sides" (defArgs st_Plan_with_sides) (defBody st_Plan_with_sides) (defScope st_Plan_with_sides) .none kV4 dc4 pm4 an4 cd4 ct4), sl4⟩)
    (d4 : PySem.W.codeIn K cd4 "Plan.with_sides" = true)
    (k4 : PySem.W.keepIn K (.ref F4) = true)
    (a5 : PySem.W.findIn K (.ref CP) "turned" = some (some (.ref F5)))
    (i5 : PySem.W.isFn K (.ref F5) = true)
    (l5 : K.lookup F5 = some ⟨oc5, od5, .func (PySem.W.fnOf "turned" "Plan.turned" (defArgs st_Plan_turned) (defBody st_Plan_turned) (defScope st_Plan_turned) .none kV5 dc5 pm5 an5 cd5 ct5), sl5⟩)
    (d5 : PySem.W.codeIn K cd5 "Plan.turned" = true)
    (k5 : PySem.W.keepIn K (.ref F5) = true)
    (a6 : PySem.W.nsIn K mainGlobals "is_strip_width" = some (some (.ref F6)))
    (l6 : K.lookup F6 = some ⟨oc6, od6, .func (PySem.W.fnOf "is_strip_width" "is_strip_width" (defArgs st_is_strip_width) (defBody st_is_strip_width) (defScope st_is_strip_width) .none kV6 dc6 pm6 an6 cd6 ct6), sl6⟩)
    (d6 : PySem.W.codeIn K cd6 "is_strip_width" = true)
    (k6 : PySem.W.keepIn K (.ref F6) = true)
    (a7 : PySem.W.nsIn K mainGlobals "is_wall_length" = some (some (.ref F7)))
    (l7 : K.lookup F7 = some ⟨oc7, od7, .func (PySem.W.fnOf "is_wall_length" "is_wall_length" (defArgs st_is_wall_length) (defBody st_is_wall_length) (defScope st_is_wall_length) .none kV7 dc7 pm7 an7 cd7 ct7), sl7⟩)
    (d7 : PySem.W.codeIn K cd7 "is_wall_length" = true)
    (k7 : PySem.W.keepIn K (.ref F7) = true)
    (a8 : PySem.W.nsIn K mainGlobals "is_first_width" = some (some (.ref F8)))
    (l8 : K.lookup F8 = some ⟨oc8, od8, .func (PySem.W.fnOf "is_first_width" "is_first_width" (defArgs st_is_first_width) (defBody st_is_first_width) (defScope st_is_first_width) .none kV8 dc8 pm8 an8 cd8 ct8), sl8⟩)
    (d8 : PySem.W.codeIn K cd8 "is_first_width" = true)
    (k8 : PySem.W.keepIn K (.ref F8) = true)
    (a9 : PySem.W.nsIn K mainGlobals "lies_in_wall" = some (some (.ref F9)))
    (l9 : K.lookup F9 = some ⟨oc9, od9, .func (PySem.W.fnOf "lies_in_wall" "lies_in_wall" (defArgs st_lies_in_wall) (defBody st_lies_in_wall) (defScope st_lies_in_wall) .none kV9 dc9 pm9 an9 cd9 ct9), sl9⟩)
    (d9 : PySem.W.codeIn K cd9 "lies_in_wall" = true)
    (k9 : PySem.W.keepIn K (.ref F9) = true)
    (a10 : PySem.W.nsIn K mainGlobals "all_end_within" = some (some (.ref F10)))
    (l10 : K.lookup F10 = some ⟨oc10, od10, .func (PySem.W.fnOf "all_end_within" "all_end_within" (defArgs st_all_end_within) (defBody st_all_end_within) (defScope st_all_end_within) .none kV10 dc10 pm10 an10 cd10 ct10), sl10⟩)
    (d10 : PySem.W.codeIn K cd10 "all_end_within" = true)
    (k10 : PySem.W.keepIn K (.ref F10) = true)
    (a11 : PySem.W.nsIn K mainGlobals "seams_of" = some (some (.ref F11)))
    (l11 : K.lookup F11 = some ⟨oc11, od11, .func (PySem.W.fnOf "seams_of" "seams_of" (defArgs st_seams_of) (defBody st_seams_of) (defScope st_seams_of) .none kV11 dc11 pm11 an11 cd11 ct11), sl11⟩)
    (d11 : PySem.W.codeIn K cd11 "seams_of" = true)
    (k11 : PySem.W.keepIn K (.ref F11) = true)
    (a12 : PySem.W.nsIn K mainGlobals "last_width" = some (some (.ref F12)))
    (l12 : K.lookup F12 = some ⟨oc12, od12, .func (PySem.W.fnOf "last_width" "last_width" (defArgs st_last_width) (defBody st_last_width) (defScope st_last_width) .none kV12 dc12 pm12 an12 cd12 ct12), sl12⟩)
    (d12 : PySem.W.codeIn K cd12 "last_width" = true)
    (k12 : PySem.W.keepIn K (.ref F12) = true)
    (a13 : PySem.W.nsIn K mainGlobals "narrowest_width" = some (some (.ref F13)))
    (l13 : K.lookup F13 = some ⟨oc13, od13, .func (PySem.W.fnOf "narrowest_width" "narrowest_width" (defArgs st_narrowest_width) (defBody st_narrowest_width) (defScope st_narrowest_width) .none kV13 dc13 pm13 an13 cd13 ct13), sl13⟩)
    (d13 : PySem.W.codeIn K cd13 "narrowest_width" = true)
    (k13 : PySem.W.keepIn K (.ref F13) = true)
    (a14 : PySem.W.nsIn K mainGlobals "carpet_needed" = some (some (.ref F14)))
    (l14 : K.lookup F14 = some ⟨oc14, od14, .func (PySem.W.fnOf "carpet_needed" "carpet_needed" (defArgs st_carpet_needed) (defBody st_carpet_needed) (defScope st_carpet_needed) .none kV14 dc14 pm14 an14 cd14 ct14), sl14⟩)
    (d14 : PySem.W.codeIn K cd14 "carpet_needed" = true)
    (k14 : PySem.W.keepIn K (.ref F14) = true)
    (a15 : PySem.W.nsIn K mainGlobals "is_hit" = some (some (.ref F15)))
    (l15 : K.lookup F15 = some ⟨oc15, od15, .func (PySem.W.fnOf "is_hit" "is_hit" (defArgs st_is_hit) (defBody st_is_hit) (defScope st_is_hit) .none kV15 dc15 pm15 an15 cd15 ct15), sl15⟩)
    (d15 : PySem.W.codeIn K cd15 "is_hit" = true)
    (k15 : PySem.W.keepIn K (.ref F15) = true)
    (a16 : PySem.W.nsIn K mainGlobals "hit_doors" = some (some (.ref F16)))
    (l16 : K.lookup F16 = some ⟨oc16, od16, .func (PySem.W.fnOf "hit_doors" "hit_doors" (defArgs st_hit_doors) (defBody st_hit_doors) (defScope st_hit_doors) .none kV16 dc16 pm16 an16 cd16 ct16), sl16⟩)
    (d16 : PySem.W.codeIn K cd16 "hit_doors" = true)
    (k16 : PySem.W.keepIn K (.ref F16) = true)
    (a17 : PySem.W.nsIn K mainGlobals "is_clear" = some (some (.ref F17)))
    (l17 : K.lookup F17 = some ⟨oc17, od17, .func (PySem.W.fnOf "is_clear" "is_clear" (defArgs st_is_clear) (defBody st_is_clear) (defScope st_is_clear) .none kV17 dc17 pm17 an17 cd17 ct17), sl17⟩)
    (d17 : PySem.W.codeIn K cd17 "is_clear" = true)
    (k17 : PySem.W.keepIn K (.ref F17) = true)
    (a18 : PySem.W.nsIn K mainGlobals "clear_firsts" = some (some (.ref F18)))
    (l18 : K.lookup F18 = some ⟨oc18, od18, .func (PySem.W.fnOf "clear_firsts" "clear_firsts" (defArgs st_clear_firsts) (defBody st_clear_firsts) (defScope st_clear_firsts) .none kV18 dc18 pm18 an18 cd18 ct18), sl18⟩)
    (d18 : PySem.W.codeIn K cd18 "clear_firsts" = true)
    (k18 : PySem.W.keepIn K (.ref F18) = true)
    (a19 : PySem.W.nsIn K mainGlobals "some_first_is_clear" = some (some (.ref F19)))
    (l19 : K.lookup F19 = some ⟨oc19, od19, .func (PySem.W.fnOf "some_first_is_clear" "some_first_is_clear" (defArgs st_some_first_is_clear) (defBody st_some_first_is_clear) (defScope st_some_first_is_clear) .none kV19 dc19 pm19 an19 cd19 ct19), sl19⟩)
    (d19 : PySem.W.codeIn K cd19 "some_first_is_clear" = true)
    (k19 : PySem.W.keepIn K (.ref F19) = true)
    (a20 : PySem.W.nsIn K mainGlobals "best_first" = some (some (.ref F20)))
    (l20 : K.lookup F20 = some ⟨oc20, od20, .func (PySem.W.fnOf "best_first" "best_first" (defArgs st_best_first) (defBody st_best_first) (defScope st_best_first) .none kV20 dc20 pm20 an20 cd20 ct20), sl20⟩)
    (tb20 : PySem.W.tabIn K "best_first" = some (C20, P20))
    (hd20 : PySem.W.codeHdIn K C20 P20 = true)
    (d20 : PySem.W.codeIn K cd20 "best_first" = true)
    (k20 : PySem.W.keepIn K (.ref F20) = true)
    (a21 : PySem.W.nsIn K mainGlobals "strips_by" = some (some (.ref F21)))
    (l21 : K.lookup F21 = some ⟨oc21, od21, .func (PySem.W.fnOf "strips_by" "strips_by" (defArgs st_strips_by) (defBody st_strips_by) (defScope st_strips_by) .none kV21 dc21 pm21 an21 cd21 ct21), sl21⟩)
    (d21 : PySem.W.codeIn K cd21 "strips_by" = true)
    (k21 : PySem.W.keepIn K (.ref F21) = true)
    (a22 : PySem.W.nsIn K mainGlobals "least_carpet" = some (some (.ref F22)))
    (l22 : K.lookup F22 = some ⟨oc22, od22, .func (PySem.W.fnOf "least_carpet" "least_carpet" (defArgs st_least_carpet) (defBody st_least_carpet) (defScope st_least_carpet) .none kV22 dc22 pm22 an22 cd22 ct22), sl22⟩)
    (d22 : PySem.W.codeIn K cd22 "least_carpet" = true)
    (k22 : PySem.W.keepIn K (.ref F22) = true)
    (a23 : PySem.W.nsIn K mainGlobals "best_way_round" = some (some (.ref F23)))
    (l23 : K.lookup F23 = some ⟨oc23, od23, .func (PySem.W.fnOf "best_way_round" "best_way_round" (defArgs st_best_way_round) (defBody st_best_way_round) (defScope st_best_way_round) .none kV23 dc23 pm23 an23 cd23 ct23), sl23⟩)
    (d23 : PySem.W.codeIn K cd23 "best_way_round" = true)
    (k23 : PySem.W.keepIn K (.ref F23) = true)
    (a24 : PySem.W.nsIn K mainGlobals "best_width" = some (some (.ref F24)))
    (l24 : K.lookup F24 = some ⟨oc24, od24, .func (PySem.W.fnOf "best_width" "best_width" (defArgs st_best_width) (defBody st_best_width) (defScope st_best_width) .none kV24 dc24 pm24 an24 cd24 ct24), sl24⟩)
    (d24 : PySem.W.codeIn K cd24 "best_width" = true)
    (k24 : PySem.W.keepIn K (.ref F24) = true)
    (a25 : PySem.W.nsIn K mainGlobals "fit_widths" = some (some (.ref F25)))
    (l25 : K.lookup F25 = some ⟨oc25, od25, .func (PySem.W.fnOf "fit_widths" "fit_widths" (defArgs st_fit_widths) (defBody st_fit_widths) (defScope st_fit_widths) .none kV25 dc25 pm25 an25 cd25 ct25), sl25⟩)
    (d25 : PySem.W.codeIn K cd25 "fit_widths" = true)
    (k25 : PySem.W.keepIn K (.ref F25) = true)
    (a26 : PySem.W.nsIn K mainGlobals "next_seam" = some (some (.ref F26)))
    (l26 : K.lookup F26 = some ⟨oc26, od26, .func (PySem.W.fnOf "next_seam" "next_seam" (defArgs st_next_seam) (defBody st_next_seam) (defScope st_next_seam) .none kV26 dc26 pm26 an26 cd26 ct26), sl26⟩)
    (d26 : PySem.W.codeIn K cd26 "next_seam" = true)
    (k26 : PySem.W.keepIn K (.ref F26) = true)
    (a27 : PySem.W.nsIn K mainGlobals "widest_end" = some (some (.ref F27)))
    (l27 : K.lookup F27 = some ⟨oc27, od27, .func (PySem.W.fnOf "widest_end" "widest_end" (defArgs st_widest_end) (defBody st_widest_end) (defScope st_widest_end) .none kV27 dc27 pm27 an27 cd27 ct27), sl27⟩)
    (d27 : PySem.W.codeIn K cd27 "widest_end" = true)
    (k27 : PySem.W.keepIn K (.ref F27) = true)
    (a28 : PySem.W.findIn K (.ref CW) "__init__" = some (some (.ref F28)))
    (i28 : PySem.W.isFn K (.ref F28) = true)
    (l28 : K.lookup F28 = some ⟨oc28, od28, .func (PySem.W.fnOf "__init__" "Works.__init__" (defArgs st_Works_init) (defBody st_Works_init) (defScope st_Works_init) .none kV28 dc28 pm28 an28 cd28 ct28), sl28⟩)
    (d28 : PySem.W.codeIn K cd28 "Works.__init__" = true)
    (k28 : PySem.W.keepIn K (.ref F28) = true)
    (a29 : PySem.W.findIn K (.ref CW) "begin_with" = some (some (.ref F29)))
    (i29 : PySem.W.isFn K (.ref F29) = true)
    (l29 : K.lookup F29 = some ⟨oc29, od29, .func (PySem.W.fnOf "begin_with" "Works.begin_with" (defArgs st_Works_begin_with) (defBody st_Works_begin_with) (defScope st_Works_begin_with) .none kV29 dc29 pm29 an29 cd29 ct29), sl29⟩)
    (d29 : PySem.W.codeIn K cd29 "Works.begin_with" = true)
    (k29 : PySem.W.keepIn K (.ref F29) = true)
    (a30 : PySem.W.findIn K (.ref CW) "change_to" = some (some (.ref F30)))
    (i30 : PySem.W.isFn K (.ref F30) = true)
    (l30 : K.lookup F30 = some ⟨oc30, od30, .func (PySem.W.fnOf "change_to" "Works.change_to" (defArgs st_Works_change_to) (defBody st_Works_change_to) (defScope st_Works_change_to) .none kV30 dc30 pm30 an30 cd30 ct30), sl30⟩)
    (d30 : PySem.W.codeIn K cd30 "Works.change_to" = true)
    (k30 : PySem.W.keepIn K (.ref F30) = true)
    (a31 : PySem.W.findIn K (.ref CW) "take_back" = some (some (.ref F31)))
    (i31 : PySem.W.isFn K (.ref F31) = true)
    (l31 : K.lookup F31 = some ⟨oc31, od31, .func (PySem.W.fnOf "take_back" "Works.take_back" (defArgs st_Works_take_back) (defBody st_Works_take_back) (defScope st_Works_take_back) .none kV31 dc31 pm31 an31 cd31 ct31), sl31⟩)
    (d31 : PySem.W.codeIn K cd31 "Works.take_back" = true)
    (k31 : PySem.W.keepIn K (.ref F31) = true)
    (a32 : PySem.W.nsIn K mainGlobals "call_begin" = some (some (.ref F32)))
    (l32 : K.lookup F32 = some ⟨oc32, od32, .func (PySem.W.fnOf "call_begin" "call_begin" (defArgs st_call_begin) (defBody st_call_begin) (defScope st_call_begin) .none kV32 dc32 pm32 an32 cd32 ct32), sl32⟩)
    (d32 : PySem.W.codeIn K cd32 "call_begin" = true)
    (k32 : PySem.W.keepIn K (.ref F32) = true)
    (a33 : PySem.W.nsIn K mainGlobals "refusal_of_opening" = some (some (.ref F33)))
    (l33 : K.lookup F33 = some ⟨oc33, od33, .func (PySem.W.fnOf "refusal_of_opening" "refusal_of_opening" (defArgs st_refusal_of_opening) (defBody st_refusal_of_opening) (defScope st_refusal_of_opening) .none kV33 dc33 pm33 an33 cd33 ct33), sl33⟩)
    (d33 : PySem.W.codeIn K cd33 "refusal_of_opening" = true)
    (k33 : PySem.W.keepIn K (.ref F33) = true)
    (a34 : PySem.W.nsIn K mainGlobals "call_door" = some (some (.ref F34)))
    (l34 : K.lookup F34 = some ⟨oc34, od34, .func (PySem.W.fnOf "call_door" "call_door" (defArgs st_call_door) (defBody st_call_door) (defScope st_call_door) .none kV34 dc34 pm34 an34 cd34 ct34), sl34⟩)
    (d34 : PySem.W.codeIn K cd34 "call_door" = true)
    (k34 : PySem.W.keepIn K (.ref F34) = true)
    (a35 : PySem.W.nsIn K mainGlobals "call_side" = some (some (.ref F35)))
    (l35 : K.lookup F35 = some ⟨oc35, od35, .func (PySem.W.fnOf "call_side" "call_side" (defArgs st_call_side) (defBody st_call_side) (defScope st_call_side) .none kV35 dc35 pm35 an35 cd35 ct35), sl35⟩)
    (d35 : PySem.W.codeIn K cd35 "call_side" = true)
    (k35 : PySem.W.keepIn K (.ref F35) = true)
    (a36 : PySem.W.nsIn K mainGlobals "without" = some (some (.ref F36)))
    (l36 : K.lookup F36 = some ⟨oc36, od36, .func (PySem.W.fnOf "without" "without" (defArgs st_without) (defBody st_without) (defScope st_without) .none kV36 dc36 pm36 an36 cd36 ct36), sl36⟩)
    (d36 : PySem.W.codeIn K cd36 "without" = true)
    (k36 : PySem.W.keepIn K (.ref F36) = true)
    (a37 : PySem.W.nsIn K mainGlobals "call_undoor" = some (some (.ref F37)))
    (l37 : K.lookup F37 = some ⟨oc37, od37, .func (PySem.W.fnOf "call_undoor" "call_undoor" (defArgs st_call_undoor) (defBody st_call_undoor) (defScope st_call_undoor) .none kV37 dc37 pm37 an37 cd37 ct37), sl37⟩)
    (d37 : PySem.W.codeIn K cd37 "call_undoor" = true)
    (k37 : PySem.W.keepIn K (.ref F37) = true)
    (a38 : PySem.W.nsIn K mainGlobals "call_unside" = some (some (.ref F38)))
    (l38 : K.lookup F38 = some ⟨oc38, od38, .func (PySem.W.fnOf "call_unside" "call_unside" (defArgs st_call_unside) (defBody st_call_unside) (defScope st_call_unside) .none kV38 dc38 pm38 an38 cd38 ct38), sl38⟩)
    (d38 : PySem.W.codeIn K cd38 "call_unside" = true)
    (k38 : PySem.W.keepIn K (.ref F38) = true)
    (a39 : PySem.W.nsIn K mainGlobals "call_wide" = some (some (.ref F39)))
    (l39 : K.lookup F39 = some ⟨oc39, od39, .func (PySem.W.fnOf "call_wide" "call_wide" (defArgs st_call_wide) (defBody st_call_wide) (defScope st_call_wide) .none kV39 dc39 pm39 an39 cd39 ct39), sl39⟩)
    (d39 : PySem.W.codeIn K cd39 "call_wide" = true)
    (k39 : PySem.W.keepIn K (.ref F39) = true)
    (a40 : PySem.W.nsIn K mainGlobals "call_room" = some (some (.ref F40)))
    (l40 : K.lookup F40 = some ⟨oc40, od40, .func (PySem.W.fnOf "call_room" "call_room" (defArgs st_call_room) (defBody st_call_room) (defScope st_call_room) .none kV40 dc40 pm40 an40 cd40 ct40), sl40⟩)
    (d40 : PySem.W.codeIn K cd40 "call_room" = true)
    (k40 : PySem.W.keepIn K (.ref F40) = true)
    (a41 : PySem.W.nsIn K mainGlobals "call_back" = some (some (.ref F41)))
    (l41 : K.lookup F41 = some ⟨oc41, od41, .func (PySem.W.fnOf "call_back" "call_back" (defArgs st_call_back) (defBody st_call_back) (defScope st_call_back) .none kV41 dc41 pm41 an41 cd41 ct41), sl41⟩)
    (d41 : PySem.W.codeIn K cd41 "call_back" = true)
    (k41 : PySem.W.keepIn K (.ref F41) = true)
    (a42 : PySem.W.nsIn K mainGlobals "call_seams" = some (some (.ref F42)))
    (l42 : K.lookup F42 = some ⟨oc42, od42, .func (PySem.W.fnOf "call_seams" "call_seams" (defArgs st_call_seams) (defBody st_call_seams) (defScope st_call_seams) .none kV42 dc42 pm42 an42 cd42 ct42), sl42⟩)
    (d42 : PySem.W.codeIn K cd42 "call_seams" = true)
    (k42 : PySem.W.keepIn K (.ref F42) = true)
    (a43 : PySem.W.nsIn K mainGlobals "call_strips" = some (some (.ref F43)))
    (l43 : K.lookup F43 = some ⟨oc43, od43, .func (PySem.W.fnOf "call_strips" "call_strips" (defArgs st_call_strips) (defBody st_call_strips) (defScope st_call_strips) .none kV43 dc43 pm43 an43 cd43 ct43), sl43⟩)
    (d43 : PySem.W.codeIn K cd43 "call_strips" = true)
    (k43 : PySem.W.keepIn K (.ref F43) = true)
    (a44 : PySem.W.nsIn K mainGlobals "call_clear" = some (some (.ref F44)))
    (l44 : K.lookup F44 = some ⟨oc44, od44, .func (PySem.W.fnOf "call_clear" "call_clear" (defArgs st_call_clear) (defBody st_call_clear) (defScope st_call_clear) .none kV44 dc44 pm44 an44 cd44 ct44), sl44⟩)
    (d44 : PySem.W.codeIn K cd44 "call_clear" = true)
    (k44 : PySem.W.keepIn K (.ref F44) = true)
    (a45 : PySem.W.nsIn K mainGlobals "call_firsts" = some (some (.ref F45)))
    (l45 : K.lookup F45 = some ⟨oc45, od45, .func (PySem.W.fnOf "call_firsts" "call_firsts" (defArgs st_call_firsts) (defBody st_call_firsts) (defScope st_call_firsts) .none kV45 dc45 pm45 an45 cd45 ct45), sl45⟩)
    (d45 : PySem.W.codeIn K cd45 "call_firsts" = true)
    (k45 : PySem.W.keepIn K (.ref F45) = true)
    (a46 : PySem.W.nsIn K mainGlobals "call_best" = some (some (.ref F46)))
    (l46 : K.lookup F46 = some ⟨oc46, od46, .func (PySem.W.fnOf "call_best" "call_best" (defArgs st_call_best) (defBody st_call_best) (defScope st_call_best) .none kV46 dc46 pm46 an46 cd46 ct46), sl46⟩)
    (d46 : PySem.W.codeIn K cd46 "call_best" = true)
    (k46 : PySem.W.keepIn K (.ref F46) = true)
    (a47 : PySem.W.nsIn K mainGlobals "call_fewest" = some (some (.ref F47)))
    (l47 : K.lookup F47 = some ⟨oc47, od47, .func (PySem.W.fnOf "call_fewest" "call_fewest" (defArgs st_call_fewest) (defBody st_call_fewest) (defScope st_call_fewest) .none kV47 dc47 pm47 an47 cd47 ct47), sl47⟩)
    (d47 : PySem.W.codeIn K cd47 "call_fewest" = true)
    (k47 : PySem.W.keepIn K (.ref F47) = true)
    (a48 : PySem.W.nsIn K mainGlobals "call_way_round" = some (some (.ref F48)))
    (l48 : K.lookup F48 = some ⟨oc48, od48, .func (PySem.W.fnOf "call_way_round" "call_way_round" (defArgs st_call_way_round) (defBody st_call_way_round) (defScope st_call_way_round) .none kV48 dc48 pm48 an48 cd48 ct48), sl48⟩)
    (d48 : PySem.W.codeIn K cd48 "call_way_round" = true)
    (k48 : PySem.W.keepIn K (.ref F48) = true)
    (a49 : PySem.W.nsIn K mainGlobals "call_turn" = some (some (.ref F49)))
    (l49 : K.lookup F49 = some ⟨oc49, od49, .func (PySem.W.fnOf "call_turn" "call_turn" (defArgs st_call_turn) (defBody st_call_turn) (defScope st_call_turn) .none kV49 dc49 pm49 an49 cd49 ct49), sl49⟩)
    (d49 : PySem.W.codeIn K cd49 "call_turn" = true)
    (k49 : PySem.W.keepIn K (.ref F49) = true)
    (a50 : PySem.W.nsIn K mainGlobals "are_widths" = some (some (.ref F50)))
    (l50 : K.lookup F50 = some ⟨oc50, od50, .func (PySem.W.fnOf "are_widths" "are_widths" (defArgs st_are_widths) (defBody st_are_widths) (defScope st_are_widths) .none kV50 dc50 pm50 an50 cd50 ct50), sl50⟩)
    (d50 : PySem.W.codeIn K cd50 "are_widths" = true)
    (k50 : PySem.W.keepIn K (.ref F50) = true)
    (a51 : PySem.W.nsIn K mainGlobals "call_widths" = some (some (.ref F51)))
    (l51 : K.lookup F51 = some ⟨oc51, od51, .func (PySem.W.fnOf "call_widths" "call_widths" (defArgs st_call_widths) (defBody st_call_widths) (defScope st_call_widths) .none kV51 dc51 pm51 an51 cd51 ct51), sl51⟩)
    (d51 : PySem.W.codeIn K cd51 "call_widths" = true)
    (k51 : PySem.W.keepIn K (.ref F51) = true)
    (a52 : PySem.W.nsIn K mainGlobals "call_best_width" = some (some (.ref F52)))
    (l52 : K.lookup F52 = some ⟨oc52, od52, .func (PySem.W.fnOf "call_best_width" "call_best_width" (defArgs st_call_best_width) (defBody st_call_best_width) (defScope st_call_best_width) .none kV52 dc52 pm52 an52 cd52 ct52), sl52⟩)
    (d52 : PySem.W.codeIn K cd52 "call_best_width" = true)
    (k52 : PySem.W.keepIn K (.ref F52) = true)
    (a53 : PySem.W.nsIn K mainGlobals "call_could" = some (some (.ref F53)))
    (l53 : K.lookup F53 = some ⟨oc53, od53, .func (PySem.W.fnOf "call_could" "call_could" (defArgs st_call_could) (defBody st_call_could) (defScope st_call_could) .none kV53 dc53 pm53 an53 cd53 ct53), sl53⟩)
    (d53 : PySem.W.codeIn K cd53 "call_could" = true)
    (k53 : PySem.W.keepIn K (.ref F53) = true)
    (a54 : PySem.W.nsIn K mainGlobals "call_widest" = some (some (.ref F54)))
    (l54 : K.lookup F54 = some ⟨oc54, od54, .func (PySem.W.fnOf "call_widest" "call_widest" (defArgs st_call_widest) (defBody st_call_widest) (defScope st_call_widest) .none kV54 dc54 pm54 an54 cd54 ct54), sl54⟩)
    (d54 : PySem.W.codeIn K cd54 "call_widest" = true)
    (k54 : PySem.W.keepIn K (.ref F54) = true)
    (a55 : PySem.W.nsIn K mainGlobals "call_hits" = some (some (.ref F55)))
    (l55 : K.lookup F55 = some ⟨oc55, od55, .func (PySem.W.fnOf "call_hits" "call_hits" (defArgs st_call_hits) (defBody st_call_hits) (defScope st_call_hits) .none kV55 dc55 pm55 an55 cd55 ct55), sl55⟩)
    (d55 : PySem.W.codeIn K cd55 "call_hits" = true)
    (k55 : PySem.W.keepIn K (.ref F55) = true)
    (a56 : PySem.W.nsIn K mainGlobals "call_state" = some (some (.ref F56)))
    (l56 : K.lookup F56 = some ⟨oc56, od56, .func (PySem.W.fnOf "call_state" "call_state" (defArgs st_call_state) (defBody st_call_state) (defScope st_call_state) .none kV56 dc56 pm56 an56 cd56 ct56), sl56⟩)
    (d56 : PySem.W.codeIn K cd56 "call_state" = true)
    (k56 : PySem.W.keepIn K (.ref F56) = true)
    (a57 : PySem.W.nsIn K mainGlobals "answer" = some (some (.ref F57)))
    (l57 : K.lookup F57 = some ⟨oc57, od57, .func (PySem.W.fnOf "answer" "answer" (defArgs st_answer) (defBody st_answer) (defScope st_answer) .none kV57 dc57 pm57 an57 cd57 ct57), sl57⟩)
    (d57 : PySem.W.codeIn K cd57 "answer" = true)
    (k57 : PySem.W.keepIn K (.ref F57) = true)
    (a58 : PySem.W.nsIn K mainGlobals "answers" = some (some (.ref F58)))
    (l58 : K.lookup F58 = some ⟨oc58, od58, .func (PySem.W.fnOf "answers" "answers" (defArgs st_answers) (defBody st_answers) (defScope st_answers) .none kV58 dc58 pm58 an58 cd58 ct58), sl58⟩)
    (d58 : PySem.W.codeIn K cd58 "answers" = true)
    (k58 : PySem.W.keepIn K (.ref F58) = true)
    (pgPlan : PySem.W.plainGet K CP Str.empty = true)
    (hdPlan : PySem.W.hasDictIn K CP = true)
    (poPlan : PySem.W.plainOver K CP = true)
    (saPlan : PySem.W.findIn K (.ref CP) "__setattr__" = some (some (.builtin "object.__setattr__")))
    (mkPlan : PySem.W.makesIn K CP = true)
    (kcPlan : PySem.W.keepIn K (.ref CP) = true)
    (nPlanwide : PySem.W.findIn K (.ref CP) "wide" = some none)
    (nPlanacross : PySem.W.findIn K (.ref CP) "across" = some none)
    (nPlanalong : PySem.W.findIn K (.ref CP) "along" = some none)
    (nPlandoors : PySem.W.findIn K (.ref CP) "doors" = some none)
    (nPlansides : PySem.W.findIn K (.ref CP) "sides" = some none)
    (pgWorks : PySem.W.plainGet K CW Str.empty = true)
    (hdWorks : PySem.W.hasDictIn K CW = true)
    (poWorks : PySem.W.plainOver K CW = true)
    (saWorks : PySem.W.findIn K (.ref CW) "__setattr__" = some (some (.builtin "object.__setattr__")))
    (mkWorks : PySem.W.makesIn K CW = true)
    (kcWorks : PySem.W.keepIn K (.ref CW) = true)
    (nWorksplan : PySem.W.findIn K (.ref CW) "plan" = some none)
    (nWorksearlier : PySem.W.findIn K (.ref CW) "earlier" = some none)
    (ball : PySem.W.nsIn K mainGlobals "all" = some none)
    (blist : PySem.W.nsIn K mainGlobals "list" = some none)
    (brange : PySem.W.nsIn K mainGlobals "range" = some none)
    (blen : PySem.W.nsIn K mainGlobals "len" = some none)
    (bmin : PySem.W.nsIn K mainGlobals "min" = some none)
    (bany : PySem.W.nsIn K mainGlobals "any" = some none)
    (benumerate : PySem.W.nsIn K mainGlobals "enumerate" = some none)
    (bmax : PySem.W.nsIn K mainGlobals "max" = some none)
    (btuple : PySem.W.nsIn K mainGlobals "tuple" = some none)
    (cWIDEST_STRIP : PySem.W.nsIn K mainGlobals "WIDEST_STRIP" = some (some (.int 60 tWIDEST_STRIP)))
    (cLONGEST_WALL : PySem.W.nsIn K mainGlobals "LONGEST_WALL" = some (some (.int 200 tLONGEST_WALL)))
    (cALONG : PySem.W.nsIn K mainGlobals "ALONG" = some (some (.int 0 tALONG)))
    (cACROSS : PySem.W.nsIn K mainGlobals "ACROSS" = some (some (.int 1 tACROSS)))
    (cCHANGES_KEPT : PySem.W.nsIn K mainGlobals "CHANGES_KEPT" = some (some (.int 10 tCHANGES_KEPT)))
    (cNO_SUCH : PySem.W.nsIn K mainGlobals "NO_SUCH" = some (some (.int (-2) tNO_SUCH)))
    (cBEYOND_WALL : PySem.W.nsIn K mainGlobals "BEYOND_WALL" = some (some (.int (-16) tBEYOND_WALL)))
    (cNOT_AS_TOLD : PySem.W.nsIn K mainGlobals "NOT_AS_TOLD" = some (some (.int (-22) tNOT_AS_TOLD)))
    (cTOO_MANY : PySem.W.nsIn K mainGlobals "TOO_MANY" = some (some (.int (-28) tTOO_MANY)))
    (cNONE_CLEAR : PySem.W.nsIn K mainGlobals "NONE_CLEAR" = some (some (.int (-33) tNONE_CLEAR)))
    (cNOT_BEGUN : PySem.W.nsIn K mainGlobals "NOT_BEGUN" = some (some (.int (-61) tNOT_BEGUN)))
    (cMOST_OPENINGS : PySem.W.nsIn K mainGlobals "MOST_OPENINGS" = some (some (.int 5 tMOST_OPENINGS)))
    (cBEGIN : PySem.W.nsIn K mainGlobals "BEGIN" = some (some (.int 0 tBEGIN)))
    (cARGUMENT_COUNTS : PySem.W.nsIn K mainGlobals "ARGUMENT_COUNTS" = some (some (.ref AARGUMENT_COUNTS)))
    (lARGUMENT_COUNTS : K.lookup AARGUMENT_COUNTS = some ⟨.type "tuple", odARGUMENT_COUNTS, .seq #[.int 3 tARGUMENT_COUNTS0, .int 2 tARGUMENT_COUNTS1, .int 2 tARGUMENT_COUNTS2, .int 1 tARGUMENT_COUNTS3, .int 1 tARGUMENT_COUNTS4, .int 1 tARGUMENT_COUNTS5, .int 2 tARGUMENT_COUNTS6, .int 0 tARGUMENT_COUNTS7, .int 1 tARGUMENT_COUNTS8, .int 1 tARGUMENT_COUNTS9, .int 1 tARGUMENT_COUNTS10, .int 0 tARGUMENT_COUNTS11, .int 0 tARGUMENT_COUNTS12, .int 0 tARGUMENT_COUNTS13, .int 0 tARGUMENT_COUNTS14, .int 0 tARGUMENT_COUNTS15, .int 2 tARGUMENT_COUNTS16, .int 2 tARGUMENT_COUNTS17, .int 2 tARGUMENT_COUNTS18, .int 1 tARGUMENT_COUNTS19, .int 1 tARGUMENT_COUNTS20, .int 0 tARGUMENT_COUNTS21] nARGUMENT_COUNTS, slARGUMENT_COUNTS⟩)
    (cSTEPS : PySem.W.nsIn K mainGlobals "STEPS" = some (some (.ref ASTEPS)))
    (lSTEPS : K.lookup ASTEPS = some ⟨.type "tuple", odSTEPS, .seq #[.ref F32, .ref F34, .ref F35, .ref F37, .ref F38, .ref F39, .ref F40, .ref F41, .ref F42, .ref F43, .ref F44, .ref F45, .ref F46, .ref F47, .ref F48, .ref F49, .ref F51, .ref F52, .ref F53, .ref F54, .ref F55, .ref F56] nSTEPS, slSTEPS⟩) : Txt0 K mg CP CW :=
  ⟨⟨_, PySem.W.mg_of X G cWIDEST_STRIP, ⟨_, rfl⟩⟩,
    ⟨_, PySem.W.mg_of X G cLONGEST_WALL, ⟨_, rfl⟩⟩,
    ⟨_, PySem.W.mg_of X G cALONG, ⟨_, rfl⟩⟩,
    ⟨_, PySem.W.mg_of X G cACROSS, ⟨_, rfl⟩⟩,
    ⟨_, PySem.W.mg_of X G cCHANGES_KEPT, ⟨_, rfl⟩⟩,
    ⟨_, PySem.W.mg_of X G cNO_SUCH, ⟨_, rfl⟩⟩,
    ⟨_, PySem.W.mg_of X G cBEYOND_WALL, ⟨_, rfl⟩⟩,
    ⟨_, PySem.W.mg_of X G cNOT_AS_TOLD, ⟨_, rfl⟩⟩,
    ⟨_, PySem.W.mg_of X G cTOO_MANY, ⟨_, rfl⟩⟩,
    ⟨_, PySem.W.mg_of X G cNONE_CLEAR, ⟨_, rfl⟩⟩,
    ⟨_, PySem.W.mg_of X G cNOT_BEGUN, ⟨_, rfl⟩⟩,
    ⟨_, PySem.W.mg_of X G cMOST_OPENINGS, ⟨_, rfl⟩⟩,
    ⟨_, PySem.W.mg_of X G cBEGIN, ⟨_, rfl⟩⟩,
    ⟨AARGUMENT_COUNTS, ⟨_, PySem.W.mg_of X G cARGUMENT_COUNTS, rfl⟩, fun H => .inr ⟨_, _, _, lARGUMENT_COUNTS, rfl, rfl, (szl rfl), (.cons ⟨_, rfl⟩ (.cons ⟨_, rfl⟩ (.cons ⟨_, rfl⟩ (.cons ⟨_, rfl⟩ (.cons ⟨_, rfl⟩ (.cons ⟨_, rfl⟩ (.cons ⟨_, rfl⟩ (.cons ⟨_, rfl⟩ (.cons ⟨_, rfl⟩ (.cons ⟨_, rfl⟩ (.cons ⟨_, rfl⟩ (.cons ⟨_, rfl⟩ (.cons ⟨_, rfl⟩ (.cons ⟨_, rfl⟩ (.cons ⟨_, rfl⟩ (.cons ⟨_, rfl⟩ (.cons ⟨_, rfl⟩ (.cons ⟨_, rfl⟩ (.cons ⟨_, rfl⟩ (.cons ⟨_, rfl⟩ (.cons ⟨_, rfl⟩ (.cons ⟨_, rfl⟩ .nil))))))))))))))))))))))⟩⟩,
    ⟨ASTEPS, F32, F34, F35, F37, F38, F39, F40, F41, F42, F43, F44, F45, F46, F47, F48, F49, F51, F52, F53, F54, F55, F56, ⟨_, PySem.W.mg_of X G cSTEPS, rfl⟩, fun H => .inr ⟨_, _, _, lSTEPS, rfl, rfl, (szl rfl), (.cons rfl (.cons rfl (.cons rfl (.cons rfl (.cons rfl (.cons rfl (.cons rfl (.cons rfl (.cons rfl (.cons rfl (.cons rfl (.cons rfl (.cons rfl (.cons rfl (.cons rfl (.cons rfl (.cons rfl (.cons rfl (.cons rfl (.cons rfl (.cons rfl (.cons rfl .nil))))))))))))))))))))))⟩, PySem.W.mg_of X G a32, PySem.W.mg_of X G a34, PySem.W.mg_of X G a35, PySem.W.mg_of X G a37, PySem.W.mg_of X G a38, PySem.W.mg_of X G a39, PySem.W.mg_of X G a40, PySem.W.mg_of X G a41, PySem.W.mg_of X G a42, PySem.W.mg_of X G a43, PySem.W.mg_of X G a44, PySem.W.mg_of X G a45, PySem.W.mg_of X G a46, PySem.W.mg_of X G a47, PySem.W.mg_of X G a48, PySem.W.mg_of X G a49, PySem.W.mg_of X G a51, PySem.W.mg_of X G a52, PySem.W.mg_of X G a53, PySem.W.mg_of X G a54, PySem.W.mg_of X G a55, PySem.W.mg_of X G a56⟩,
    PySem.W.mg_none_of X G ball,
    PySem.W.mg_none_of X G blist,
    PySem.W.mg_none_of X G brange,
    PySem.W.mg_none_of X G blen,
    PySem.W.mg_none_of X G bmin,
    PySem.W.mg_none_of X G bany,
    PySem.W.mg_none_of X G benumerate,
    PySem.W.mg_none_of X G bmax,
    PySem.W.mg_none_of X G btuple,
    ⟨pgPlan, hdPlan, poPlan, saPlan⟩,
    PySem.W.mg_of X G aPlan,
    mkPlan,
    kcPlan,
    nPlanwide,
    nPlanacross,
    nPlanalong,
    nPlandoors,
    nPlansides,
    ⟨pgWorks, hdWorks, poWorks, saWorks⟩,
    PySem.W.mg_of X G aWorks,
    mkWorks,
    kcWorks,
    nWorksplan,
    nWorksearlier,
    ⟨_, _, fun_mk l0 d0 k0, ⟨a0, i0, k0⟩⟩,
    ⟨_, _, fun_mk l1 d1 k1, ⟨a1, i1, k1⟩⟩,
    ⟨_, _, fun_mk l2 d2 k2, ⟨a2, i2, k2⟩⟩,
    ⟨_, _, fun_mk l3 d3 k3, ⟨a3, i3, k3⟩⟩,
    ⟨_, _, fun_mk l4 d4 k4, ⟨a4, i4, k4⟩⟩,
    ⟨_, _, fun_mk l5 d5 k5, ⟨a5, i5, k5⟩⟩,
    ⟨_, _, fun_mk l6 d6 k6, PySem.W.mg_of X G a6⟩,
    ⟨_, _, fun_mk l7 d7 k7, PySem.W.mg_of X G a7⟩,
    ⟨_, _, fun_mk l8 d8 k8, PySem.W.mg_of X G a8⟩,
    ⟨_, _, fun_mk l9 d9 k9, PySem.W.mg_of X G a9⟩,
    ⟨_, _, fun_mk l10 d10 k10, PySem.W.mg_of X G a10⟩,
    ⟨_, _, fun_mk l11 d11 k11, PySem.W.mg_of X G a11⟩,
    ⟨_, _, fun_mk l12 d12 k12, PySem.W.mg_of X G a12⟩,
    ⟨_, _, fun_mk l13 d13 k13, PySem.W.mg_of X G a13⟩,
    ⟨_, _, fun_mk l14 d14 k14, PySem.W.mg_of X G a14⟩,
    ⟨_, _, fun_mk l15 d15 k15, PySem.W.mg_of X G a15⟩,
    ⟨_, _, fun_mk l16 d16 k16, PySem.W.mg_of X G a16⟩,
    ⟨_, _, fun_mk l17 d17 k17, PySem.W.mg_of X G a17⟩,
    ⟨_, _, fun_mk l18 d18 k18, PySem.W.mg_of X G a18⟩,
    ⟨_, _, fun_mk l19 d19 k19, PySem.W.mg_of X G a19⟩,
    ⟨globC_of X G tb20 hd20 a20 l20 d20 k20⟩,
    ⟨_, _, fun_mk l21 d21 k21, PySem.W.mg_of X G a21⟩,
    ⟨_, _, fun_mk l22 d22 k22, PySem.W.mg_of X G a22⟩,
    ⟨_, _, fun_mk l23 d23 k23, PySem.W.mg_of X G a23⟩,
    ⟨_, _, fun_mk l24 d24 k24, PySem.W.mg_of X G a24⟩,
    ⟨_, _, fun_mk l25 d25 k25, PySem.W.mg_of X G a25⟩,
    ⟨_, _, fun_mk l26 d26 k26, PySem.W.mg_of X G a26⟩,
    ⟨_, _, fun_mk l27 d27 k27, PySem.W.mg_of X G a27⟩,
    ⟨_, _, fun_mk l28 d28 k28, ⟨a28, i28, k28⟩⟩,
    ⟨_, _, fun_mk l29 d29 k29, ⟨a29, i29, k29⟩⟩,
    ⟨_, _, fun_mk l30 d30 k30, ⟨a30, i30, k30⟩⟩,
    ⟨_, _, fun_mk l31 d31 k31, ⟨a31, i31, k31⟩⟩,
    ⟨_, _, fun_mk l32 d32 k32, PySem.W.mg_of X G a32⟩,
    ⟨_, _, fun_mk l33 d33 k33, PySem.W.mg_of X G a33⟩,
    ⟨_, _, fun_mk l34 d34 k34, PySem.W.mg_of X G a34⟩,
    ⟨_, _, fun_mk l35 d35 k35, PySem.W.mg_of X G a35⟩,
    ⟨_, _, fun_mk l36 d36 k36, PySem.W.mg_of X G a36⟩,
    ⟨_, _, fun_mk l37 d37 k37, PySem.W.mg_of X G a37⟩,
    ⟨_, _, fun_mk l38 d38 k38, PySem.W.mg_of X G a38⟩,
    ⟨_, _, fun_mk l39 d39 k39, PySem.W.mg_of X G a39⟩,
    ⟨_, _, fun_mk l40 d40 k40, PySem.W.mg_of X G a40⟩,
    ⟨_, _, fun_mk l41 d41 k41, PySem.W.mg_of X G a41⟩,
    ⟨_, _, fun_mk l42 d42 k42, PySem.W.mg_of X G a42⟩,
    ⟨_, _, fun_mk l43 d43 k43, PySem.W.mg_of X G a43⟩,
    ⟨_, _, fun_mk l44 d44 k44, PySem.W.mg_of X G a44⟩,
    ⟨_, _, fun_mk l45 d45 k45, PySem.W.mg_of X G a45⟩,
    ⟨_, _, fun_mk l46 d46 k46, PySem.W.mg_of X G a46⟩,
    ⟨_, _, fun_mk l47 d47 k47, PySem.W.mg_of X G a47⟩,
    ⟨_, _, fun_mk l48 d48 k48, PySem.W.mg_of X G a48⟩,
    ⟨_, _, fun_mk l49 d49 k49, PySem.W.mg_of X G a49⟩,
    ⟨_, _, fun_mk l50 d50 k50, PySem.W.mg_of X G a50⟩,
    ⟨_, _, fun_mk l51 d51 k51, PySem.W.mg_of X G a51⟩,
    ⟨_, _, fun_mk l52 d52 k52, PySem.W.mg_of X G a52⟩,
    ⟨_, _, fun_mk l53 d53 k53, PySem.W.mg_of X G a53⟩,
    ⟨_, _, fun_mk l54 d54 k54, PySem.W.mg_of X G a54⟩,
    ⟨_, _, fun_mk l55 d55 k55, PySem.W.mg_of X G a55⟩,
    ⟨_, _, fun_mk l56 d56 k56, PySem.W.mg_of X G a56⟩,
    ⟨_, _, fun_mk l57 d57 k57, PySem.W.mg_of X G a57⟩,
    ⟨_, _, fun_mk l58 d58 k58, PySem.W.mg_of X G a58⟩⟩
theorem all_mk {P : Program} {w : World} {K : PySem.W.Frag} {mg : Str → Option Value} { CP CW fa : Addr} (hfa : mg "answers" = some (.ref fa)) (T : Txt0 K mg CP CW) :
    ∃ fd : FuncData, (∀ (s : Shared) (us : List Value), us.length = (["calls"] : List Str).length → BindsTo s fd ⟨us, []⟩ ((["calls"] : List Str).zip us)) ∧ ∀ base : Heap, K.In base → base.Ns mainGlobals mg → Bm mg base → FnOk P w K mg base CX0 10 fa fd ["calls"] (spAnswers K) := by
  obtain ⟨f, fd, F, hm⟩ := T.g_answers.ex
  rw [hfa] at hm
  cases hm
  refine ⟨fd, ?_, fun base _ _ hB => ok_answers ⟨T, hB⟩ F⟩
  obtain ⟨oc, od, kV, doc, pm, an, cdv, ct, osl, rfl, lk, hcd⟩ := F.ex
  exact fun s us hu => match us, hu with | [_], _ => .of_eq rfl
end Sd
open PySem PySem.W PyProof.Rows
def PySem.W.Fast.tw10917004669321541889 : Unit := ()
def PySem.W.Fast.tw4576594138309541792 : Unit := ()
def PySem.W.Fast.tw2227672741919506412 : Unit := ()
def PySem.W.Fast.tw12050781796436755806 : Unit := ()
def PySem.W.Fast.tw13824390748348661216 : Unit := ()
def PySem.W.Fast.tw4652699041065315883 : Unit := ()
def PySem.W.Fast.tw1160585457897015031 : Unit := ()
def PySem.W.Fast.tw16464180576682318721 : Unit := ()
def PySem.W.Fast.tw5688581920104947666 : Unit := ()
def PySem.W.Fast.tw16724648297066316186 : Unit := ()
set_option maxRecDepth 100000 in
set_option maxHeartbeats 0 in
theorem PySem.Challenge.cw_seamsdoors_s01_answers_holds : PySem.Challenge.rw_seamsdoors_s01_answers.Holds := by
  w_on; k_headS; (case hw => exact ⟨[.list [.int 21]], by decide +kernel, by decide +kernel⟩)
  k_fillS
  refine Sd.walk_specKT (x0 := "best_first") (r := PySem.Challenge.rw_seamsdoors_s01_answers) (k := 10) (CX := L2.CX0) (ps := ["calls"]) (sp := Sd.spAnswers) (by decide +kernel) ⟨_, rfl⟩ ?TB rfl rfl ⟨rfl, by decide, by decide⟩ (fun w h Y => PySem.W.kIn_of Y) ?F ?S (fun _ _ _ _ z => z)
  case TB =>
    intro P
    exact ⟨_, _, (show PySem.W.tabIn _ _ = some (166, 162) from by kernel_rfl), (by kernel_rfl)⟩
  case F =>
    intro w mg fa h Y KX G hmg
    refine' Sd.all_mk hmg (Sd.txt_mk KX G ?aPlan ?aWorks ?a0 ?i0 ?l0 ?d0 ?k0 ?a1 ?i1 ?l1 ?d1 ?k1 ?a2 ?i2 ?l2 ?d2 ?k2 ?a3 ?i3 ?l3 ?d3 ?k3 ?a4 ?i4 ?l4 ?d4 ?k4 ?a5 ?i5 ?l5 ?d5 ?k5 ?a6 ?l6 ?d6 ?k6 ?a7 ?l7 ?d7 ?k7 ?a8 ?l8 ?d8 ?k8 ?a9 ?l9 ?d9 ?k9 ?a10 ?l10 ?d10 ?k10 ?a11 ?l11 ?d11 ?k11 ?a12 ?l12 ?d12 ?k12 ?a13 ?l13 ?d13 ?k13 ?a14 ?l14 ?d14 ?k14 ?a15 ?l15 ?d15 ?k15 ?a16 ?l16 ?d16 ?k16 ?a17 ?l17 ?d17 ?k17 ?a18 ?l18 ?d18 ?k18 ?a19 ?l19 ?d19 ?k19 ?a20 ?l20 ?tb20 ?hd20 ?d20 ?k20 ?a21 ?l21 ?d21 ?k21 ?a22 ?l22 ?d22 ?k22 ?a23 ?l23 ?d23 ?k23 ?a24 ?l24 ?d24 ?k24 ?a25 ?l25 ?d25 ?k25 ?a26 ?l26 ?d26 ?k26 ?a27 ?l27 ?d27 ?k27 ?a28 ?i28 ?l28 ?d28 ?k28 ?a29 ?i29 ?l29 ?d29 ?k29 ?a30 ?i30 ?l30 ?d30 ?k30 ?a31 ?i31 ?l31 ?d31 ?k31 ?a32 ?l32 ?d32 ?k32 ?a33 ?l33 ?d33 ?k33 ?a34 ?l34 ?d34 ?k34 ?a35 ?l35 ?d35 ?k35 ?a36 ?l36 ?d36 ?k36 ?a37 ?l37 ?d37 ?k37 ?a38 ?l38 ?d38 ?k38 ?a39 ?l39 ?d39 ?k39 ?a40 ?l40 ?d40 ?k40 ?a41 ?l41 ?d41 ?k41 ?a42 ?l42 ?d42 ?k42 ?a43 ?l43 ?d43 ?k43 ?a44 ?l44 ?d44 ?k44 ?a45 ?l45 ?d45 ?k45 ?a46 ?l46 ?d46 ?k46 ?a47 ?l47 ?d47 ?k47 ?a48 ?l48 ?d48 ?k48 ?a49 ?l49 ?d49 ?k49 ?a50 ?l50 ?d50 ?k50 ?a51 ?l51 ?d51 ?k51 ?a52 ?l52 ?d52 ?k52 ?a53 ?l53 ?d53 ?k53 ?a54 ?l54 ?d54 ?k54 ?a55 ?l55 ?d55 ?k55 ?a56 ?l56 ?d56 ?k56 ?a57 ?l57 ?d57 ?k57 ?a58 ?l58 ?d58 ?k58 ?pgPlan ?hdPlan ?poPlan ?saPlan ?mkPlan ?kcPlan ?nPlanwide ?nPlanacross ?nPlanalong ?nPlandoors ?nPlansides ?pgWorks ?hdWorks ?poWorks ?saWorks ?mkWorks ?kcWorks ?nWorksplan ?nWorksearlier ?ball ?blist ?brange ?blen ?bmin ?bany ?benumerate ?bmax ?btuple ?cWIDEST_STRIP ?cLONGEST_WALL ?cALONG ?cACROSS ?cCHANGES_KEPT ?cNO_SUCH ?cBEYOND_WALL ?cNOT_AS_TOLD ?cTOO_MANY ?cNONE_CLEAR ?cNOT_BEGUN ?cMOST_OPENINGS ?cBEGIN ?cARGUMENT_COUNTS ?lARGUMENT_COUNTS ?cSTEPS ?lSTEPS)
    (case aPlan => k_is)
    (case aWorks => k_is)
    (case a0 => k_is)
    (case i0 => k_is)
    (case l0 => k_is)
    (case d0 => k_is)
    (case k0 => k_is)
    (case a1 => k_is)
    (case i1 => k_is)
    (case l1 => k_is)
    (case d1 => k_is)
    (case k1 => k_is)
    (case a2 => k_is)
    (case i2 => k_is)
    (case l2 => k_is)
    (case d2 => k_is)
    (case k2 => k_is)
    (case a3 => k_is)
    (case i3 => k_is)
    (case l3 => k_is)
    (case d3 => k_is)
    (case k3 => k_is)
    (case a4 => k_is)
    (case i4 => k_is)
    (case l4 => k_is)
    (case d4 => k_is)
    (case k4 => k_is)
    (case a5 => k_is)
    (case i5 => k_is)
    (case l5 => k_is)
    (case d5 => k_is)
    (case k5 => k_is)
    (case a6 => k_is)
    (case l6 => k_is)
    (case d6 => k_is)
    (case k6 => k_is)
    (case a7 => k_is)
    (case l7 => k_is)
    (case d7 => k_is)
    (case k7 => k_is)
    (case a8 => k_is)
    (case l8 => k_is)
    (case d8 => k_is)
    (case k8 => k_is)
    (case a9 => k_is)
    (case l9 => k_is)
    (case d9 => k_is)
    (case k9 => k_is)
    (case a10 => k_is)
    (case l10 => k_is)
    (case d10 => k_is)
    (case k10 => k_is)
    (case a11 => k_is)
    (case l11 => k_is)
    (case d11 => k_is)
    (case k11 => k_is)
    (case a12 => k_is)
    (case l12 => k_is)
    (case d12 => k_is)
    (case k12 => k_is)
    (case a13 => k_is)
    (case l13 => k_is)
    (case d13 => k_is)
    (case k13 => k_is)
    (case a14 => k_is)
    (case l14 => k_is)
    (case d14 => k_is)
    (case k14 => k_is)
    (case a15 => k_is)
    (case l15 => k_is)
    (case d15 => k_is)
    (case k15 => k_is)
    (case a16 => k_is)
    (case l16 => k_is)
    (case d16 => k_is)
    (case k16 => k_is)
    (case a17 => k_is)
    (case l17 => k_is)
    (case d17 => k_is)
    (case k17 => k_is)
    (case a18 => k_is)
    (case l18 => k_is)
    (case d18 => k_is)
    (case k18 => k_is)
    (case a19 => k_is)
    (case l19 => k_is)
    (case d19 => k_is)
    (case k19 => k_is)
    (case a20 => k_is)
    (case l20 => k_is)
    (case tb20 => exact (show PySem.W.tabIn _ _ = some (166, 162) from by kernel_rfl))
    (case hd20 => first | kernel_rfl | decide +kernel)
    (case d20 => k_is)
    (case k20 => k_is)
    (case a21 => k_is)
    (case l21 => k_is)
    (case d21 => k_is)
    (case k21 => k_is)
    (case a22 => k_is)
    (case l22 => k_is)
    (case d22 => k_is)
    (case k22 => k_is)
    (case a23 => k_is)
    (case l23 => k_is)
    (case d23 => k_is)
    (case k23 => k_is)
    (case a24 => k_is)
    (case l24 => k_is)
    (case d24 => k_is)
    (case k24 => k_is)
    (case a25 => k_is)
    (case l25 => k_is)
    (case d25 => k_is)
    (case k25 => k_is)
    (case a26 => k_is)
    (case l26 => k_is)
    (case d26 => k_is)
    (case k26 => k_is)
    (case a27 => k_is)
    (case l27 => k_is)
    (case d27 => k_is)
    (case k27 => k_is)
    (case a28 => k_is)
    (case i28 => k_is)
    (case l28 => k_is)
    (case d28 => k_is)
    (case k28 => k_is)
    (case a29 => k_is)
    (case i29 => k_is)
    (case l29 => k_is)
    (case d29 => k_is)
    (case k29 => k_is)
    (case a30 => k_is)
    (case i30 => k_is)
    (case l30 => k_is)
    (case d30 => k_is)
    (case k30 => k_is)
    (case a31 => k_is)
    (case i31 => k_is)
    (case l31 => k_is)
    (case d31 => k_is)
    (case k31 => k_is)
    (case a32 => k_is)
    (case l32 => k_is)
    (case d32 => k_is)
    (case k32 => k_is)
    (case a33 => k_is)
    (case l33 => k_is)
    (case d33 => k_is)
    (case k33 => k_is)
    (case a34 => k_is)
    (case l34 => k_is)
    (case d34 => k_is)
    (case k34 => k_is)
    (case a35 => k_is)
    (case l35 => k_is)
    (case d35 => k_is)
    (case k35 => k_is)
    (case a36 => k_is)
    (case l36 => k_is)
    (case d36 => k_is)
    (case k36 => k_is)
    (case a37 => k_is)
    (case l37 => k_is)
    (case d37 => k_is)
    (case k37 => k_is)
    (case a38 => k_is)
    (case l38 => k_is)
    (case d38 => k_is)
    (case k38 => k_is)
    (case a39 => k_is)
    (case l39 => k_is)
    (case d39 => k_is)
    (case k39 => k_is)
    (case a40 => k_is)
    (case l40 => k_is)
    (case d40 => k_is)
    (case k40 => k_is)
    (case a41 => k_is)
    (case l41 => k_is)
    (case d41 => k_is)
    (case k41 => k_is)
    (case a42 => k_is)
    (case l42 => k_is)
    (case d42 => k_is)
    (case k42 => k_is)
    (case a43 => k_is)
    (case l43 => k_is)
    (case d43 => k_is)
    (case k43 => k_is)
    (case a44 => k_is)
    (case l44 => k_is)
    (case d44 => k_is)
    (case k44 => k_is)
    (case a45 => k_is)
    (case l45 => k_is)
    (case d45 => k_is)
    (case k45 => k_is)
    (case a46 => k_is)
    (case l46 => k_is)
    (case d46 => k_is)
    (case k46 => k_is)
    (case a47 => k_is)
    (case l47 => k_is)
    (case d47 => k_is)
    (case k47 => k_is)
    (case a48 => k_is)
    (case l48 => k_is)
    (case d48 => k_is)
    (case k48 => k_is)
    (case a49 => k_is)
    (case l49 => k_is)
    (case d49 => k_is)
    (case k49 => k_is)
    (case a50 => k_is)
    (case l50 => k_is)
    (case d50 => k_is)
    (case k50 => k_is)
    (case a51 => k_is)
    (case l51 => k_is)
    (case d51 => k_is)
    (case k51 => k_is)
    (case a52 => k_is)
    (case l52 => k_is)
    (case d52 => k_is)
    (case k52 => k_is)
    (case a53 => k_is)
    (case l53 => k_is)
    (case d53 => k_is)
    (case k53 => k_is)
    (case a54 => k_is)
    (case l54 => k_is)
    (case d54 => k_is)
    (case k54 => k_is)
    (case a55 => k_is)
    (case l55 => k_is)
    (case d55 => k_is)
    (case k55 => k_is)
    (case a56 => k_is)
    (case l56 => k_is)
    (case d56 => k_is)
    (case k56 => k_is)
    (case a57 => k_is)
    (case l57 => k_is)
    (case d57 => k_is)
    (case k57 => k_is)
    (case a58 => k_is)
    (case l58 => k_is)
    (case d58 => k_is)
    (case k58 => k_is)
    (case pgPlan => k_is)
    (case hdPlan => k_is)
    (case poPlan => k_is)
    (case saPlan => k_is)
    (case mkPlan => k_is)
    (case kcPlan => k_is)
    (case nPlanwide => k_is)
    (case nPlanacross => k_is)
    (case nPlanalong => k_is)
    (case nPlandoors => k_is)
    (case nPlansides => k_is)
    (case pgWorks => k_is)
    (case hdWorks => k_is)
    (case poWorks => k_is)
    (case saWorks => k_is)
    (case mkWorks => k_is)
    (case kcWorks => k_is)
    (case nWorksplan => k_is)
    (case nWorksearlier => k_is)
    (case ball => k_is)
    (case blist => k_is)
    (case brange => k_is)
    (case blen => k_is)
    (case bmin => k_is)
    (case bany => k_is)
    (case benumerate => k_is)
    (case bmax => k_is)
    (case btuple => k_is)
    (case cWIDEST_STRIP => k_is)
    (case cLONGEST_WALL => k_is)
    (case cALONG => k_is)
    (case cACROSS => k_is)
    (case cCHANGES_KEPT => k_is)
    (case cNO_SUCH => k_is)
    (case cBEYOND_WALL => k_is)
    (case cNOT_AS_TOLD => k_is)
    (case cTOO_MANY => k_is)
    (case cNONE_CLEAR => k_is)
    (case cNOT_BEGUN => k_is)
    (case cMOST_OPENINGS => k_is)
    (case cBEGIN => k_is)
    (case cARGUMENT_COUNTS => k_is)
    (case lARGUMENT_COUNTS => k_is)
    (case cSTEPS => k_is)
    (case lSTEPS => k_is)
  case S =>
    intro K H xs a hO hPn hwi hask hx
    cases hx with
    | cons h1 h2 =>
      cases h2
      cases h1 with
      | lst hs ha =>
        have e := L2.ints_dw a.1 _ ha
        subst e
        exact ⟨_, a.1, rfl, L2.Same.seq (Sd.same_upd hPn) hs, ⟨#[], L2.upd_same, .inl rfl⟩, hask, fun H' p hp => .lst (L2.SqL.of hp) (L2.dw_ints _)⟩
