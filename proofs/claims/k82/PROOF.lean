import PyProof.Rows.All
import Wide.All
import OpenK.AllK
import Wide.FinOn
import Lean
import PyProof.EqAt
import PyProof.EqKinds
import PyProof.TupleCall
import KE.KSortTup
import PyProof.NeKinds
import KE.KRevIter
import PyProof.FitsBits
import PyProof.P3Eq
import PySem.Challenge.RW_mapdye_k82_whole_a_tie_taken_away
set_option Elab.async false
set_option linter.all false
set_option maxRecDepth 100000
/-! THE HAND LAYER, for ints, bools, texts, own classes, LISTS and tuples (index, slices, in, append, pop ..), calls, loops. Paste it whole ahead of your own text; what your proof does not reach may be deleted. -/
namespace L2
open PySem PySem.Spec PyProof.Rows

/-- a key: an int or a str -/
abbrev Key := Sum Int Str
def keyIs : Key → Value → Bool
  | .inl k, v => Value.isInt k v
  | .inr x, v => Value.isStrOf x v
def keyH (w : World) : Key → Int
  | .inl k => hashInt k
  | .inr x => hashStr w x
theorem keyIs_shape : ∀ {k : Key} {v : Value}, keyIs k v = true → (∃ i t, k = Sum.inl i ∧ v = Value.int i t) ∨ (∃ x t, k = Sum.inr x ∧ v = Value.str x t)
  | .inl i, v, h => by
    obtain ⟨t, e⟩ := Value.isInt_shape (k := i) (v := v) h
    exact .inl ⟨i, t, rfl, e⟩
  | .inr x, v, h => by
    obtain ⟨t, e⟩ := Value.isStrOf_shape (x := x) (v := v) h
    exact .inr ⟨x, t, rfl, e⟩
theorem key_ll (a b : Int) : decide ((Sum.inl a : Key) = Sum.inl b) = (a == b) := by
  by_cases e : a = b
  · subst e; simp
  · have h : ¬ (Sum.inl a : Key) = Sum.inl b := fun q => e (Sum.inl.inj q)
    rw [decide_eq_false h]
    exact (beq_eq_false_iff_ne.mpr e).symm
theorem key_rr (a b : Str) : decide ((Sum.inr a : Key) = Sum.inr b) = decide (a = b) := by
  by_cases e : a = b
  · subst e; simp
  · have h : ¬ (Sum.inr a : Key) = Sum.inr b := fun q => e (Sum.inr.inj q)
    rw [decide_eq_false h, decide_eq_false e]
theorem key_lr (a : Int) (b : Str) : decide ((Sum.inl a : Key) = Sum.inr b) = false := decide_eq_false (fun q => nomatch q)
theorem key_rl (a : Str) (b : Int) : decide ((Sum.inr a : Key) = Sum.inl b) = false := decide_eq_false (fun q => nomatch q)

def mixKind (prog : Program) (w : World) : PySem.KeyKind prog w Key where
  is := keyIs
  hash := keyH w
  inj := fun v a b ha hb => by
    rcases keyIs_shape ha with ⟨i, t, rfl, rfl⟩ | ⟨x, t, rfl, rfl⟩
    · rcases keyIs_shape hb with ⟨j, u, rfl, e⟩ | ⟨y, u, rfl, e⟩
      · injection e with e1 _; rw [e1]
      · exact nomatch e
    · rcases keyIs_shape hb with ⟨j, u, rfl, e⟩ | ⟨y, u, rfl, e⟩
      · exact nomatch e
      · injection e with e1 _; rw [e1]
  byValue := fun k v h => by
    rcases keyIs_shape h with ⟨i, t, rfl, rfl⟩ | ⟨x, t, rfl, rfl⟩ <;> rfl
  pyHash := fun hv h => by
    rcases keyIs_shape hv with ⟨i, t, rfl, rfl⟩ | ⟨x, t, rfl, rfl⟩
    · exact wpAny_pyHash_int h
    · exact wpAny_pyHash_str h
  eqBool := fun hu hv h => by
    rcases keyIs_shape hu with ⟨i, t, rfl, rfl⟩ | ⟨x, t, rfl, rfl⟩
    · rcases keyIs_shape hv with ⟨j, u, rfl, rfl⟩ | ⟨y, u, rfl, rfl⟩
      · rw [key_ll] at h; exact wpAny_eqBool_int h
      · rw [key_lr] at h; exact SeqAt.EqAt.int_str i t y u _ _ _ _ h
    · rcases keyIs_shape hv with ⟨j, u, rfl, rfl⟩ | ⟨y, u, rfl, rfl⟩
      · rw [key_rl] at h; exact SeqAt.EqAt.str_int x t j u _ _ _ _ h
      · rw [key_rr] at h; exact wpAny_eqBool_str h
  «strs» := fun k x t v h => by
    rcases keyIs_shape h with ⟨i, u, rfl, e⟩ | ⟨y, u, rfl, e⟩
    · exact nomatch e
    · injection e with e1 _
      subst e1
      cases v <;> rfl

end L2

namespace L2
open PySem PySem.Spec PyProof.Rows

/-- a value, without the heap -/
inductive V where
  | non | bl (b : Bool) | int (i : Int) | str (x : Str) | byt (b : Array UInt8) | flt (b : UInt64) | ref (a : Addr) | ty (n : String)
  deriving DecidableEq

def RelV : V → Value → Prop
  | .non, u => u = Value.none
  | .bl b, u => u = Value.bool b
  | .int i, u => ∃ t, u = Value.int i t
  | .str x, u => ∃ t, u = Value.str x t
  | .byt b, u => ∃ t, u = Value.bytes b t
  | .flt b, u => ∃ t, u = Value.float b t
  | .ref a, u => u = Value.ref a
  | .ty n, u => u = Value.type n

abbrev Vals : List V → List Value → Prop := Paired RelV
theorem Vals.length {xs : List V} {us : List Value} (r : Vals xs us) : xs.length = us.length := Paired.length r
theorem Vals.get : ∀ {xs : List V} {us : List Value} {i : Nat} {x : V}, Vals xs us → xs[i]? = some x → ∃ u, us[i]? = some u ∧ RelV x u
  | _, _, _, _, .nil, e => by simp at e
  | _, _, 0, _, .cons r _, e => by simp at e; subst e; exact ⟨_, rfl, r⟩
  | _, _, i + 1, x, .cons _ t, e => by
    obtain ⟨u, h1, h2⟩ := Vals.get (i := i) (x := x) t (by simpa using e)
    exact ⟨u, by simpa using h1, h2⟩
theorem Vals.set {x : V} {u : Value} (r : RelV x u) : ∀ {xs : List V} {us : List Value} (i : Nat), Vals xs us → Vals (xs.set i x) (us.set i u)
  | _, _, _, .nil => .nil
  | _, _, 0, .cons _ t => .cons r t
  | _, _, i + 1, .cons q t => .cons q (Vals.set r i t)
theorem Vals.append : ∀ {xs ys : List V} {us ws : List Value}, Vals xs us → Vals ys ws → Vals (xs ++ ys) (us ++ ws)
  | _, _, _, _, .nil, s => s
  | _, _, _, _, .cons r t, s => .cons r (Vals.append t s)
theorem Vals.take : ∀ {xs : List V} {us : List Value} (n : Nat), Vals xs us → Vals (xs.take n) (us.take n)
  | _, _, 0, _ => .nil
  | _, _, _ + 1, .nil => .nil
  | _, _, n + 1, .cons r t => .cons r (Vals.take n t)
theorem Vals.drop : ∀ {xs : List V} {us : List Value} (n : Nat), Vals xs us → Vals (xs.drop n) (us.drop n)
  | _, _, 0, r => r
  | _, _, _ + 1, .nil => .nil
  | _, _, n + 1, .cons _ t => Vals.drop n t
def RelO : Option V → Option Value → Prop
  | some v, some u => RelV v u
  | none, none => True
  | _, _ => False
def KV {κ : Type} : List (κ × V) → List (κ × Value) → Prop := Paired fun (p : κ × V) (q : κ × Value) => p.1 = q.1 ∧ RelV p.2 q.2

/-- a key of a dict (00_mix): an int or a text -/
def kV : Key → V
  | .inl i => .int i
  | .inr x => .str x

/-- what stands at a tracked address -/
inductive HO where
  /-- a list -/
  | lst (xs : List V)
  /-- a tuple (never changes) -/
  | tup (xs : List V)
  /-- a dict whose keys are ints and texts; one whose keys are tuples of ints and texts (the empty one is both) -/
  | dK (kvs : List (Key × V)) | dT (kvs : List (List Key × V))
  /-- a set of ints: its members, its size -/
  | set (S : Int → Bool) (n : Nat)
  /-- an instance of the class at C, its dict at dx, its attributes -/
  | ins (C dx : Addr) (fs : List (Str × V))
  /-- the dict of the instance at x -/
  | own (x : Addr)
  /-- the dict of an exception -/
  | xd (fs : List (Str × V))
  /-- a bound method, f of x -/
  | met (f x : Addr)
  /-- a range object lo, lo + 1, .. below hi -/
  | rng (lo hi : Int)
  /-- a thing that is known to the object (the script; a dict while a loop walks it): read, never written while it is so -/
  | frz (o : Obj) (u : HO)
  /-- a code object's table -/
  | tbl (ps : Array Value)
  /-- any other thing, by what is true of its one object (a def of one's own: SetO a S n := HO.ext fun h => ..) -/
  | ext (φ : Heap → Prop)

abbrev Hp := Addr → Option HO
def upd (H : Hp) (a : Addr) (o : HO) : Hp := fun b => if b = a then some o else H b
theorem upd_same {H : Hp} {a : Addr} {o : HO} : upd H a o a = some o := by unfold upd; rw [if_pos rfl]
theorem upd_ne {H : Hp} {a b : Addr} {o : HO} (h : b ≠ a) : upd H a o b = H b := by unfold upd; rw [if_neg h]
theorem ne_of_none {H : Hp} {a b : Addr} {o : HO} (h : H a = some o) (h' : H b = none) : a ≠ b := by
  intro e; subst e; rw [h] at h'; cases h'

section
variable (P : Program) (w : World)
def ObjOk (H : Hp) (h : Heap) (a : Addr) : HO → Prop
  | .lst xs => xs.length ≤ sizeLine ∧ ∃ (its : List Value) (n : Nat), Vals xs its ∧ h.get? a = some { cls := .type "list", data := .seq its.toArray n }
  | .tup xs => xs.length ≤ sizeLine ∧ ∃ its : List Value, Vals xs its ∧ IsTup h a its.toArray
  | .dK kvs => kvs.length ≤ sizeLine ∧ (a == sysModules) = false ∧ ∃ vs, KV kvs vs ∧ h.DictOf (mixKind P w) a vs
  | .dT kvs => kvs.length ≤ sizeLine ∧ (a == sysModules) = false ∧ ∃ xs : List (List Key × Addr × Value),
      Paired (fun (p : List Key × V) (q : List Key × Addr × Value) => p.1 = q.1 ∧ H q.2.1 = some (.tup (p.1.map kV)) ∧ RelV p.2 q.2.2) kvs xs ∧
      ∃ o es ep, h.get? a = some o ∧ o.ExactDict ∧ o.data = .dict es ep ∧ es.toList = xs.map (entryOfKey (tupleKind (mixKind P w))) ∧ (xs.map (·.1)).Nodup
  | .set S n => h.SetOf (intKind P w) a S n
  | .ins C dx fs => H dx = some (.own a) ∧ fs.length ≤ 1000 ∧ dx ≠ a ∧ h.get? a = some (PySem.W.instObj C dx) ∧
      ∃ mA, h.Ns1 dx mA ∧ (∀ f, RelO (fs.lookup f) (mA f)) ∧ PySem.Within mA (fs.map (·.1))
  | .own _ => ∃ o, h.get? a = some o
  | .xd fs => ∃ mA, h.Ns1 a mA ∧ ∀ f, RelO (fs.lookup f) (mA f)
  | .rng lo hi => ∃ t u v, h.get? a = some { cls := .type "range", data := .fields #[.int lo t, .int hi u, .int 1 v] }
  | .frz o u => h.get? a = some o ∧ ObjOk H h a u
  | .tbl ps => h.get? a = some { cls := .none, data := .fields ps }
  | .met f x => h.get? a = some (PySem.W.methodObj (.ref f) (.ref x))
  | .ext φ => φ h ∧ (∃ o, h.get? a = some o) ∧ ∀ h1 h2 : Heap, φ h1 → (∀ o, h1.get? a = some o → h2.get? a = some o) → φ h2
/-- the abstract heap is held -/
def HOk (H : Hp) (h : Heap) : Prop := ∀ a o, H a = some o → ObjOk P w H h a o
end

section
variable {P : Program} {w : World} {H H' : Hp} {h h' : Heap} {a : Addr} {o : HO}
theorem ObjOk.lt (x : ObjOk P w H h a o) : a < h.objs.size := by
  cases o with
  | lst xs => obtain ⟨_, _, _, _, e⟩ := x; exact Heap.lt_size e
  | tup xs => obtain ⟨_, _, _, p⟩ := x; exact p.lt
  | dK kvs => obtain ⟨_, _, _, _, o, _, _, e, _⟩ := x; exact Heap.lt_size e
  | dT kvs => obtain ⟨_, _, _, _, o, _, _, e, _⟩ := x; exact Heap.lt_size e
  | set S n => obtain ⟨o, _, _, _, e, _⟩ := x; exact Heap.lt_size e
  | ins C dx fs => obtain ⟨_, _, _, e, _⟩ := x; exact Heap.lt_size e
  | own y => obtain ⟨_, e⟩ := x; exact Heap.lt_size e
  | xd fs => obtain ⟨_, ⟨_, _, _, e, _⟩, _⟩ := x; exact Heap.lt_size e
  | rng lo hi => obtain ⟨_, _, _, e⟩ := x; exact Heap.lt_size e
  | frz ob u => obtain ⟨e, _⟩ := x; exact Heap.lt_size e
  | tbl ps => exact Heap.lt_size (show h.get? a = some _ from x)
  | met f y => exact Heap.lt_size (show h.get? a = some _ from x)
  | ext φ => obtain ⟨_, ⟨_, e⟩, _⟩ := x; exact Heap.lt_size e
theorem Paired.mapP {α β : Type} {F G : α → β → Prop} : ∀ {l₁ : List α} {l₂ : List β}, Paired F l₁ l₂ → (∀ a b, F a b → G a b) → Paired G l₁ l₂
  | _, _, .nil, _ => .nil
  | _, _, .cons r t, f => .cons (f _ _ r) (Paired.mapP t f)
/-- what an object's description leans on: its own object, its own dict, the tuples -/
theorem ObjOk.stay (x : ObjOk P w H h a o) (k : ∀ b u, (b = a ∨ H b = some (.own a)) → h.get? b = some u → h'.get? b = some u)
    (ho : ∀ b, H b = some (.own a) → H' b = some (.own a)) (ht : ∀ b xs, H b = some (.tup xs) → H' b = some (.tup xs)) : ObjOk P w H' h' a o := by
  induction o with
  | lst xs => obtain ⟨z, its, n, r, e⟩ := x; exact ⟨z, its, n, r, k _ _ (.inl rfl) e⟩
  | tup xs => obtain ⟨z, its, r, ob, e, c⟩ := x; exact ⟨z, its, r, ob, k _ _ (.inl rfl) e, c⟩
  | dK kvs => obtain ⟨z, y, vs, r, ob, es, ep, e, c⟩ := x; exact ⟨z, y, vs, r, ob, es, ep, k _ _ (.inl rfl) e, c⟩
  | dT kvs =>
    obtain ⟨z, y, xs, r, ob, es, ep, e, c⟩ := x
    exact ⟨z, y, xs, Paired.mapP r fun p q z => ⟨z.1, ht _ _ z.2.1, z.2.2⟩, ob, es, ep, k _ _ (.inl rfl) e, c⟩
  | set S n => obtain ⟨ob, es, ep, t, e, c⟩ := x; exact ⟨ob, es, ep, t, k _ _ (.inl rfl) e, c⟩
  | ins C dx fs =>
    obtain ⟨d, z, ne, e, mA, ⟨od, es, ep, e2, c⟩, r⟩ := x
    exact ⟨ho _ d, z, ne, k _ _ (.inl rfl) e, mA, ⟨od, es, ep, k _ _ (.inr d) e2, c⟩, r⟩
  | own y => obtain ⟨ob, e⟩ := x; exact ⟨ob, k _ _ (.inl rfl) e⟩
  | xd fs => obtain ⟨mA, ⟨od, es, ep, e, c⟩, r⟩ := x; exact ⟨mA, ⟨od, es, ep, k _ _ (.inl rfl) e, c⟩, r⟩
  | rng lo hi => obtain ⟨t, u, v, e⟩ := x; exact ⟨t, u, v, k _ _ (.inl rfl) e⟩
  | frz ob u ih => obtain ⟨e, q⟩ := x; exact ⟨k _ _ (.inl rfl) e, ih q⟩
  | tbl ps =>
    have e : h.get? a = some { cls := .none, data := .fields ps } := x
    show h'.get? a = some { cls := .none, data := .fields ps }
    exact k a _ (.inl rfl) e
  | met f y =>
    have e : h.get? a = some (PySem.W.methodObj (.ref f) (.ref y)) := x
    show h'.get? a = some (PySem.W.methodObj (.ref f) (.ref y))
    exact k a _ (.inl rfl) e
  | ext φ => obtain ⟨p, ⟨o, e⟩, st⟩ := x; exact ⟨st _ _ p fun o q => k _ _ (.inl rfl) q, ⟨o, k _ _ (.inl rfl) e⟩, st⟩
theorem HOk.lt (x : HOk P w H h) (e : H a = some o) : a < h.objs.size := (x a o e).lt
theorem HOk.fresh (x : HOk P w H h) (e : h.objs.size ≤ a) : H a = none := by
  cases q : H a with
  | none => rfl
  | some u => exact absurd (Nat.lt_of_lt_of_le (x.lt q) e) (Nat.lt_irrefl _)
/-- every object of the heap is kept -/
theorem HOk.kept (x : HOk P w H h) (k : ∀ b u, h.get? b = some u → h'.get? b = some u) : HOk P w H h' := fun a o e =>
  (x a o e).stay (fun b u _ q => k b u q) (fun _ q => q) fun _ _ q => q
/-- a new object is laid and tracked -/
theorem HOk.laid (x : HOk P w H h) (k : ∀ b u, h.get? b = some u → h'.get? b = some u) (hp : h.objs.size ≤ a) (new : ObjOk P w (upd H a o) h' a o) : HOk P w (upd H a o) h' := fun b u e => by
  have hn := x.fresh hp
  by_cases hb : b = a
  · subst hb; rw [upd_same] at e; cases e; exact new
  · rw [upd_ne hb] at e
    exact (x b u e).stay (fun c v _ q => k c v q) (fun c q => by rw [upd_ne (ne_of_none q hn)]; exact q) fun c xs q => by rw [upd_ne (ne_of_none q hn)]; exact q
end

/-- what may be read as u: it is u, or a known u -/
def Rd (H : Hp) (a : Addr) (u : HO) : Prop := H a = some u ∨ ∃ o, H a = some (.frz o u)
theorem Rd.ok {P : Program} {w : World} {H : Hp} {h : Heap} {a : Addr} {u : HO} (r : Rd H a u) (x : HOk P w H h) : ObjOk P w H h a u := by
  rcases r with r | ⟨o, r⟩
  · exact x a u r
  · obtain ⟨_, q⟩ := x a _ r
    exact q
/-- what may be written -/
def Mut : Option HO → Prop
  | some (.lst _) => True
  | some (.dK _) => True
  | some (.dT _) => True
  | some (.set _ _) => True
  | some (.ins _ _ _) => True
  | some (.ext _) => True
  | _ => False
section
variable {P : Program} {w : World} {H : Hp} {h h' : Heap} {x e : Addr} {o' : HO}
/-- the object at e is changed: x itself, or the dict of the instance x -/
theorem HOk.write (ok : HOk P w H h) (mu : Mut (H x)) (he : e = x ∨ H e = some (.own x)) (k : ∀ b u, b ≠ e → h.get? b = some u → h'.get? b = some u) (heo : ∃ u, h'.get? e = some u)
    (new : ObjOk P w (upd H x o') h' x o') : HOk P w (upd H x o') h' := fun b u q => by
  have nown : ∀ c y, H c = some (.own y) → c ≠ x := fun c y r z => by subst z; rw [r] at mu; exact mu
  have ntup : ∀ c xs, H c = some (.tup xs) → c ≠ x := fun c xs r z => by subst z; rw [r] at mu; exact mu
  by_cases hb : b = x
  · subst hb; rw [upd_same] at q; cases q; exact new
  · rw [upd_ne hb] at q
    by_cases hbe : b = e
    · have q' : H b = some (.own x) := by
        rcases he with z | z
        · exact absurd (hbe.trans z) hb
        · rw [hbe]; exact z
      rw [q] at q'; cases q'
      obtain ⟨v, hv⟩ := heo
      exact ⟨v, by rw [hbe]; exact hv⟩
    · refine (ok b u q).stay (fun c v hc r => k c v ?_ r) (fun c r => by rw [upd_ne (nown c b r)]; exact r) fun c xs r => by rw [upd_ne (ntup c xs r)]; exact r
      rcases hc with rfl | hc
      · exact hbe
      · rintro rfl
        rcases he with z | z
        · exact nown c b hc z
        · rw [hc] at z; cases z; exact hb rfl
end

/-! ### kept unless tracked; of the frames at fs (the callers') the slots may change (an exception that passes writes there); of the records at ex (iterators) nothing is said -/
structure Un (fs ex : List Addr) (H H' : Hp) (h h' : Heap) : Prop where
  keep : ∀ b o, h.get? b = some o → H b = none → b ∉ fs → b ∉ ex → h'.get? b = some o
  slot : ∀ b o, h.get? b = some o → H b = none → b ∈ fs → b ∉ ex → ∃ sl, h'.get? b = some { o with slots := sl }
  free : ∀ b o, h.get? b = some o → H b = none → b ∉ ex → H' b = none
  there : ∀ b o, h.get? b = some o → b ∉ ex → ∃ o', h'.get? b = some o'
  tups : ∀ b xs, H b = some (.tup xs) → H' b = some (.tup xs)
  frzs : ∀ b o u, H b = some (.frz o u) → H' b = some (.frz o u)
  tbls : ∀ b ps, H b = some (.tbl ps) → ∃ more, H' b = some (.tbl (ps ++ more))
section
variable {fs fs' ex ex' : List Addr} {H H1 H2 : Hp} {h h1 h2 h' : Heap} {a x e : Addr} {o : HO}
theorem Un.any (u : Un fs ex H H1 h h1) {b : Addr} {ob : Obj} (q : h.get? b = some ob) (n : H b = none) (hx : b ∉ ex) : ∃ sl, h1.get? b = some { ob with slots := sl } := by
  by_cases hb : b ∈ fs
  · exact u.slot b ob q n hb hx
  · exact ⟨ob.slots, u.keep b ob q n hb hx⟩
theorem Un.kept (k : ∀ b u, h.get? b = some u → h'.get? b = some u) : Un fs ex H H h h' :=
  ⟨fun b ob q _ _ _ => k b ob q, fun b ob q _ _ _ => ⟨ob.slots, k b ob q⟩, fun _ _ _ n _ => n, fun b ob q _ => ⟨ob, k b ob q⟩, fun _ _ q => q, fun _ _ _ q => q, fun _ ps q => ⟨#[], by rw [q]; simp⟩⟩
theorem Un.refl : Un fs ex H H h h := Un.kept fun _ _ q => q
theorem Un.laid (k : ∀ b u, h.get? b = some u → h'.get? b = some u) (hp : h.objs.size ≤ a) (hn : H a = none) : Un fs ex H (upd H a o) h h' where
  keep := fun b u q _ _ _ => k b u q
  slot := fun b u q _ _ _ => ⟨u.slots, k b u q⟩
  free := fun b u q n _ => by rw [upd_ne (Nat.ne_of_lt (Nat.lt_of_lt_of_le (Heap.lt_size q) hp))]; exact n
  there := fun b u q _ => ⟨u, k b u q⟩
  tups := fun b xs q => by rw [upd_ne (ne_of_none q hn)]; exact q
  frzs := fun b u xs q => by rw [upd_ne (ne_of_none q hn)]; exact q
  tbls := fun b ps q => ⟨#[], by rw [upd_ne (ne_of_none q hn), q]; simp⟩
theorem Un.write (mu : Mut (H x)) (he : e = x ∨ H e = some (.own x)) (k : ∀ b u, b ≠ e → h.get? b = some u → h'.get? b = some u) (heo : ∃ u, h'.get? e = some u) : Un fs ex H (upd H x o) h h' := by
  have hx : ∀ b, H b = none → b ≠ x := fun b n z => by subst z; rw [n] at mu; exact mu
  have hb : ∀ b, H b = none → b ≠ e := fun b n z => by
    subst z
    rcases he with r | r
    · exact hx b n r
    · rw [n] at r; cases r
  have hm : ∀ b u, H b = some u → ¬ Mut (some u) → b ≠ x := fun b u q nm z => by subst z; rw [q] at mu; exact nm mu
  refine ⟨fun b u q n _ _ => k b u (hb b n) q, fun b u q n _ _ => ⟨u.slots, k b u (hb b n) q⟩, fun b u q n _ => by rw [upd_ne (hx b n)]; exact n, fun b u q _ => ?_,
    fun b xs q => by rw [upd_ne (hm b _ q fun z => z)]; exact q, fun b u xs q => by rw [upd_ne (hm b _ q fun z => z)]; exact q, fun b ps q => ⟨#[], by rw [upd_ne (hm b _ q fun z => z), q]; simp⟩⟩
  by_cases hbe : b = e
  · subst hbe; exact heo
  · exact ⟨u, k b u hbe q⟩
end

/-! ### the heap without what is tracked -/
def trk (h : Heap) (H : Hp) : List Addr := (List.range h.objs.size).filter fun a => (H a).isSome
def hidT (h : Heap) (H : Hp) : Heap := PySem.W.hideAll h (trk h H)
theorem hidT_size (h : Heap) (H : Hp) : (hidT h H).objs.size = h.objs.size := PySem.W.hideAll_size _ _
theorem hidT_get {h : Heap} {H : Hp} {b : Addr} {o : Obj} (e : h.get? b = some o) (n : H b = none) : (hidT h H).get? b = some o :=
  PySem.W.hideAll_get _ e fun hm => by
    have q : (H b).isSome = true := (List.mem_filter.mp hm).2
    rw [n] at q; simp at q
theorem of_hidT {h : Heap} {H : Hp} {b : Addr} {o : Obj} (e : (hidT h H).get? b = some o) : h.get? b = some o ∧ H b = none := by
  have e' : h.get? b = some o := PySem.W.of_hideAll (trk h H) e
  refine ⟨e', ?_⟩
  cases q : H b with
  | none => rfl
  | some x =>
    have hm : b ∈ trk h H := List.mem_filter.mpr ⟨List.mem_range.mpr (Heap.lt_size e'), by simp [q]⟩
    have z : (hidT h H).get? b = none := PySem.W.hideAll_none (trk h H) hm
    rw [z] at e; cases e

/-! ### OpenK's ledger, filled with every new object but one -/
end L2

namespace L2
open PySem PySem.Spec PyProof.Rows

/-- the module's facts, over the base: the heap at the law's entry without what is tracked there -/
structure Mod (K : PySem.W.Frag) (mg : Str → Option Value) (base : Heap) : Prop where
  kin : K.In base
  glob : base.Ns mainGlobals mg
  blt : ∃ mb, base.Ns builtinsNs mb ∧ ∀ x : Str, x ≠ "__name__" → mb x = bootBuiltins x
  nolimit : base.NoLimit

/-- the context: a def's body (or a comprehension's block) running. base: fixed through the whole law; s₀, H₀: the entry; outer: the frames whose slots others may change (a def's callers); stack: all frames that run;
   ex: iterators that were made ahead of the entry and are walked here (a comprehension's); fn: the names whose cells were made at the entry (a def: all; a comprehension's block: its own); calm: not within an except suite; pn: pins that every state bears; xe: what is wanted of an exception that leaves the code -/
structure Cx where
  prog : Program
  w : World
  K : PySem.W.Frag
  mg : Str → Option Value
  base : Heap
  A : Around
  N : List Str
  s₀ : Shared
  H₀ : Hp
  env : Env
  outer : List Env
  stack : List Env
  ex : List Addr
  fn : Str → Bool
  calm : Bool
  pn : List (Addr × Obj)
  xe : Value → Shared → Prop
/-- the callers' frames -/
def frs (l : List Env) : List Addr := l.filterMap (·.frame)
abbrev Cx.fs (X : Cx) : List Addr := frs X.outer

def Vis (sc : Scope) (x : Str) : Prop := sc.names.lookup x = some .local ∨ sc.names.lookup x = some .cell ∨ sc.names.lookup x = some .free
def Loc (sc : Scope) (x : Str) : Prop := sc.names.lookup x = some .local ∨ sc.names.lookup x = some .cell
def Look (env : Env) (h : Heap) (m : Str → Option Value) (x : Str) (u : Value) : Prop :=
  (env.kindOf x = some .local ∧ m x = some u) ∨ ((env.kindOf x = some .cell ∨ env.kindOf x = some .free) ∧ ∃ c, env.cells.lookup x = some c ∧ h.IsCell c (some u))

structure Cx.Ok (X : Cx) : Prop where
  mod : Mod X.K X.mg X.base
  kind : X.env.scope.kind = .function
  glob : X.env.globals = mainGlobals
  blt : X.env.builtins = builtinsNs
  above : X.s₀.heap.objs.size ≤ X.env.locals
  inj : ∀ x y c, X.env.cells.lookup x = some c → X.env.cells.lookup y = some c → x = y
  has : ∀ x, (X.env.kindOf x = some .cell ∨ X.env.kindOf x = some .free) → ∃ c, X.env.cells.lookup x = some c
  cab : ∀ x c, X.fn x = true → X.env.cells.lookup x = some c → X.s₀.heap.objs.size ≤ c
  hd : X.calm = true → X.A.handled = none
  frames : X.A.frames = some X.stack
  stk : X.stack = X.outer ∨ (X.stack = X.env :: X.outer ∧ X.env.frame = some X.env.locals)
  exf : ∀ b ∈ X.ex, b ≠ X.env.locals ∧ ∀ x c, X.env.cells.lookup x = some c → c ≠ b
  bs : ∀ b o, X.base.get? b = some o → X.s₀.heap.get? b = some o ∧ X.H₀ b = none
  bsz : X.base.objs.size ≤ X.s₀.heap.objs.size
  noex : ∀ b o, X.base.get? b = some o → b ∉ X.ex
  exfs : ∀ b ∈ X.ex, b ∉ X.fs
  funs : X.s₀.heap.FunFrames X.base X.outer
  frf : ∀ b ∈ X.fs, X.H₀ b = none

structure Inv (X : Cx) (pins : List (Addr × Obj)) (σ : List (Option V)) (H : Hp) (s : Shared) : Prop where
  ok : X.Ok
  os : s.os = X.s₀.os
  bare : AllBare s.gens
  base : Un X.fs X.ex X.H₀ H X.s₀.heap s.heap
  loc : ∃ m, s.heap.Ns X.env.locals m ∧ ∀ (i : Nat) (x : Str) (v : V), X.N[i]? = some x → σ[i]? = some (some v) → Vis X.env.scope x → ∃ u, RelV v u ∧ Look X.env s.heap m x u
  cell : ∀ x c, X.env.cells.lookup x = some c → ∃ v, s.heap.IsCell c v
  free : H X.env.locals = none
  freeC : ∀ x c, X.env.cells.lookup x = some c → H c = none
  pin : ∀ p ∈ X.pn ++ pins, s.heap.get? p.1 = some p.2 ∧ H p.1 = none ∧ p.1 ≠ X.env.locals ∧ p.1 ∉ X.fs ∧ ∀ v, p.2.data ≠ .cell v
  hok : HOk X.prog X.w H s.heap
  len : σ.length = X.N.length

section
variable {X : Cx} {pins : List (Addr × Obj)} {σ : List (Option V)} {H H' : Hp} {s : Shared} {h' : Heap}

theorem Cx.Ok.nofr (ok : X.Ok) {b : Addr} {o : Obj} (e : X.base.get? b = some o) : b ∉ X.fs := fun hb => by
  have := (ok.funs.mem hb).1
  rw [e] at this; cases this
theorem Inv.bs (I : Inv X pins σ H s) : ∀ b o, X.base.get? b = some o → s.heap.get? b = some o ∧ H b = none := fun b o e =>
  ⟨I.base.keep b o (I.ok.bs b o e).1 (I.ok.bs b o e).2 (I.ok.nofr e) (I.ok.noex b o e), I.base.free b o (I.ok.bs b o e).1 (I.ok.bs b o e).2 (I.ok.noex b o e)⟩
theorem Inv.bk (I : Inv X pins σ H s) : ∀ b o, X.base.get? b = some o → s.heap.get? b = some o := fun b o e => (I.bs b o e).1
theorem Inv.mod (I : Inv X pins σ H s) : Mod X.K X.mg X.base := I.ok.mod
theorem Inv.kIn (I : Inv X pins σ H s) : X.K.In s.heap := I.ok.mod.kin.keeps I.bk
theorem Inv.lt (I : Inv X pins σ H s) : X.env.locals < s.heap.objs.size := let ⟨_, hn, _⟩ := I.loc; hn.lt
theorem Inv.sz (I : Inv X pins σ H s) : X.s₀.heap.objs.size ≤ s.heap.objs.size := Nat.le_trans I.ok.above (Nat.le_of_lt I.lt)
theorem Inv.nofs (I : Inv X pins σ H s) {a : Addr} (h : s.heap.objs.size ≤ a) : a ∉ X.fs := fun hb => by
  obtain ⟨_, o, ho, _⟩ := I.ok.funs.mem hb
  exact absurd (Nat.lt_of_lt_of_le (Heap.lt_size ho) (Nat.le_trans I.sz h)) (Nat.lt_irrefl _)
theorem Inv.cne (I : Inv X pins σ H s) : ∀ x c, X.env.cells.lookup x = some c → c ≠ X.env.locals := fun x c e z => by
  obtain ⟨v, o, ho, hd⟩ := I.cell x c e
  obtain ⟨m, ⟨o', es, ep, ho', hd', _⟩, _⟩ := I.loc
  rw [z, ho'] at ho; cases ho; rw [hd'] at hd; cases hd
theorem Inv.funs (I : Inv X pins σ H s) : s.heap.FunFrames X.base X.outer := by
  have all : ∀ (l : List Env), (∀ b ∈ frs l, b ∈ X.fs) → X.s₀.heap.FunFrames X.base l → s.heap.FunFrames X.base l := by
    intro l
    induction l with
    | nil => intro _ _; trivial
    | cons env r ih =>
      intro hs hl
      obtain ⟨hk, ⟨L, o, hf, hn, ho, hd⟩, hr⟩ := hl
      have hL : L ∈ X.fs := hs L (by unfold frs; rw [List.filterMap_cons, hf]; exact List.mem_cons_self)
      obtain ⟨sl, e⟩ := I.base.slot L o ho (I.ok.frf L hL) hL fun z => I.ok.exfs L z hL
      exact ⟨hk, ⟨L, _, hf, hn, e, hd⟩, ih (fun b hb => hs b (by unfold frs; rw [List.filterMap_cons, hf]; exact List.mem_cons_of_mem _ hb)) hr⟩
  exact all X.outer (fun _ hb => hb) I.ok.funs

/-- the frames that run, for a call -/
theorem Inv.stack (I : Inv X pins σ H s) : s.heap.FunFrames X.base X.stack := by
  rcases I.ok.stk with e | ⟨e, hf⟩
  · rw [e]; exact I.funs
  · rw [e]
    obtain ⟨m, hn, _⟩ := I.loc
    refine .cons (by rw [I.ok.kind]; decide) hf hn ?_ I.funs
    exact Heap.get?_none_of_le (Nat.le_trans I.ok.bsz I.ok.above)
theorem Inv.stkSub (I : Inv X pins σ H s) : ∀ b ∈ frs X.stack, b ∈ X.env.locals :: X.fs := fun b hb => by
  rcases I.ok.stk with e | ⟨e, hf⟩
  · rw [e] at hb; exact List.mem_cons_of_mem _ hb
  · rw [e] at hb
    unfold frs at hb
    rw [List.filterMap_cons, hf] at hb
    exact hb
theorem Inv.stkFree (I : Inv X pins σ H s) : ∀ b ∈ frs X.stack, H b = none := fun b hb => by
  rcases List.mem_cons.mp (I.stkSub b hb) with e | hb
  · rw [e]; exact I.free
  · obtain ⟨_, o, ho, _⟩ := I.ok.funs.mem hb
    exact I.base.free b o ho (I.ok.frf b hb) fun z => I.ok.exfs b z hb

/-- THE STEP: the untracked objects but the frame and the records at ch are kept (the callers' frames up to slots), the frame's map is kept, the new abstract heap is held -/
theorem Inv.step {g' : Array GenState} {t' : Nat} {d' : Drawn} {ch : List Addr} (I : Inv X pins σ H s)
    (hch : ∀ b ∈ ch, (b ∈ X.ex ∨ X.s₀.heap.objs.size ≤ b) ∧ b ≠ X.env.locals ∧ (∀ x c, X.env.cells.lookup x = some c → c ≠ b) ∧ ∀ p ∈ X.pn ++ pins, p.1 ≠ b)
    (keep : ∀ b o, b ≠ X.env.locals → b ∉ X.fs → b ∉ ch → s.heap.get? b = some o → H b = none → h'.get? b = some o)
    (slot : ∀ b o, b ≠ X.env.locals → b ∈ X.fs → b ∉ ch → s.heap.get? b = some o → H b = none → ∃ sl, h'.get? b = some { o with slots := sl }) (free : ∀ b o, b ∉ ch → s.heap.get? b = some o → H b = none → H' b = none)
    (there : ∀ b o, b ∉ ch → s.heap.get? b = some o → ∃ o', h'.get? b = some o')
    (tups : ∀ b xs, H b = some (.tup xs) → H' b = some (.tup xs)) (frzs : ∀ b o u, H b = some (.frz o u) → H' b = some (.frz o u)) (tbls : ∀ b ps, H b = some (.tbl ps) → ∃ more, H' b = some (.tbl (ps ++ more)))
    (ns : ∀ m, s.heap.Ns X.env.locals m → h'.Ns X.env.locals m) (hok : HOk X.prog X.w H' h') (hg : AllBare g') :
    Inv X pins σ H' { s with heap := h', gens := g', drawn := d', toks := t' } := by
  have neL : ∀ b o, X.s₀.heap.get? b = some o → b ≠ X.env.locals := fun b o e => Nat.ne_of_lt (Nat.lt_of_lt_of_le (Heap.lt_size e) I.ok.above)
  have neC : ∀ b o, X.s₀.heap.get? b = some o → b ∉ X.ex → b ∉ ch := fun b o e hx hb => by
    rcases (hch b hb).1 with z | z
    · exact hx z
    · exact absurd (Nat.lt_of_lt_of_le (Heap.lt_size e) z) (Nat.lt_irrefl _)
  have cellK : ∀ x c, X.env.cells.lookup x = some c → ∀ v, s.heap.IsCell c v → h'.IsCell c v := fun x c e v ⟨o, ho, hd⟩ => by
    have nch : c ∉ ch := fun z => (hch c z).2.2.1 x c e rfl
    by_cases hc : c ∈ X.fs
    · obtain ⟨sl, q⟩ := slot c o (I.cne x c e) hc nch ho (I.freeC x c e)
      exact ⟨_, q, hd⟩
    · exact ⟨o, keep c o (I.cne x c e) hc nch ho (I.freeC x c e), hd⟩
  refine ⟨I.ok, I.os, hg, ⟨fun b o e n hb hx => ?_, fun b o e n hb hx => ?_, fun b o e n hx => ?_, fun b o e hx => ?_, fun b xs e => tups b xs (I.base.tups b xs e), fun b o xs e => frzs b o xs (I.base.frzs b o xs e), fun b ps e => ?_⟩, ?_, fun x c e => ?_, ?_, fun x c e => ?_, fun p hp => ?_, hok, I.len⟩
  · exact keep b o (neL b o e) hb (neC b o e hx) (I.base.keep b o e n hb hx) (I.base.free b o e n hx)
  · obtain ⟨sl, e1⟩ := I.base.slot b o e n hb hx
    obtain ⟨sl', e2⟩ := slot b _ (neL b o e) hb (neC b o e hx) e1 (I.base.free b o e n hx)
    exact ⟨sl', e2⟩
  · obtain ⟨o', e1⟩ := I.base.there b o e hx
    exact free b o' (neC b o e hx) e1 (I.base.free b o e n hx)
  · obtain ⟨o', e1⟩ := I.base.there b o e hx
    exact there b o' (neC b o e hx) e1
  · obtain ⟨m1, e1⟩ := I.base.tbls b ps e
    obtain ⟨m2, e2⟩ := tbls b _ e1
    exact ⟨m1 ++ m2, by rw [e2, Array.append_assoc]⟩
  · obtain ⟨m, hn, hl⟩ := I.loc
    refine ⟨m, ns m hn, fun i x v e1 e2 e3 => ?_⟩
    obtain ⟨u, r, l⟩ := hl i x v e1 e2 e3
    refine ⟨u, r, ?_⟩
    rcases l with l | ⟨k, c, e, z⟩
    · exact .inl l
    · exact .inr ⟨k, c, e, cellK x c e _ z⟩
  · obtain ⟨v, z⟩ := I.cell x c e
    exact ⟨v, cellK x c e v z⟩
  · obtain ⟨m, ⟨o, _, _, ho, _⟩, _⟩ := I.loc
    exact free _ o (fun z => (hch _ z).2.1 rfl) ho I.free
  · obtain ⟨v, o, ho, hd⟩ := I.cell x c e
    exact free c o (fun z => (hch c z).2.2.1 x c e rfl) ho (I.freeC x c e)
  · obtain ⟨e, n, ne, nf, d⟩ := I.pin p hp
    have nch : p.1 ∉ ch := fun z => (hch p.1 z).2.2.2 p hp rfl
    exact ⟨keep p.1 p.2 ne nf nch e n, free p.1 p.2 nch e n, ne, nf, d⟩
/-- .. where the frame's own object is kept too -/
theorem Inv.un {t' : Nat} (I : Inv X pins σ H s) (u : Un X.fs [] H H' s.heap h') (hok : HOk X.prog X.w H' h') : Inv X pins σ H' { s with heap := h', toks := t' } := by
  obtain ⟨m, ⟨o, es, ep, ho, r⟩, _⟩ := id I.loc
  obtain ⟨sl, hL⟩ := u.any ho I.free (by simp)
  exact I.step (g' := s.gens) (d' := s.drawn) (ch := []) (fun _ z => nomatch z) (fun b o _ hb _ e n => u.keep b o e n hb (by simp)) (fun b o _ hb _ e n => u.slot b o e n hb (by simp)) (fun b o _ e n => u.free b o e n (by simp)) (fun b o _ e => u.there b o e (by simp)) u.tups u.frzs u.tbls (fun m' hm => by
    obtain ⟨o', es', ep', ho', r'⟩ := hm
    rw [ho] at ho'; cases ho'
    exact ⟨_, es', ep', hL, r'⟩) hok I.bare
/-- behind a call (or a comprehension's block): the slots of this frame may have changed too, the records at ch may have turned -/
theorem Inv.call {g' : Array GenState} {t' : Nat} {d' : Drawn} {ch : List Addr} (I : Inv X pins σ H s) (u : Un (frs X.stack) ch H H' s.heap h') (hok : HOk X.prog X.w H' h') (hg : AllBare g')
    (hch : ∀ b ∈ ch, (b ∈ X.ex ∨ X.s₀.heap.objs.size ≤ b) ∧ b ≠ X.env.locals ∧ (∀ x c, X.env.cells.lookup x = some c → c ≠ b) ∧ ∀ p ∈ X.pn ++ pins, p.1 ≠ b) :
    Inv X pins σ H' { s with heap := h', gens := g', drawn := d', toks := t' } := by
  obtain ⟨m, ⟨o, es, ep, ho, r⟩, _⟩ := id I.loc
  obtain ⟨sl, hL⟩ := u.any ho I.free fun z => (hch _ z).2.1 rfl
  exact I.step (ch := ch) hch (fun b o hL hb hc e n => u.keep b o e n (fun z => (List.mem_cons.mp (I.stkSub b z)).elim hL hb) hc) (fun b o _ _ hc e n => u.any e n hc) (fun b o hc e n => u.free b o e n hc) (fun b o hc e => u.there b o e hc) u.tups u.frzs u.tbls (fun m' hm => by
    obtain ⟨o', es', ep', ho', r'⟩ := hm
    rw [ho] at ho'; cases ho'
    exact ⟨_, es', ep', hL, r'⟩) hok hg
/-- an untracked record of ours (an iterator) has turned -/
theorem Inv.turned {t' : Nat} {it : Addr} (I : Inv X pins σ H s) (k : ∀ b o, b ≠ it → s.heap.get? b = some o → h'.get? b = some o) (hn : H it = none) (hL : it ≠ X.env.locals)
    (h1 : it ∈ X.ex ∨ X.s₀.heap.objs.size ≤ it) (h2 : ∀ x c, X.env.cells.lookup x = some c → c ≠ it) (h3 : ∀ p ∈ X.pn ++ pins, p.1 ≠ it) : Inv X pins σ H { s with heap := h', toks := t' } := by
  have nit : ∀ b u, H b = some u → b ≠ it := fun b u e z => by rw [z, hn] at e; cases e
  refine I.step (g' := s.gens) (d' := s.drawn) (ch := [it]) (fun b hb => ?_) (fun b o _ _ hc e _ => k b o (fun z => hc (by simp [z])) e) (fun b o _ _ hc e _ => ⟨o.slots, k b o (fun z => hc (by simp [z])) e⟩) (fun _ _ _ _ n => n)
    (fun b o hc e => ⟨o, k b o (fun z => hc (by simp [z])) e⟩) (fun _ _ e => e) (fun _ _ _ e => e) (fun b ps e => ⟨#[], by rw [e]; simp⟩) (fun m hm => ?_) (fun b u e => ?_) I.bare
  · have e : b = it := by simpa using hb
    subst e
    exact ⟨h1, hL, h2, h3⟩
  · obtain ⟨o, es, ep, ho, r⟩ := hm
    exact ⟨o, es, ep, k _ o (Ne.symm hL) ho, r⟩
  · refine (I.hok b u e).stay (fun c v hc q => k c v ?_ q) (fun _ q => q) fun _ _ q => q
    rcases hc with z | z
    · rw [z]; exact nit b u e
    · exact nit c _ z
theorem Inv.tok (I : Inv X pins σ H s) (t : Nat) : Inv X pins σ H { s with toks := t } := I.un (h' := s.heap) (t' := t) Un.refl I.hok
/-- all objects kept -/
theorem Inv.kept {t' : Nat} (I : Inv X pins σ H s) (k : ∀ b u, s.heap.get? b = some u → h'.get? b = some u) : Inv X pins σ H { s with heap := h', toks := t' } := I.un (Un.kept k) (I.hok.kept k)
/-- a new object laid and tracked -/
theorem Inv.laid {a : Addr} {o : HO} {t' : Nat} (I : Inv X pins σ H s) (k : ∀ b u, s.heap.get? b = some u → h'.get? b = some u) (hp : s.heap.objs.size ≤ a) (new : ObjOk X.prog X.w (upd H a o) h' a o) :
    Inv X pins σ (upd H a o) { s with heap := h', toks := t' } := I.un (Un.laid k hp (I.hok.fresh hp)) (I.hok.laid k hp new)
/-- an object written -/
theorem Inv.write {x e : Addr} {o : HO} {t' : Nat} (I : Inv X pins σ H s) (mu : Mut (H x)) (he : e = x ∨ H e = some (.own x)) (k : ∀ b u, b ≠ e → s.heap.get? b = some u → h'.get? b = some u) (heo : ∃ u, h'.get? e = some u)
    (new : ObjOk X.prog X.w (upd H x o) h' x o) : Inv X pins σ (upd H x o) { s with heap := h', toks := t' } := I.un (Un.write mu he k heo) (I.hok.write mu he k heo new)
theorem Inv.pins_of {pins' : List (Addr × Obj)} (I : Inv X pins σ H s) (h : ∀ p ∈ pins', s.heap.get? p.1 = some p.2 ∧ H p.1 = none ∧ p.1 ≠ X.env.locals ∧ p.1 ∉ X.fs ∧ ∀ v, p.2.data ≠ .cell v) : Inv X pins' σ H s :=
  ⟨I.ok, I.os, I.bare, I.base, I.loc, I.cell, I.free, I.freeC, fun p hp => (List.mem_append.mp hp).elim (fun z => I.pin p (List.mem_append_left _ z)) (h p), I.hok, I.len⟩

theorem nodup_ix {N : List Str} (hN : N.Nodup) {i j : Nat} {x : Str} (a : N[i]? = some x) (b : N[j]? = some x) : i = j := by
  obtain ⟨h1, e1⟩ := List.getElem?_eq_some_iff.mp a
  obtain ⟨h2, e2⟩ := List.getElem?_eq_some_iff.mp b
  exact (List.getElem_inj hN).mp (e1.trans e2.symm)

/-- a name is stored; what changed -/
theorem store_ok2 {M : Model} {A : Around} {E : Value → Shared → Prop} {i : Nat} {x : Str} {v : V} {u : Value} {Q : Unit → Shared → Prop} (I : Inv X pins σ H s) (hN : X.N.Nodup) (hi : X.N[i]? = some x) (hx : Loc X.env.scope x) (r : RelV v u)
    (h : ∀ s', Inv X pins (σ.set i (some v)) H s' → (∃ a, Heap.SameBut a s.heap s'.heap ∧ (a = X.env.locals ∨ X.env.cells.lookup x = some a)) → Q () s') (hf : X.fn x = true ∨ X.env.scope.names.lookup x = some .local := by first | exact .inl rfl | exact .inr rfl | assumption) : wpAny M A (storeName X.env x u) Q E s := by
  obtain ⟨m, hn, hl⟩ := id I.loc
  have hcls : (X.env.scope.kind == .class || (X.env.scope.kind == .module && X.env.locals != X.env.globals)) = false := by rw [I.ok.kind]; rfl
  have hiσ : i < σ.length := by rw [I.len]; exact (List.getElem?_eq_some_iff.mp hi).1
  have cne := I.cne
  have tracked : ∀ {a : Addr} {h' : Heap}, (∃ o, s.heap.get? a = some o ∧ H a = none) → Heap.SameBut a s.heap h' → HOk X.prog X.w H h' := fun {a h'} ha hs b ob e => by
    obtain ⟨_, _, hfree⟩ := ha
    refine (I.hok b ob e).stay (fun c w' hc q => (hs.2 c ?_).trans q) (fun _ q => q) fun _ _ q => q
    rintro rfl
    rcases hc with rfl | hc
    · rw [hfree] at e; cases e
    · rw [hfree] at hc; cases hc
  rcases hx with hk | hk
  · refine wpAny_storeName_local hk hn (fun h' hn' hs => ?_) hcls
    obtain ⟨oL, _, _, hoL, _⟩ := id hn
    refine h _ ⟨I.ok, I.os, I.bare, ⟨fun b o e n hb hx => ?_, fun b o e n hb hx => ?_, I.base.free, fun b o e hx => ?_, I.base.tups, I.base.frzs, I.base.tbls⟩, ⟨_, hn', fun j y v' e1 e2 e3 => ?_⟩, fun y c e => ?_, I.free, I.freeC, fun p hp => ?_, tracked ⟨oL, hoL, I.free⟩ hs, by simpa using I.len⟩ ⟨_, hs, .inl rfl⟩
    · exact (hs.2 b (Nat.ne_of_lt (Nat.lt_of_lt_of_le (Heap.lt_size e) I.ok.above))).trans (I.base.keep b o e n hb hx)
    · obtain ⟨sl, e1⟩ := I.base.slot b o e n hb hx
      exact ⟨sl, (hs.2 b (Nat.ne_of_lt (Nat.lt_of_lt_of_le (Heap.lt_size e) I.ok.above))).trans e1⟩
    · obtain ⟨o', e1⟩ := I.base.there b o e hx
      exact ⟨o', (hs.2 b (Nat.ne_of_lt (Nat.lt_of_lt_of_le (Heap.lt_size e) I.ok.above))).trans e1⟩
    · by_cases hj : j = i
      · subst hj
        rw [hi] at e1; cases e1
        rw [List.getElem?_set_self hiσ] at e2
        cases e2
        exact ⟨u, r, .inl ⟨hk, by simp⟩⟩
      · rw [List.getElem?_set_ne (Ne.symm hj)] at e2
        obtain ⟨u', r', q⟩ := hl j y v' e1 e2 e3
        refine ⟨u', r', ?_⟩
        rcases q with ⟨k, e⟩ | ⟨k, c, e, z⟩
        · refine .inl ⟨k, ?_⟩
          have : y ≠ x := fun e => hj (nodup_ix hN e1 (e ▸ hi))
          simp [this, e]
        · exact .inr ⟨k, c, e, z.sameBut hs (cne y c e)⟩
    · obtain ⟨w', z⟩ := I.cell y c e
      exact ⟨w', z.sameBut hs (cne y c e)⟩
    · obtain ⟨e, n, ne, nf, d⟩ := I.pin p hp
      exact ⟨(hs.2 p.1 ne).trans e, n, ne, nf, d⟩
  · have hfn : X.fn x = true := by
      rcases hf with z | z
      · exact z
      · rw [z] at hk; cases hk
    obtain ⟨c, hc⟩ := I.ok.has x (.inl hk)
    obtain ⟨w', z⟩ := I.cell x c hc
    refine wpAny_storeName_cell I.ok.kind hk hc z (fun h' hc' hs => ?_)
    obtain ⟨oc, hoc, hocd⟩ := id z
    refine h { s with heap := h' } ⟨I.ok, I.os, I.bare, ⟨fun b o e n hb hx => ?_, fun b o e n hb hx => ?_, I.base.free, fun b o e hx => ?_, I.base.tups, I.base.frzs, I.base.tbls⟩, ⟨m, hn.sameBut hs (Ne.symm (cne x c hc)), fun j y v' e1 e2 e3 => ?_⟩, fun y c' e => ?_, I.free, I.freeC, fun p hp => ?_, tracked ⟨oc, hoc, I.freeC x c hc⟩ hs, by simpa using I.len⟩ ⟨c, hs, .inr hc⟩
    · exact (hs.2 b (Nat.ne_of_lt (Nat.lt_of_lt_of_le (Heap.lt_size e) (I.ok.cab x c hfn hc)))).trans (I.base.keep b o e n hb hx)
    · obtain ⟨sl, e1⟩ := I.base.slot b o e n hb hx
      exact ⟨sl, (hs.2 b (Nat.ne_of_lt (Nat.lt_of_lt_of_le (Heap.lt_size e) (I.ok.cab x c hfn hc)))).trans e1⟩
    · obtain ⟨o', e1⟩ := I.base.there b o e hx
      exact ⟨o', (hs.2 b (Nat.ne_of_lt (Nat.lt_of_lt_of_le (Heap.lt_size e) (I.ok.cab x c hfn hc)))).trans e1⟩
    · by_cases hj : j = i
      · subst hj
        rw [hi] at e1; cases e1
        rw [List.getElem?_set_self hiσ] at e2
        cases e2
        exact ⟨u, r, .inr ⟨.inl hk, c, hc, hc'⟩⟩
      · rw [List.getElem?_set_ne (Ne.symm hj)] at e2
        obtain ⟨u', r', q⟩ := hl j y v' e1 e2 e3
        refine ⟨u', r', ?_⟩
        rcases q with q | ⟨k, c', e, z'⟩
        · exact .inl q
        · refine .inr ⟨k, c', e, z'.sameBut hs ?_⟩
          rintro rfl
          exact hj (nodup_ix hN e1 (I.ok.inj _ _ _ e hc ▸ hi))
    · by_cases hcc : c' = c
      · subst hcc; exact ⟨_, hc'⟩
      · obtain ⟨w2, z2⟩ := I.cell y c' e
        exact ⟨w2, z2.sameBut hs hcc⟩
    · obtain ⟨e, n, ne, nf, d⟩ := I.pin p hp
      refine ⟨(hs.2 p.1 ?_).trans e, n, ne, nf, d⟩
      intro q
      rw [q, hoc] at e
      have q' : oc = p.2 := Option.some.inj e
      exact d w' (by rw [← q']; exact hocd)
theorem store_ok {M : Model} {A : Around} {E : Value → Shared → Prop} {i : Nat} {x : Str} {v : V} {u : Value} {Q : Unit → Shared → Prop} (I : Inv X pins σ H s) (hN : X.N.Nodup) (hi : X.N[i]? = some x) (hx : Loc X.env.scope x) (r : RelV v u)
    (h : ∀ s', Inv X pins (σ.set i (some v)) H s' → Q () s') (hf : X.fn x = true ∨ X.env.scope.names.lookup x = some .local := by first | exact .inl rfl | exact .inr rfl | assumption) : wpAny M A (storeName X.env x u) Q E s :=
  store_ok2 I hN hi hx r (fun s' I' _ => h s' I') hf
/-- behind a call or a block, the state as it is -/
theorem Inv.call' {s' : Shared} {ch : List Addr} (I : Inv X pins σ H s) (ho : s'.os = s.os) (u : Un (frs X.stack) ch H H' s.heap s'.heap) (hok : HOk X.prog X.w H' s'.heap) (hg : AllBare s'.gens)
    (hch : ∀ b ∈ ch, (b ∈ X.ex ∨ X.s₀.heap.objs.size ≤ b) ∧ b ≠ X.env.locals ∧ (∀ x c, X.env.cells.lookup x = some c → c ≠ b) ∧ ∀ p ∈ X.pn ++ pins, p.1 ≠ b) : Inv X pins σ H' s' := by
  obtain ⟨h', g', d', t', o'⟩ := s'
  have e : o' = s.os := ho
  subst e
  exact I.call (g' := g') (t' := t') (d' := d') u hok hg hch
end

/-! ### the judgements -/
/-- an exception: its class, its own dict's address (where it has one), the abstract heap behind it -/
abbrev XK := Value → Option Addr → Hp → Prop
abbrev St := List (Option V)
abbrev VK := V → Hp → Prop
/-- an expression's reading; a test's; an argument list's -/
abbrev TE := St → Hp → VK → Prop
abbrev TT := St → Hp → (Bool → Hp → Prop) → Prop
abbrev TA := St → Hp → (List V → Hp → Prop) → Prop
/-- what is wanted behind a statement -/
structure Ends where
  nx : St → Hp → Prop
  rt : VK
  bk : St → Hp → Prop := fun _ _ => False
  ct : St → Hp → Prop := fun _ _ => False
abbrev TS := Ends → St → Hp → Prop

def EP (X : Cx) (pins : List (Addr × Obj)) (σ : St) (Q : VK) (u : Value) (s' : Shared) : Prop := ∃ v H', Inv X pins σ H' s' ∧ RelV v u ∧ Q v H'
def TP (X : Cx) (pins : List (Addr × Obj)) (σ : St) (Q : Bool → Hp → Prop) (b : Bool) (s' : Shared) : Prop := ∃ H', Inv X pins σ H' s' ∧ Q b H'
def AP (X : Cx) (pins : List (Addr × Obj)) (σ : St) (Q : List V → Hp → Prop) (us : List Value) (s' : Shared) : Prop := ∃ vs H', Inv X pins σ H' s' ∧ Vals vs us ∧ Q vs H'
def SP (X : Cx) (pins : List (Addr × Obj)) (D : Ends) (f : Flow) (s' : Shared) : Prop :=
  match f with
  | .next => ∃ σ' H', Inv X pins σ' H' s' ∧ D.nx σ' H'
  | .brk => ∃ σ' H', Inv X pins σ' H' s' ∧ D.bk σ' H'
  | .cont => ∃ σ' H', Inv X pins σ' H' s' ∧ D.ct σ' H'
  | .ret u => ∃ v σ' H', Inv X pins σ' H' s' ∧ RelV v u ∧ D.rt v H'

def PE (X : Cx) (e : Expr) (t : TE) : Prop :=
  ∀ (pins : List (Addr × Obj)) (s : Shared) (σ : St) (H : Hp) (Q : VK), Inv X pins σ H s → t σ H Q → wpAny (model X.prog X.w) X.A (eval e X.env) (EP X pins σ Q) X.xe s
def PT (X : Cx) (e : Expr) (t : TT) : Prop :=
  ∀ (pins : List (Addr × Obj)) (s : Shared) (σ : St) (H : Hp) (Q : Bool → Hp → Prop), Inv X pins σ H s → t σ H Q → wpAny (model X.prog X.w) X.A (isTrue e X.env (eval e X.env)) (TP X pins σ Q) X.xe s
/-- a test whatever its 'whole' is (and, or) -/
def PW (X : Cx) (e : Expr) (t : TT) : Prop :=
  ∀ (whole : Sem Value) (pins : List (Addr × Obj)) (s : Shared) (σ : St) (H : Hp) (Q : Bool → Hp → Prop), Inv X pins σ H s → t σ H Q → wpAny (model X.prog X.w) X.A (isTrue e X.env whole) (TP X pins σ Q) X.xe s
theorem PW.pt {X : Cx} {e : Expr} {t : TT} (h : PW X e t) : PT X e t := h _
/-- an argument list (no star), from the left -/
def PA (X : Cx) (es : List Expr) (t : TA) : Prop :=
  ∀ (pos : Pos) (pins : List (Addr × Obj)) (s : Shared) (σ : St) (H : Hp) (Q : List V → Hp → Prop), Inv X pins σ H s → t σ H Q → wpAny (model X.prog X.w) X.A (spliced (backTo pos (starEach es X.env))) (AP X pins σ Q) X.xe s
def PS (X : Cx) (st : Stmt) (t : TS) : Prop :=
  ∀ (pins : List (Addr × Obj)) (s : Shared) (σ : St) (H : Hp) (D : Ends), Inv X pins σ H s → t D σ H → wpAny (model X.prog X.w) X.A (exec st X.env) (SP X pins D) X.xe s
def PSs (X : Cx) (st : List Stmt) (t : TS) : Prop :=
  ∀ (pins : List (Addr × Obj)) (s : Shared) (σ : St) (H : Hp) (D : Ends), Inv X pins σ H s → t D σ H → wpAny (model X.prog X.w) X.A (execs st X.env) (SP X pins D) X.xe s
/-- weaken the end -/
theorem thn {α : Type} {t : Sem α} {Q Q' : α → Shared → Prop} {M : Model} {A : Around} {E : Value → Shared → Prop} {s : Shared} (h : wpAny M A t Q E s) (hQ : ∀ a s, Q a s → Q' a s) : wpAny M A t Q' E s := wpAny_mono h hQ fun _ _ x => x
end L2

namespace L2
open PySem PySem.Spec PyProof.Rows
section
variable {X : Cx}

/-! ### names and constants -/
def tVar (i : Nat) : TE := fun σ H Q => ∃ v, σ[i]? = some (some v) ∧ Q v H
def tC (v : V) : TE := fun _ H Q => Q v H
theorem pe_var {i : Nat} {x : Str} {pos : Pos} (hN : X.N[i]? = some x) (hv : Vis X.env.scope x) (hd : (x == ("__debug__" : Str)) = false := by decide) (hcd : (x == ("__classdict__" : Str)) = false := by decide) : PE X (.Name x pos) (tVar i) := by
  intro pins s σ H Q I h
  obtain ⟨v, e, h⟩ := h
  obtain ⟨m, hn, hl⟩ := I.loc
  obtain ⟨u, r, l⟩ := hl i x v hN e hv
  have fin : EP X pins σ Q u s := ⟨v, H, I, r, h⟩
  rcases l with ⟨hk, hm⟩ | ⟨hk, c, hc, hcell⟩
  · exact wpAny_Name (wpAny_loadName_local I.ok.kind hk hn hm fin) hd
  · rcases hk with hk | hk
    · exact wpAny_Name (wpAny_loadName_cell I.ok.kind hk hc hcell fin) hd
    · exact wpAny_Name (wpAny_loadName_free I.ok.kind hk hc hcell fin hcd) hd
theorem pe_int {i j pos} : PE X (.Constant (.int i) j pos) (tC (.int i)) := fun _ _ _ H _ I h => wpAny_Constant_int ⟨.int i, H, I.tok _, ⟨_, rfl⟩, h⟩
theorem pe_bl {b j pos} : PE X (.Constant (.bool b) j pos) (tC (.bl b)) := fun _ _ _ H _ I h => Constant_bool ⟨.bl b, H, I, rfl, h⟩
theorem pe_non {j pos} : PE X (.Constant .none j pos) (tC .non) := fun _ _ _ H _ I h => Constant_none ⟨.non, H, I, rfl, h⟩
theorem pe_str {x j pos} : PE X (.Constant (.str x) j pos) (tC (.str x)) := fun _ _ _ H _ I h => Calls.Constant_str ⟨.str x, H, I.tok _, ⟨_, rfl⟩, h⟩

/-- a global name of the def -/
def Gl (X : Cx) (x : Str) : Prop := X.env.kindOf x = some .globalImplicit
theorem ld_glob {E : Value → Shared → Prop} {pins : List (Addr × Obj)} {s : Shared} {σ : St} {H : Hp} {x : Str} {u : Value} {pos : Pos} {Q : Value → Shared → Prop} (I : Inv X pins σ H s) (hg : Gl X x) (hm : X.mg x = some u) (h : Q u s)
    (hd : (x == ("__debug__" : Str)) = false := by decide) : wpAny (model X.prog X.w) X.A (eval (.Name x pos) X.env) Q E s :=
  Calls.Name_function_global I.ok.kind hg (Calls.loadGlobal_global (by rw [I.ok.glob]; exact I.mod.glob.keeps I.bk) hm h) hd
theorem ld_blt {E : Value → Shared → Prop} {pins : List (Addr × Obj)} {s : Shared} {σ : St} {H : Hp} {x : Str} {u : Value} {pos : Pos} {Q : Value → Shared → Prop} (I : Inv X pins σ H s) (hg : Gl X x) (hm : X.mg x = none) (hv : bootBuiltins x = some u) (h : Q u s)
    (hn : x ≠ "__name__" := by decide) (hd : (x == ("__debug__" : Str)) = false := by decide) : wpAny (model X.prog X.w) X.A (eval (.Name x pos) X.env) Q E s := by
  obtain ⟨mb, h1, h2⟩ := I.mod.blt
  exact Calls.Name_function_global I.ok.kind hg (Calls.loadGlobal_builtin (by rw [I.ok.glob]; exact I.mod.glob.keeps I.bk) hm (by rw [I.ok.blt]; exact h1.keeps I.bk) ((h2 x hn).trans hv) h) hd
/-- a module's constant, a class, a function, as a value -/
theorem pe_glob {x : Str} {v : V} {u : Value} {pos : Pos} (hg : Gl X x) (hm : X.mg x = some u) (r : RelV v u) (hd : (x == ("__debug__" : Str)) = false := by decide) : PE X (.Name x pos) (tC v) :=
  fun _ _ _ H _ I h => ld_glob I hg hm ⟨v, H, I, r, h⟩ hd
theorem pe_bltn {x : Str} {v : V} {u : Value} {pos : Pos} (hg : Gl X x) (hm : X.mg x = none) (hv : bootBuiltins x = some u) (r : RelV v u) (hn : x ≠ "__name__" := by decide) (hd : (x == ("__debug__" : Str)) = false := by decide) : PE X (.Name x pos) (tC v) :=
  fun _ _ _ H _ I h => ld_blt I hg hm hv ⟨v, H, I, r, h⟩ hn hd

/-! ### arithmetic -/
variable {a b : Expr} {ta tb : TE} {pos : Pos}
/-! ### comparisons -/
/-! ### and, or, not -/
variable {tA tB' : TT} {rest : List Expr}
def tAnd (t u : TT) : TT := fun σ H Q => t σ H fun c H1 => if c = true then u σ H1 Q else Q false H1
def tOr (t u : TT) : TT := fun σ H Q => t σ H fun c H1 => if c = true then Q true H1 else u σ H1 Q
def tNot (t : TT) : TT := fun σ H Q => t σ H fun c H1 => Q (!c) H1
theorem pw_and1 (ha : PT X a tA) : PW X (.BoolOp .And [a] pos) tA := by
  intro wh pins s σ H Q I h
  refine isTrue_and (thn (ha pins s σ H Q I h) fun c s1 e => ?_)
  cases c with
  | true => exact isTrue_and_nil e
  | false => exact e
theorem pw_or1 (ha : PT X a tA) : PW X (.BoolOp .Or [a] pos) tA := by
  intro wh pins s σ H Q I h
  refine isTrue_or (thn (ha pins s σ H Q I h) fun c s1 e => ?_)
  cases c with
  | false => exact isTrue_or_nil e
  | true => exact e
theorem pw_and (ha : PT X a tA) (hb : PW X (.BoolOp .And (b :: rest) pos) tB') : PW X (.BoolOp .And (a :: b :: rest) pos) (tAnd tA tB') := by
  intro wh pins s σ H Q I h
  refine isTrue_and (thn (ha pins s σ H _ I h) fun c s1 ⟨H1, I1, q1⟩ => ?_)
  cases c with
  | true => exact hb wh pins s1 σ H1 Q I1 q1
  | false => exact ⟨H1, I1, q1⟩
theorem pw_or (ha : PT X a tA) (hb : PW X (.BoolOp .Or (b :: rest) pos) tB') : PW X (.BoolOp .Or (a :: b :: rest) pos) (tOr tA tB') := by
  intro wh pins s σ H Q I h
  refine isTrue_or (thn (ha pins s σ H _ I h) fun c s1 ⟨H1, I1, q1⟩ => ?_)
  cases c with
  | true => exact ⟨H1, I1, q1⟩
  | false => exact hb wh pins s1 σ H1 Q I1 q1
theorem pt_not (ha : PT X a tA) : PT X (.UnaryOp .Not a pos) (tNot tA) := by
  intro pins s σ H Q I h
  exact isTrue_not (ha pins s σ H (fun c H1 => Q (!c) H1) I h)
/-- .. as values (bools) -/
def tAndV (ta tb : TE) : TE := fun σ H Q => ta σ H fun x H1 => ∃ c, x = .bl c ∧ if c = true then tb σ H1 Q else Q (.bl false) H1
def tNotV (ta : TE) : TE := fun σ H Q => ta σ H fun x H1 => ∃ c, x = .bl c ∧ Q (.bl (!c)) H1
theorem pe_one {op} {t : TE} (h : PE X a t) : PE X (.BoolOp op [a] pos) t := fun pins s σ H Q I hw => BoolOp_one (h pins s σ H Q I hw)
theorem pe_and (ha : PE X a ta) (hb : PE X (.BoolOp .And (b :: rest) pos) tb) : PE X (.BoolOp .And (a :: b :: rest) pos) (tAndV ta tb) := by
  intro pins s σ H Q I h
  refine BoolOp_and (thn (ha pins s σ H _ I h) fun v s1 ⟨x, H1, I1, r1, q1⟩ => ?_)
  obtain ⟨c, rfl, q1⟩ := q1
  cases r1
  refine wpAny_truthy_bool ?_
  cases c with
  | true => exact hb pins s1 σ H1 Q I1 q1
  | false => exact ⟨.bl false, H1, I1, rfl, q1⟩
theorem pe_not (ha : PE X a ta) : PE X (.UnaryOp .Not a pos) (tNotV ta) := by
  intro pins s σ H Q I h
  refine UnaryOp_ (thn (ha pins s σ H _ I h) fun v s1 ⟨x, H1, I1, r1, q1⟩ => ?_)
  obtain ⟨c, rfl, q1⟩ := q1
  cases r1
  exact not_of (wpAny_truthy_bool ⟨.bl (!c), H1, I1, rfl, q1⟩)
end
end L2

namespace L2
open PySem PySem.Spec PyProof.Rows

/-! ### a list, a tuple that is read: tracked, frozen, or an object of the module -/
def SqL (K : PySem.W.Frag) (H : Hp) (a : Addr) (xs : List V) : Prop :=
  Rd H a (.lst xs) ∨
    ∃ (o : Obj) (its : Array Value) (n : Nat), K.lookup a = some o ∧ o.cls = .type "list" ∧ o.dict = none ∧ o.data = .seq its n ∧ its.size ≤ sizeLine ∧ Vals xs its.toList
def SqT (K : PySem.W.Frag) (H : Hp) (a : Addr) (xs : List V) : Prop :=
  Rd H a (.tup xs) ∨
    ∃ (o : Obj) (its : Array Value) (n : Nat), K.lookup a = some o ∧ o.cls = .type "tuple" ∧ o.data = .seq its n ∧ its.size ≤ sizeLine ∧ Vals xs its.toList
def absV : Value → Option V
  | .none => some .non
  | .bool b => some (.bl b)
  | .int i _ => some (.int i)
  | .str x _ => some (.str x)
  | .bytes b _ => some (.byt b)
  | .float b _ => some (.flt b)
  | .ref a => some (.ref a)
  | .type n => some (.ty n)
  | _ => none
theorem RelV.abs {x : V} {u : Value} (r : RelV x u) : absV u = some x := by
  cases x with
  | non => cases r; rfl
  | bl _ => cases r; rfl
  | int _ => obtain ⟨t, rfl⟩ := r; rfl
  | str _ => obtain ⟨t, rfl⟩ := r; rfl
  | byt _ => obtain ⟨t, rfl⟩ := r; rfl
  | flt _ => obtain ⟨t, rfl⟩ := r; rfl
  | ref _ => cases r; rfl
  | ty _ => cases r; rfl
theorem RelV.inj {x y : V} {u : Value} (r : RelV x u) (q : RelV y u) : x = y := Option.some.inj (r.abs.symm.trans q.abs)
theorem Vals.inj : ∀ {xs ys : List V} {us : List Value}, Vals xs us → Vals ys us → xs = ys
  | _, _, _, .nil, .nil => rfl
  | _, _, _, .cons r t, .cons r' t' => by rw [r.inj r', Vals.inj t t']
section
variable {X : Cx} {pins : List (Addr × Obj)} {σ : St} {H : Hp} {s : Shared} {a : Addr} {xs ys : List V}
theorem SqL.of {K : PySem.W.Frag} (h : H a = some (.lst xs)) : SqL K H a xs := .inl (.inl h)
theorem SqT.of {K : PySem.W.Frag} (h : H a = some (.tup xs)) : SqT K H a xs := .inl (.inl h)
theorem Inv.list (I : Inv X pins σ H s) (h : SqL X.K H a xs) : ∃ its : List Value, Vals xs its ∧ PlainL s.heap a its.toArray ∧ xs.length ≤ sizeLine := by
  rcases h with h | ⟨o, its, n, hk, hc, hd, hs, hz, r⟩
  · obtain ⟨z, its, n, r, e⟩ := h.ok I.hok
    exact ⟨its, r, ⟨_, n, e, rfl, rfl, rfl⟩, z⟩
  · refine ⟨its.toList, r, ⟨o, n, I.kIn a o hk, hc, hd, by simpa using hs⟩, ?_⟩
    have e := r.length
    simp only [Array.length_toList] at e
    omega
theorem Inv.tuple (I : Inv X pins σ H s) (h : SqT X.K H a xs) : ∃ its : List Value, Vals xs its ∧ IsTup s.heap a its.toArray ∧ xs.length ≤ sizeLine := by
  rcases h with h | ⟨o, its, n, hk, hc, hs, hz, r⟩
  · obtain ⟨z, its, r, p⟩ := h.ok I.hok
    exact ⟨its, r, p, z⟩
  · refine ⟨its.toList, r, ⟨o, I.kIn a o hk, hc, n, by simpa using hs⟩, ?_⟩
    have e := r.length
    simp only [Array.length_toList] at e
    omega
theorem Inv.list_inj (I : Inv X pins σ H s) (h : SqL X.K H a xs) (h' : SqL X.K H a ys) : xs = ys := by
  obtain ⟨its, r, ⟨o, n, e, _, _, d⟩, _⟩ := I.list h
  obtain ⟨its', r', ⟨o', n', e', _, _, d'⟩, _⟩ := I.list h'
  rw [e] at e'; cases e'
  rw [d] at d'
  injection d' with d1 _
  have : its = its' := by simpa using congrArg Array.toList d1
  subst this
  exact r.inj r'
end

/-! ### another wish about exceptions -/
abbrev Cx.wish (X : Cx) (E : Value → Shared → Prop) : Cx := { X with xe := E }
/-- no exception leaves -/
abbrev Cx.nox (X : Cx) : Cx := X.wish fun _ _ => False
theorem Cx.Ok.wish {X : Cx} (ok : X.Ok) (E : Value → Shared → Prop) : (X.wish E).Ok :=
  ⟨ok.mod, ok.kind, ok.glob, ok.blt, ok.above, ok.inj, ok.has, ok.cab, ok.hd, ok.frames, ok.stk, ok.exf, ok.bs, ok.bsz, ok.noex, ok.exfs, ok.funs, ok.frf⟩
theorem Cx.Ok.unwish {X : Cx} {E : Value → Shared → Prop} (ok : (X.wish E).Ok) : X.Ok :=
  ⟨ok.mod, ok.kind, ok.glob, ok.blt, ok.above, ok.inj, ok.has, ok.cab, ok.hd, ok.frames, ok.stk, ok.exf, ok.bs, ok.bsz, ok.noex, ok.exfs, ok.funs, ok.frf⟩
section
variable {X : Cx} {pins : List (Addr × Obj)} {σ : St} {H : Hp} {s : Shared} {E : Value → Shared → Prop}
theorem Inv.wish (I : Inv X pins σ H s) (E : Value → Shared → Prop) : Inv (X.wish E) pins σ H s := ⟨I.ok.wish E, I.os, I.bare, I.base, I.loc, I.cell, I.free, I.freeC, I.pin, I.hok, I.len⟩
theorem Inv.unwish (I : Inv (X.wish E) pins σ H s) : Inv X pins σ H s := ⟨I.ok.unwish, I.os, I.bare, I.base, I.loc, I.cell, I.free, I.freeC, I.pin, I.hok, I.len⟩
theorem SP.unwish {D : Ends} {f : Flow} {s' : Shared} (h : SP (X.wish E) pins D f s') : SP X pins D f s' := by
  cases f with
  | next => obtain ⟨σ', H', I, q⟩ := h; exact ⟨σ', H', I.unwish, q⟩
  | brk => obtain ⟨σ', H', I, q⟩ := h; exact ⟨σ', H', I.unwish, q⟩
  | cont => obtain ⟨σ', H', I, q⟩ := h; exact ⟨σ', H', I.unwish, q⟩
  | ret u => obtain ⟨v, σ', H', I, r, q⟩ := h; exact ⟨v, σ', H', I.unwish, r, q⟩
theorem PSs.nox {st : List Stmt} {t : TS} (h : PSs X.nox st t) : PSs X st t := fun pins s σ H D I hw =>
  wpAny_mono (h pins s σ H D (I.wish _) hw) (fun _ _ q => q.unwish) fun _ _ z => False.elim z
end

/-! ### blocks and small statements -/
section
variable {X : Cx} {st : Stmt} {rest : List Stmt} {t u : TS} {e : Expr} {te : TE} {pos : Pos}
def tNext : TS := fun D σ H => D.nx σ H
def tSeq (t u : TS) : TS := fun D σ H => t { D with nx := u D } σ H
theorem pss_nil : PSs X [] tNext := fun _ _ σ H _ I h => wpAny_execs_nil ⟨σ, H, I, h⟩
theorem pss_cons (h1 : PS X st t) (h2 : PSs X rest u) : PSs X (st :: rest) (tSeq t u) := by
  intro pins s σ H D I h
  refine wpAny_execs_cons (thn (h1 pins s σ H { D with nx := u D } I h) fun f s1 q => ?_)
  cases f with
  | next =>
    obtain ⟨σ', H', I', q⟩ := q
    exact h2 pins s1 σ' H' D I' q
  | ret v => exact q
  | brk => exact q
  | cont => exact q
theorem pss_one (h1 : PS X st t) : PSs X [st] t := by
  intro pins s σ H D I h
  refine wpAny_execs_cons (thn (h1 pins s σ H D I h) fun f s1 q => ?_)
  cases f with
  | next => exact wpAny_execs_nil q
  | ret v => exact q
  | brk => exact q
  | cont => exact q
/-- in a def's body nothing is shown -/
theorem Inv.quiet {pins : List (Addr × Obj)} {σ : St} {H : Hp} {s : Shared} (I : Inv X pins σ H s) : interactive X.env = false := by simp [interactive, I.ok.kind]
/-- an expression whose value is dropped -/
def tDrop (te : TE) : TS := fun D σ H => te σ H fun _ H1 => D.nx σ H1
theorem ps_expr (he : PE X e te) (hs : swapsWith e none pos.line X.env = pure false := by rfl) : PS X (.Expr e pos) (tDrop te) := by
  intro pins s σ H D I h
  exact wpAny_Expr_any (thn (he pins s σ H _ I h) fun v s1 ⟨x, H1, I1, r1, q1⟩ => ⟨σ, H1, I1, q1⟩) I.quiet hs
def tRet (te : TE) : TS := fun D σ H => te σ H D.rt
theorem ps_ret (he : PE X e te) : PS X (.Return (some e) pos) (tRet te) := by
  intro pins s σ H D I h
  exact wpAny_Return_some (thn (he pins s σ H _ I h) fun v s1 ⟨x, H1, I1, r1, q1⟩ => ⟨x, σ, H1, I1, r1, q1⟩)
def tIfS (c : TT) (t u : TS) : TS := fun D σ H => c σ H fun b H1 => if b = true then t D σ H1 else u D σ H1
theorem ps_if {c : Expr} {a b : List Stmt} {tc : TT} (hc : PT X c tc) (ha : PSs X a t) (hb : PSs X b u) : PS X (.If c a b pos) (tIfS tc t u) := by
  intro pins s σ H D I h
  refine wpAny_If (thn (hc pins s σ H _ I h) fun d s1 ⟨H1, I1, q1⟩ => ?_)
  cases d with
  | true => exact ha pins s1 σ H1 D I1 q1
  | false => exact hb pins s1 σ H1 D I1 q1
/-- code that the proof never comes to -/
def tNever : TS := fun _ _ _ => False
theorem ps_never : PS X st tNever := fun _ _ _ _ _ _ h => h.elim
end

/-! ### targets -/
abbrev TG := V → St → Hp → (St → Hp → Prop) → Prop
abbrev TGs := List V → St → Hp → (St → Hp → Prop) → Prop
def PG (X : Cx) (target : Expr) (t : TG) : Prop :=
  ∀ (pins : List (Addr × Obj)) (s : Shared) (σ : St) (H : Hp) (v : V) (u : Value) (Q : St → Hp → Prop), Inv X pins σ H s → RelV v u → t v σ H Q →
    wpAny (model X.prog X.w) X.A (assign target X.env u) (fun _ s' => ∃ σ' H', Inv X pins σ' H' s' ∧ Q σ' H') X.xe s
/-- several targets, one after another -/
def PGs (X : Cx) (ts : List Expr) (t : TGs) : Prop :=
  ∀ (pins : List (Addr × Obj)) (s : Shared) (σ : St) (H : Hp) (vs : List V) (us : List Value) (Q : St → Hp → Prop), Inv X pins σ H s → Vals vs us → t vs σ H Q →
    wpAny (model X.prog X.w) X.A (assignInOrder ((assignEach ts X.env).map (·.2)) us) (fun _ s' => ∃ σ' H', Inv X pins σ' H' s' ∧ Q σ' H') X.xe s
/-- o[i] = v, by values -/
abbrev TSet := V → V → V → Hp → (Hp → Prop) → Prop
def PSet (X : Cx) (t : TSet) : Prop :=
  ∀ (pins : List (Addr × Obj)) (s : Shared) (σ : St) (H : Hp) (o i v : V) (ov iv u : Value) (Q : Hp → Prop), Inv X pins σ H s → RelV o ov → RelV i iv → RelV v u → t o i v H Q →
    wpAny (model X.prog X.w) X.A (setItem ov iv u) (fun _ s' => ∃ H', Inv X pins σ H' s' ∧ Q H') X.xe s
/-- a op= b, by values -/
abbrev TIp := V → V → Hp → VK → Prop
def PIp (X : Cx) (op : Operator) (t : TIp) : Prop :=
  ∀ (pins : List (Addr × Obj)) (s : Shared) (σ : St) (H : Hp) (x y : V) (v u : Value) (Q : VK), Inv X pins σ H s → RelV x v → RelV y u → t x y H Q →
    wpAny (model X.prog X.w) X.A (inplaceOp op v u) (EP X pins σ Q) X.xe s
section
variable {X : Cx} {pos : Pos}
def gName (i : Nat) : TG := fun v σ H Q => Q (σ.set i (some v)) H
theorem pg_name {i : Nat} {x : Str} (hN : X.N.Nodup) (hi : X.N[i]? = some x) (hx : Loc X.env.scope x) (hf : X.fn x = true ∨ X.env.scope.names.lookup x = some .local := by first | exact .inl rfl | exact .inr rfl | assumption) : PG X (.Name x pos) (gName i) := by
  intro pins s σ H v u Q I r h
  exact wpAny_assign_Name (store_ok I hN hi hx r (fun s' I' => ⟨_, H, I', h⟩) hf)
def gNil : TGs := fun vs σ H Q => vs = [] ∧ Q σ H
def gCons (t : TG) (u : TGs) : TGs := fun vs σ H Q => ∃ v r, vs = v :: r ∧ t v σ H fun σ' H' => u r σ' H' Q
theorem pgs_nil : PGs X [] gNil := by
  intro pins s σ H vs us Q I r h
  obtain ⟨e, h⟩ := h
  subst e
  cases r
  exact assignInOrder_nil ⟨σ, H, I, h⟩
theorem pgs_cons {e : Expr} {es : List Expr} {t : TG} {u : TGs} (h1 : PG X e t) (h2 : PGs X es u)
    (hs : (assignEach (e :: es) X.env).map (·.2) = assign e X.env :: (assignEach es X.env).map (·.2) := by rfl) : PGs X (e :: es) (gCons t u) := by
  intro pins s σ H vs us Q I r h
  obtain ⟨v, vr, e1, h⟩ := h
  subst e1
  cases r with
  | cons r rr =>
    rw [hs]
    refine assignInOrder_cons (thn (h1 pins s σ H _ _ _ I r h) fun _ s1 ⟨σ1, H1, I1, q1⟩ => ?_)
    exact h2 pins s1 σ1 H1 _ _ Q I1 rr q1
/-- (a, b, ..) = a tuple of that length -/
def gTup (K : PySem.W.Frag) (n : Nat) (t : TGs) : TG := fun v σ H Q => ∃ a xs, v = .ref a ∧ SqT K H a xs ∧ xs.length = n ∧ t xs σ H Q
theorem pg_tup {es : List Expr} {k : Nat} {t : TGs} {n : Nat} (hc : X.calm = true) (h : PGs X es t)
    (hn : (assignEach es X.env).length = n := by rfl) (hst : (assignEach es X.env).findIdx? (·.1) = none := by rfl) : PG X (.Tuple es k pos) (gTup X.K n t) := by
  intro pins s σ H v u Q I r hw
  obtain ⟨a, xs, e1, hq, hl, hw⟩ := hw
  subst e1
  cases r
  obtain ⟨its, rv, ht, hz⟩ := I.tuple hq
  refine assign_Tuple_tuple (I.ok.hd hc) ht (by simp [hn, ← hl, rv.length]) hst fun h' hx => ?_
  have I1 : Inv X pins σ H { s with heap := h' } := I.kept (t' := s.toks) fun b o e => hx b o (Nat.ne_of_lt (Heap.lt_size e)) e
  exact h pins _ σ H xs _ Q I1 (by simpa using rv) hw
/-- o[i] = .. -/
def gSub (to ti : TE) (t : TSet) : TG := fun v σ H Q => to σ H fun o H1 => ti σ H1 fun i H2 => t o i v H2 fun H3 => Q σ H3
theorem pg_sub {o i : Expr} {to ti : TE} {t : TSet} (ho : PE X o to) (hi : PE X i ti) (hs : PSet X t)
    (ha : ∀ v, assign (.Subscript o i pos) X.env v = (do
      let ov ← holding [v] (eval o X.env)
      let iv ← holding [v, ov] (eval i X.env)
      standAt pos
      holding [v, ov, iv] (setItem ov iv v)
      release [v, ov, iv] []) := by intro _; rfl) : PG X (.Subscript o i pos) (gSub to ti t) := by
  intro pins s σ H v u Q I r h
  rw [ha]
  refine wpAny_bind (wpAny_holding (thn (ho pins s σ H _ I h) fun ov s1 ⟨x, H1, I1, r1, q1⟩ => ?_))
  refine wpAny_bind (wpAny_holding (thn (hi pins s1 σ H1 _ I1 q1) fun iv s2 ⟨y, H2, I2, r2, q2⟩ => ?_))
  refine wpAny_bind (wpAny_standAt (wpAny_bind (wpAny_holding (thn (hs pins s2 σ H2 x y v ov iv u _ I2 r1 r2 r q2) fun _ s3 ⟨H3, I3, q3⟩ => ?_))))
  exact wpAny_release ⟨σ, H3, I3, q3⟩
/-- target = value -/
def tAsg (te : TE) (g : TG) : TS := fun D σ H => te σ H fun x H1 => g x σ H1 D.nx
theorem ps_asg {tg e : Expr} {te : TE} {g : TG} (he : PE X e te) (hg : PG X tg g) (hs : swapsWithSole [tg] e pos.line X.env = pure false := by rfl) (hw : swappedStores [tg] e X.env = pure none := by rfl)
    (h1 : (assignEach [tg] X.env).map (·.2) = [assign tg X.env] := by rfl) : PS X (.Assign [tg] e pos) (tAsg te g) := by
  intro pins s σ H D I h
  refine wpAny_Assign_stores (thn (he pins s σ H _ I h) fun v s1 ⟨x, H1, I1, r1, q1⟩ => ?_) hs hw
  rw [h1]
  exact thn (hg pins s1 σ H1 x v _ I1 r1 q1) fun _ s2 q => q
/-- name = value -/
theorem ps_set {i : Nat} {x : Str} {e : Expr} {te : TE} {pos' : Pos} (hN : X.N.Nodup) (hi : X.N[i]? = some x) (hx : Loc X.env.scope x) (he : PE X e te) (hs : swapsWith e (some (.Name x pos')) pos.line X.env = pure false := by rfl) (hf : X.fn x = true ∨ X.env.scope.names.lookup x = some .local := by first | exact .inl rfl | exact .inr rfl | assumption) :
    PS X (.Assign [.Name x pos'] e pos) (tAsg te (gName i)) := by
  intro pins s σ H D I h
  refine wpAny_Assign_Name (thn (he pins s σ H _ I h) fun v s1 ⟨y, H1, I1, r1, q1⟩ => ?_) hs
  exact store_ok I1 hN hi hx r1 (fun s2 I2 => ⟨_, H1, I2, q1⟩) hf
/-- o[i] op= e -/
def tAugS (to ti te : TE) (tget : V → V → Hp → VK → Prop) (tip : TIp) (tset : TSet) : TS := fun D σ H => to σ H fun o H1 => ti σ H1 fun i H2 => tget o i H2 fun x H3 => te σ H3 fun y H4 => tip x y H4 fun z H5 => tset o i z H5 fun H6 => D.nx σ H6
/-- o[i], by values -/
def PGet (X : Cx) (t : V → V → Hp → VK → Prop) : Prop :=
  ∀ (pins : List (Addr × Obj)) (s : Shared) (σ : St) (H : Hp) (o i : V) (ov iv : Value) (Q : VK), Inv X pins σ H s → RelV o ov → RelV i iv → t o i H Q →
    wpAny (model X.prog X.w) X.A (getItem ov iv) (EP X pins σ Q) X.xe s
theorem ps_augS {o i e : Expr} {to ti te : TE} {tget : V → V → Hp → VK → Prop} {tip : TIp} {tset : TSet} {op : Operator} {tpos : Pos} (ho : PE X o to) (hi : PE X i ti) (hg : PGet X tget) (he : PE X e te) (hp : PIp X op tip) (hs : PSet X tset)
    (ha : ∀ ov iv new, augStore i ov iv new = (do holding [new, ov, iv] (setItem ov iv new); release [new, ov, iv] []; pure .next) := by intros; rfl) : PS X (.AugAssign (.Subscript o i tpos) op e pos) (tAugS to ti te tget tip tset) := by
  intro pins s σ H D I h
  refine wpAny_AugAssign_SubscriptAny (thn (ho pins s σ H _ I h) fun ov s1 ⟨x1, H1, I1, r1, q1⟩ => ?_) ha
  refine thn (hi pins s1 σ H1 _ I1 q1) fun iv s2 ⟨x2, H2, I2, r2, q2⟩ => ?_
  refine thn (hg pins s2 σ H2 x1 x2 ov iv _ I2 r1 r2 q2) fun old s3 ⟨x3, H3, I3, r3, q3⟩ => ?_
  refine thn (he pins s3 σ H3 _ I3 q3) fun v s4 ⟨x4, H4, I4, r4, q4⟩ => ?_
  refine thn (hp pins s4 σ H4 x3 x4 old v _ I4 r3 r4 q4) fun new s5 ⟨x5, H5, I5, r5, q5⟩ => ?_
  exact thn (hs pins s5 σ H5 x1 x2 x5 ov iv new _ I5 r1 r2 r5 q5) fun _ s6 ⟨H6, I6, q6⟩ => ⟨σ, H6, I6, q6⟩
/-- ints -/
def ipI (f : Int → Int → Int) : TIp := fun x y H Q => ∃ i j, x = .int i ∧ y = .int j ∧ Q (.int (f i j)) H
theorem ip_add : PIp X .Add (ipI fun i j => i + j) := by
  intro pins s σ H x y v u Q I r1 r2 h
  obtain ⟨i, j, e1, e2, q⟩ := h
  subst e1; subst e2
  obtain ⟨t, rfl⟩ := r1
  obtain ⟨t', rfl⟩ := r2
  exact iadd_int ⟨.int _, H, I.tok _, ⟨_, rfl⟩, q⟩
end

/-! ### while -/
section
variable {X : Cx} {pos : Pos}
/-- the invariant W with its measure -/
def tWhile (c : TT) (tb : TS) : TS := fun D σ H => ∃ W : Nat → St → Hp → Prop, (∃ m, W m σ H) ∧ ∀ m σ H, W m σ H →
  c σ H fun b H1 => if b = true then ∃ N : St → Hp → Prop, (∀ σ' H', N σ' H' → ∃ m', m' < m ∧ W m' σ' H') ∧ tb { D with nx := N, ct := N, bk := D.nx } σ H1 else D.nx σ H1
theorem ps_while {c : Expr} {body : List Stmt} {tc : TT} {tb : TS} (hp : PassesOwn (model X.prog X.w) X.A X.env X.xe) (hc : PT X c tc) (hb : PSs X body tb) : PS X (.While c body [] pos) (tWhile tc tb) := by
  intro pins s σ H D I h
  obtain ⟨W, ⟨m0, w0⟩, turn⟩ := h
  refine wpAny_While (codeAny_whileLoop (fun n s' => ∃ σ' H', Inv X pins σ' H' s' ∧ W n σ' H') ?_ m0 ⟨σ, H, I, w0⟩)
  rintro n s1 ⟨σ1, H1, I1, w1⟩
  refine wpAny_passesOwn hp (thn (hc pins s1 σ1 H1 _ I1 (turn n σ1 H1 w1)) fun b s2 ⟨H2, I2, q2⟩ => ?_)
  cases b with
  | true =>
    obtain ⟨N, hN, q2⟩ := q2
    rw [if_pos rfl]
    refine wpAny_passesOwn hp (thn (hb pins s2 σ1 H2 _ I2 q2) fun f s3 q3 => ?_)
    cases f with
    | next =>
      obtain ⟨σ3, H3, I3, n3⟩ := q3
      obtain ⟨m', hm, w3⟩ := hN σ3 H3 n3
      exact ⟨m', hm, σ3, H3, I3, w3⟩
    | cont =>
      obtain ⟨σ3, H3, I3, n3⟩ := q3
      obtain ⟨m', hm, w3⟩ := hN σ3 H3 n3
      exact ⟨m', hm, σ3, H3, I3, w3⟩
    | brk => exact q3
    | ret v => exact q3
  | false =>
    rw [if_neg Bool.false_ne_true]
    exact wpAny_execs_nil ⟨σ1, H2, I2, q2⟩
end

/-! ### what a loop or a comprehension walks -/
/-- at turn i: it yields x (the heap may grow), or it stops -/
structure It where
  go : Nat → Hp → Prop
  yld : Nat → Hp → V → Hp → Prop
  stop : Nat → Hp → Prop
/-- the iterator's own objects may turn: they are not the frame's, not pinned, younger than the entry (or a comprehension's own) -/
def FpOk (X : Cx) (pins : List (Addr × Obj)) (H : Hp) (b : Addr) : Prop :=
  H b = none ∧ b ≠ X.env.locals ∧ b ∉ X.fs ∧ (b ∈ X.ex ∨ X.s₀.heap.objs.size ≤ b) ∧ (∀ x c, X.env.cells.lookup x = some c → c ≠ b) ∧ ∀ p ∈ X.pn ++ pins, p.1 ≠ b
theorem Inv.fpOk {X : Cx} {pins : List (Addr × Obj)} {σ : St} {H H' : Hp} {s : Shared} {b : Addr} (I : Inv X pins σ H s) (hb : s.heap.objs.size ≤ b) (hn : H' b = none) : FpOk X pins H' b := by
  refine ⟨hn, Nat.ne_of_gt (Nat.lt_of_lt_of_le I.lt hb), I.nofs hb, .inr (Nat.le_trans I.sz hb), fun x c e z => ?_, fun p hp z => ?_⟩
  · obtain ⟨v, q⟩ := I.cell x c e
    exact absurd (Nat.lt_of_lt_of_le q.lt (by rw [z]; exact hb)) (Nat.lt_irrefl _)
  · exact absurd (Nat.lt_of_lt_of_le (Heap.lt_size (I.pin p hp).1) (by rw [z]; exact hb)) (Nat.lt_irrefl _)
structure Turn (P : Program) (w : World) (K : PySem.W.Frag) (tg : Expr) (J : It) (fp : List Addr) (it : Addr) (tn : Nat → Heap → Prop) : Prop where
  mem : it ∈ fp
  obj : ∀ i h, tn i h → ∀ b ∈ fp, ∃ o, h.get? b = some o ∧ ∀ v, o.data ≠ .cell v
  keep : ∀ i h h', tn i h → (∀ b ∈ fp, ∀ o, h.get? b = some o → h'.get? b = some o) → tn i h'
  item : ∀ (X : Cx), X.prog = P → X.w = w → X.K = K → X.calm = true → ∀ (i : Nat) (pins : List (Addr × Obj)) (s : Shared) (σ : St) (H : Hp) (E : Value → Shared → Prop), Inv X pins σ H s → (∀ b ∈ fp, FpOk X pins H b) → tn i s.heap → J.go i H →
    wpAny (model P w) X.A (pyNext (.ref it)) (fun r s1 => ∃ u, r = some u ∧
      wpAny (model P w) X.A (letOwnedTupleGo tg (.ref it) u) (fun _ s2 => ∃ x H', Inv X pins σ H' s2 ∧ RelV x u ∧ J.yld i H x H' ∧ tn (i + 1) s2.heap ∧ ∀ b ∈ fp, H' b = none) E s1) E s
  done : ∀ (X : Cx), X.prog = P → X.w = w → X.K = K → X.calm = true → ∀ (i : Nat) (pins : List (Addr × Obj)) (s : Shared) (σ : St) (H : Hp) (E : Value → Shared → Prop), Inv X pins σ H s → (∀ b ∈ fp, FpOk X pins H b) → tn i s.heap → J.stop i H →
    wpAny (model P w) X.A (pyNext (.ref it)) (fun r s1 => r = none ∧ Inv X pins σ H s1) E s
  self : ∀ (A : Around) (i : Nat) (s : Shared) (Q : Value → Shared → Prop) (E : Value → Shared → Prop), tn i s.heap → Q (.ref it) s → wpAny (model P w) A (pyIter (.ref it)) Q E s
abbrev TI := St → Hp → (It → Hp → Prop) → Prop
/-- an iterator has come -/
def PIE (X : Cx) (pins : List (Addr × Obj)) (σ : St) (tg : Expr) (R : It → Hp → Prop) (itv : Value) (s2 : Shared) : Prop :=
  ∃ (it : Addr) (fp : List Addr) (tn : Nat → Heap → Prop) (J : It) (H' : Hp), itv = .ref it ∧ Inv X pins σ H' s2 ∧ Turn X.prog X.w X.K tg J fp it tn ∧ tn 0 s2.heap ∧ (∀ b ∈ fp, FpOk X pins H' b) ∧ R J H'
def PI (X : Cx) (tg iter : Expr) (wi : TI) : Prop :=
  ∀ (pins : List (Addr × Obj)) (s : Shared) (σ : St) (H : Hp) (R : It → Hp → Prop), Inv X pins σ H s → wi σ H R →
    wpAny (model X.prog X.w) X.A (eval iter X.env) (fun v s1 => wpAny (model X.prog X.w) X.A (pyIter v) (PIE X pins σ tg R) X.xe s1) X.xe s

/-- the step ahead of the store is nothing for an iterator that keeps no tuple -/
theorem go_of {M : Model} {A : Around} {E : Value → Shared → Prop} {s : Shared} {tg : Expr} {it : Addr} {u : Value} {o : Obj} {n : String} {vs : Array Value} {Q : Unit → Shared → Prop} (ho : s.heap.get? it = some o) (hc : o.cls = .type n) (hd : o.data = .fields vs)
    (hn : ["enumerate", "zip", "dict_itemiterator", "dict_reverseitemiterator", "odict_iterator", "itertools.zip_longest", "itertools.pairwise"].contains n = false) (hQ : Q () s) : wpAny M A (letOwnedTupleGo tg (.ref it) u) Q E s := by
  unfold letOwnedTupleGo
  cases tg <;> first
    | exact wpAny_pure hQ
    | (cases u <;> first
        | exact wpAny_pure hQ
        | (refine wpAny_bind (wpAny_load ho ?_)
           rw [hc, hd]
           show wpAny M A (if (["enumerate", "zip", "dict_itemiterator", "dict_reverseitemiterator", "odict_iterator", "itertools.zip_longest", "itertools.pairwise"].contains n && vs[0]? == some (rawInt _)) = true then _ else _) Q E s
           rw [if_neg (by intro h; rw [hn, Bool.false_and] at h; cases h)]
           exact wpAny_pure hQ))

/-- the list at a, as it stands at each turn (a loop may append to it) -/
def Itl (K : PySem.W.Frag) (a : Addr) : It :=
  ⟨fun i H => ∃ xs x, SqL K H a xs ∧ xs[i]? = some x, fun i H x H' => H' = H ∧ ∀ xs, SqL K H a xs → xs[i]? = some x, fun i H => ∃ xs, SqL K H a xs ∧ xs.length ≤ i⟩
/-- lo, lo + 1, .. (n of them) -/
def Itr (lo : Int) (n : Nat) : It := ⟨fun i _ => i < n, fun i H x H' => H' = H ∧ x = .int (lo + i), fun i _ => n ≤ i⟩
theorem turn_list {P : Program} {w : World} {K : PySem.W.Frag} {tg : Expr} (a it : Addr) : Turn P w K tg (Itl K a) [it] it (fun i h => h.IsListIter it a i) where
  mem := by simp
  obj := fun i h st b hb => by
    have e : b = it := by simpa using hb
    subst e
    obtain ⟨o, e, c, d⟩ := st
    exact ⟨o, e, fun v z => by rw [d] at z; cases z⟩
  keep := fun i h h' st k => st.at fun o e => k it (by simp) o e
  item := by
    intro X hP hw hK hc i pins s σ H E I hf st hg
    subst hP hw hK
    obtain ⟨xs, x, hq, hx⟩ := hg
    obtain ⟨its, rv, p, hz⟩ := I.list hq
    obtain ⟨u, hu, ru⟩ := rv.get hx
    obtain ⟨f0, f1, f2, f3, f4, f5⟩ := hf it (by simp)
    refine wpAny_pyNext_list_item st p.isList (x := u) (by simpa using hu) fun h' st' sb => ?_
    have I1 : Inv X pins σ H { s with heap := h' } := I.turned (t' := s.toks) (fun b o hb e => (sb.2 b hb).trans e) f0 f1 f3 f4 f5
    obtain ⟨o, e, c, d⟩ := id st'
    exact ⟨u, rfl, go_of (s := { s with heap := h' }) e c d (by decide) ⟨x, H, I1, ru, ⟨rfl, fun ys hy => by rw [I.list_inj hy hq]; exact hx⟩, st', fun b hb => (hf b hb).1⟩⟩
  done := by
    intro X hP hw hK hc i pins s σ H E I hf st hg
    subst hP hw hK
    obtain ⟨xs, hq, hx⟩ := hg
    obtain ⟨its, rv, p, hz⟩ := I.list hq
    obtain ⟨f0, f1, f2, f3, f4, f5⟩ := hf it (by simp)
    have hl := rv.length
    exact wpAny_pyNext_list_end (I.ok.hd hc) st p.isList (by simp; omega) fun h' eb => ⟨rfl, I.turned (t' := s.toks) (fun b o hb e => eb b o hb e) f0 f1 f3 f4 f5⟩
  self := fun _ _ _ _ _ st h => wpAny_pyIter_listiter st h
theorem turn_range {P : Program} {w : World} {K : PySem.W.Frag} {tg : Expr} (it : Addr) (lo : Int) (n : Nat) : Turn P w K tg (Itr lo n) [it] it (fun i h => IsRangeIter h it (lo + (i : Nat) * 1) ((n : Int) - (i : Nat)) 1) where
  mem := by simp
  obj := fun i h st b hb => by
    have e : b = it := by simpa using hb
    subst e
    exact ⟨_, st, fun v z => by
      have z' : Data.fields _ = Data.cell v := z
      cases z'⟩
  keep := fun i h h' st k => k it (by simp) _ st
  item := by
    intro X hP hw hK hc i pins s σ H E I hf st hg
    subst hP hw hK
    obtain ⟨f0, f1, f2, f3, f4, f5⟩ := hf it (by simp)
    have W := Walks.range (prog := X.prog) (w := X.w) (I.ok.hd hc) it lo 1 n
    refine W.item i s _ _ hg st fun v h' tk hv st' kk => ?_
    obtain ⟨t, rfl⟩ := hv
    have I1 : Inv X pins σ H { s with heap := h', toks := tk } := I.turned (fun b o hb e => kk b o (by simpa using hb) e) f0 f1 f3 f4 f5
    refine ⟨_, rfl, go_of (s := { s with heap := h', toks := tk }) (n := "range_iterator") st' rfl rfl (by decide) ⟨.int (lo + i), H, I1, ⟨t, ?_⟩, ⟨rfl, rfl⟩, st', fun b hb => (hf b hb).1⟩⟩
    rw [Int.mul_one]
  done := by
    intro X hP hw hK hc i pins s σ H E I hf st hg
    subst hP hw hK
    obtain ⟨f0, f1, f2, f3, f4, f5⟩ := hf it (by simp)
    exact wpAny_pyNext_range_end (I.ok.hd hc) st (by have : n ≤ i := hg; omega) fun h' eb => ⟨rfl, I.turned (t' := s.toks) (fun b o hb e => eb b o hb e) f0 f1 f3 f4 f5⟩
  self := fun _ _ _ _ _ st h => wpAny_pyIter_rangeiter st h
end L2

namespace L2
open PySem PySem.Spec PyProof.Rows
section
variable {X : Cx} {tg : Expr}
def iList (K : PySem.W.Frag) (tl : TE) : TI := fun σ H R => tl σ H fun x H1 => ∃ a, x = .ref a ∧ (∃ xs, SqL K H1 a xs) ∧ R (Itl K a) H1
theorem pi_list {l : Expr} {tl : TE} (hl : PE X l tl) : PI X tg l (iList X.K tl) := by
  intro pins s σ H R I h
  refine thn (hl pins s σ H _ I h) fun v s1 ⟨x, H1, I1, r1, q1⟩ => ?_
  obtain ⟨a, e, ⟨xs, hq⟩, q⟩ := q1
  subst e
  cases r1
  obtain ⟨its, rv, p, hz⟩ := I1.list hq
  refine wpAny_pyIter_list p.isList ?_
  refine ⟨s1.heap.objs.size, [s1.heap.objs.size], _, _, H1, rfl, I1.kept (t' := s1.toks) fun b o e => Heap.get?_push_of_some _ e, turn_list a _, ⟨_, Heap.get?_push_size _ rfl, rfl, rfl⟩, fun b hb => ?_, q⟩
  have e : b = s1.heap.objs.size := by simpa using hb
  subst e
  exact I1.fpOk (Nat.le_refl _) (I1.hok.fresh (Nat.le_refl _))
/-- a range object just made, walked -/
theorem range_it {pins : List (Addr × Obj)} {σ : St} {H : Hp} {s : Shared} {R : It → Hp → Prop} {E : Value → Shared → Prop} {lo hi : Int} {t u v : Tok} {tk : Nat} (I : Inv X pins σ H s) (h1 : -(2 ^ 62) ≤ lo) (h2 : lo < 2 ^ 62) (h3 : -(2 ^ 62) ≤ hi) (h4 : hi < 2 ^ 62)
    (q : R (Itr lo (hi - lo).toNat) H) : wpAny (model X.prog X.w) X.A (pyIter (.ref s.heap.objs.size)) (PIE X pins σ tg R) E { s with heap := s.heap.push { cls := .type "range", data := .fields #[.int lo t, .int hi u, .int 1 v] }, toks := tk } := by
  refine wpAny_pyIter_range (IsRange.new ..) (small_one h1 h2 h3 h4) ?_
  have I1 : Inv X pins σ H { s with heap := s.heap.push { cls := .type "range", data := .fields #[.int lo t, .int hi u, .int 1 v] }, toks := tk } := I.kept fun b o e => Heap.get?_push_of_some _ e
  refine ⟨(s.heap.push { cls := .type "range", data := .fields #[.int lo t, .int hi u, .int 1 v] }).objs.size, [(s.heap.push { cls := .type "range", data := .fields #[.int lo t, .int hi u, .int 1 v] }).objs.size], _, _, H, rfl,
    I1.kept (t' := tk) fun b o e => Heap.get?_push_of_some _ e, turn_range _ lo (hi - lo).toNat, ?_, fun b hb => ?_, q⟩
  · have e1 : lo + ((0 : Nat) : Int) * 1 = lo := by simp
    have e2 : (((hi - lo).toNat : Nat) : Int) - ((0 : Nat) : Int) = Builtin.Range.rangeSize lo hi 1 := by rw [rangeSize_one]; split <;> omega
    show IsRangeIter _ _ (lo + ((0 : Nat) : Int) * 1) ((((hi - lo).toNat : Nat) : Int) - ((0 : Nat) : Int)) 1
    rw [e1, e2]
    exact Heap.get?_push_size _ rfl
  · have e : b = (s.heap.push { cls := .type "range", data := .fields #[.int lo t, .int hi u, .int 1 v] }).objs.size := by simpa using hb
    subst e
    exact I1.fpOk (Nat.le_refl _) (I1.hok.fresh (Nat.le_refl _))
def iRng1 (ta : TA) : TI := fun σ H R => ta σ H fun vs H1 => ∃ j : Int, vs = [.int j] ∧ -(2 ^ 62) ≤ j ∧ j < 2 ^ 62 ∧ R (Itr 0 j.toNat) H1
def iRng2 (ta : TA) : TI := fun σ H R => ta σ H fun vs H1 => ∃ i j : Int, vs = [.int i, .int j] ∧ (-(2 ^ 62) ≤ i ∧ i < 2 ^ 62 ∧ -(2 ^ 62) ≤ j ∧ j < 2 ^ 62) ∧ R (Itr i (j - i).toNat) H1
theorem pi_range1 {a : Expr} {ta : TA} {p pos : Pos} (hg : Gl X "range") (hm : X.mg "range" = none) (ha : PA X [a] ta) (hs : starEach [a] X.env = [(false, eval a X.env)] := by rfl) : PI X tg (.Call (.Name "range" p) [a] [] pos) (iRng1 ta) := by
  intro pins s σ H R I h
  refine Call_ (ld_blt I hg hm boot_range (PyProof.Rows.callWith_type1 (thn (ha pos pins s σ H _ I h) fun us s1 ⟨vs, H1, I1, r1, q1⟩ => ?_) hs rfl))
  obtain ⟨j, e, q1, q2, q⟩ := q1
  subst e
  cases r1 with
  | cons r rr =>
    cases rr
    obtain ⟨t, rfl⟩ := r
    exact call_range_1 (range_it I1 (by omega) (by omega) q1 q2 (by simpa using q))
theorem pi_range2 {a b : Expr} {ta : TA} {p pos : Pos} (hg : Gl X "range") (hm : X.mg "range" = none) (ha : PA X [a, b] ta) (hs : starEach [a, b] X.env = [(false, eval a X.env), (false, eval b X.env)] := by rfl) (hs2 : starEach [b] X.env = [(false, eval b X.env)] := by rfl) :
    PI X tg (.Call (.Name "range" p) [a, b] [] pos) (iRng2 ta) := by
  intro pins s σ H R I h
  refine Call_ (ld_blt I hg hm boot_range (PyProof.Rows.callWith_type1 (thn (ha pos pins s σ H _ I h) fun us s1 ⟨vs, H1, I1, r1, q1⟩ => ?_) (by rw [hs, hs2]) (by rw [hs2]; rfl)))
  obtain ⟨i, j, e, ⟨q1, q2, q3, q4⟩, q⟩ := q1
  subst e
  cases r1 with
  | cons r rr =>
    cases rr with
    | cons r' rr =>
      cases rr
      obtain ⟨t, rfl⟩ := r
      obtain ⟨t', rfl⟩ := r'
      exact call_range_2 (range_it I1 q1 q2 q3 q4 q)

/-! ### for -/
/-- W: the invariant by the turn and a measure; N: what the body is to reach -/
def tFor (wi : TI) (g : TG) (tb : TS) : TS := fun D σ H => wi σ H fun J H1 => ∃ W : Nat → Nat → St → Hp → Prop, (∃ m, W 0 m σ H1) ∧ ∀ i m σ H, W i m σ H →
  (J.stop i H ∧ D.nx σ H) ∨ (J.go i H ∧ ∃ N : St → Hp → Prop, (∀ σ' H', N σ' H' → ∃ m', m' < m ∧ W (i + 1) m' σ' H') ∧ ∀ x H', J.yld i H x H' → g x σ H' fun σ2 H2 => tb { D with nx := N, ct := N, bk := D.nx } σ2 H2)
/-- the records at fp as they stand -/
def pinsAt (fp : List Addr) (h : Heap) : List (Addr × Obj) := fp.filterMap fun b => (h.get? b).map fun o => (b, o)
theorem mem_pinsAt {fp : List Addr} {h : Heap} {b : Addr} {o : Obj} (hb : b ∈ fp) (e : h.get? b = some o) : (b, o) ∈ pinsAt fp h := List.mem_filterMap.mpr ⟨b, hb, by rw [e]; rfl⟩
theorem of_pinsAt {fp : List Addr} {h : Heap} {p : Addr × Obj} (hp : p ∈ pinsAt fp h) : p.1 ∈ fp ∧ h.get? p.1 = some p.2 := by
  obtain ⟨b, hb, e⟩ := List.mem_filterMap.mp hp
  cases q : h.get? b with
  | none => rw [q] at e; cases e
  | some o =>
    rw [q] at e
    have e' : (b, o) = p := Option.some.inj e
    subst e'
    exact ⟨hb, q⟩
theorem Inv.pinned {pins : List (Addr × Obj)} {σ : St} {H : Hp} {s : Shared} {fp : List Addr} (I : Inv X pins σ H s) (hf : ∀ b ∈ fp, FpOk X pins H b) (ho : ∀ b ∈ fp, ∃ o, s.heap.get? b = some o ∧ ∀ v, o.data ≠ .cell v) : Inv X (pins ++ pinsAt fp s.heap) σ H s :=
  I.pins_of fun p hp => (List.mem_append.mp hp).elim (fun z => I.pin p (List.mem_append_right _ z)) fun z => by
    obtain ⟨hb, e⟩ := of_pinsAt z
    obtain ⟨f0, f1, f2, _⟩ := hf p.1 hb
    obtain ⟨o, e', d⟩ := ho p.1 hb
    rw [e] at e'; cases e'
    exact ⟨e, f0, f1, f2, d⟩
theorem Inv.unpinned {pins pl : List (Addr × Obj)} {σ : St} {H : Hp} {s : Shared} (I : Inv X (pins ++ pl) σ H s) : Inv X pins σ H s := I.pins_of fun p hp => I.pin p (List.mem_append_right _ (List.mem_append_left _ hp))
theorem ps_for {iter : Expr} {body : List Stmt} {wi : TI} {g : TG} {tb : TS} {pos : Pos} (hp : PassesOwn (model X.prog X.w) X.A X.env X.xe) (hc : X.calm = true) (hi : PI X tg iter wi) (hg : PG X tg g) (hb : PSs X body tb)
    (hs : ∀ x, foldedSetIterable iter X.env x = pure x := by intro _; rfl) : PS X (.For tg iter body [] pos) (tFor wi g tb) := by
  intro pins s σ H D I h
  refine wpAny_For (thn (hi pins s σ H _ I h) fun v s1 h1 => thn h1 fun itv s2 h2 => ?_) hs
  obtain ⟨it, fp, tn, J, H2, e, I2, T, st2, f2, W, ⟨m0, w0⟩, turn⟩ := h2
  subst e
  -- what stays true of the iterator's objects through the loop
  have stat : ∀ {H' : Hp}, (∀ b ∈ fp, H' b = none) → ∀ b ∈ fp, FpOk X pins H' b := fun hn b hb => ⟨hn b hb, (f2 b hb).2⟩
  refine codeAny_forLoop_any (fun n s' => ∃ i σ' H', Inv X pins σ' H' s' ∧ tn i s'.heap ∧ (∀ b ∈ fp, H' b = none) ∧ W i n σ' H') ?_ m0 ⟨0, σ, H2, I2, st2, fun b hb => (f2 b hb).1, w0⟩
  rintro n s3 ⟨i, σ3, H3, I3, st3, fr3, w3⟩
  rcases turn i n σ3 H3 w3 with ⟨stop, qn⟩ | ⟨go, N, hN, step⟩
  · refine wpAny_passesOwn hp (thn (T.done X rfl rfl rfl hc i pins s3 σ3 H3 X.xe I3 (stat fr3) st3 stop) fun r s4 ⟨hr, I4⟩ => ?_)
    subst hr
    exact wpAny_execs_nil ⟨σ3, H3, I4, qn⟩
  · refine wpAny_passesOwn hp (thn (T.item X rfl rfl rfl hc i pins s3 σ3 H3 X.xe I3 (stat fr3) st3 go) fun r s4 ⟨u, hr, h4⟩ => ?_)
    subst hr
    refine wpAny_passesOwn hp (thn h4 fun _ s5 ⟨x, H5, I5, r5, y5, st5, fr5⟩ => ?_)
    have I5' := I5.pinned (stat fr5) (T.obj _ _ st5)
    refine wpAny_passesOwn hp (thn (hg _ s5 σ3 H5 x u _ I5' r5 (step x H5 y5)) fun _ s6 ⟨σ6, H6, I6, q6⟩ => ?_)
    refine wpAny_passesOwn hp (thn (hb _ s6 σ6 H6 _ I6 q6) fun f s7 q7 => ?_)
    have again : ∀ {σ7 : St} {H7 : Hp}, Inv X (pins ++ pinsAt fp s5.heap) σ7 H7 s7 → N σ7 H7 → ∃ m, m < n ∧ ∃ i σ' H', Inv X pins σ' H' s7 ∧ tn i s7.heap ∧ (∀ b ∈ fp, H' b = none) ∧ W i m σ' H' := fun {σ7 H7} I7 n7 => by
      obtain ⟨m', hm, w7⟩ := hN σ7 H7 n7
      refine ⟨m', hm, i + 1, σ7, H7, I7.unpinned, T.keep _ _ _ st5 fun b hb o e => (I7.pin (b, o) (List.mem_append_right _ (List.mem_append_right _ (mem_pinsAt hb e)))).1, fun b hb => ?_, w7⟩
      obtain ⟨o, e, d⟩ := T.obj _ _ st5 b hb
      exact (I7.pin (b, o) (List.mem_append_right _ (List.mem_append_right _ (mem_pinsAt hb e)))).2.1
    cases f with
    | next => obtain ⟨σ7, H7, I7, n7⟩ := q7; exact again I7 n7
    | cont => obtain ⟨σ7, H7, I7, n7⟩ := q7; exact again I7 n7
    | brk => obtain ⟨σ7, H7, I7, q7⟩ := q7; exact ⟨σ7, H7, I7.unpinned, q7⟩
    | ret v => obtain ⟨x7, σ7, H7, I7, r7, q7⟩ := q7; exact ⟨x7, σ7, H7, I7.unpinned, r7, q7⟩
end

/-! ### the forms one uses -/
end L2

namespace L2
open PySem PySem.Spec PyProof.Rows

abbrev R2 := V → V → Hp → VK → Prop
/-- a two-place operation on values: f is binaryOp op, inplaceOp op or compareOp op -/
def OpR (X : Cx) (f : Value → Value → Sem Value) (r : R2) : Prop :=
  ∀ (pins : List (Addr × Obj)) (s : Shared) (σ : St) (H : Hp) (x y : V) (v u : Value) (Q : VK), Inv X pins σ H s → RelV x v → RelV y u → r x y H Q →
    wpAny (model X.prog X.w) X.A (f v u) (EP X pins σ Q) X.xe s
/-- a call of a value that is known (a builtin, a type) with values -/
def CallR (X : Cx) (f : Value) (r : List V → Hp → VK → Prop) : Prop :=
  ∀ (pins : List (Addr × Obj)) (s : Shared) (σ : St) (H : Hp) (xs : List V) (us : List Value) (Q : VK), Inv X pins σ H s → Vals xs us → r xs H Q →
    wpAny (model X.prog X.w) X.A (call f us) (EP X pins σ Q) X.xe s
/-- a value's truth -/
def TruR (X : Cx) (r : V → Hp → (Bool → Hp → Prop) → Prop) : Prop :=
  ∀ (pins : List (Addr × Obj)) (s : Shared) (σ : St) (H : Hp) (x : V) (v : Value) (Q : Bool → Hp → Prop), Inv X pins σ H s → RelV x v → r x H Q →
    wpAny (model X.prog X.w) X.A (truthy v) (TP X pins σ Q) X.xe s

def tOp (r : R2) (ta tb : TE) : TE := fun σ H Q => ta σ H fun x H1 => tb σ H1 fun y H2 => r x y H2 Q
/-- ints in, under C, and a value out -/
def rI (C : Int → Int → Prop) (g : Int → Int → V) : R2 := fun x y H Q => ∃ i j, x = .int i ∧ y = .int j ∧ C i j ∧ Q (g i j) H
def rI0 (g : Int → Int → V) : R2 := fun x y H Q => ∃ i j, x = .int i ∧ y = .int j ∧ Q (g i j) H
section
variable {X : Cx} {a b c : Expr} {ta tb tc : TE} {pos : Pos}

theorem binT (ha : PE X a ta) (hb : PE X b tb) {pins : List (Addr × Obj)} {s : Shared} {σ : St} {H : Hp} {R : V → V → Hp → Prop} (I : Inv X pins σ H s)
    (h : ta σ H fun x H1 => tb σ H1 fun y H2 => R x y H2) {Q : Value → Shared → Prop} {f : Value → Value → Sem Value}
    (hf : ∀ v u s2 x y H2, Inv X pins σ H2 s2 → RelV x v → RelV y u → R x y H2 → wpAny (model X.prog X.w) X.A (f v u) Q X.xe s2) :
    wpAny (model X.prog X.w) X.A (eval a X.env) (fun v s₁ => wpAny (model X.prog X.w) X.A (eval b X.env) (fun u s₂ => wpAny (model X.prog X.w) X.A (f v u) Q X.xe s₂) X.xe s₁) X.xe s := by
  refine thn (ha pins s σ H _ I h) fun v s1 ⟨x, H1, I1, r1, q1⟩ => ?_
  refine thn (hb pins s1 σ H1 _ I1 q1) fun u s2 ⟨y, H2, I2, r2, q2⟩ => ?_
  exact hf v u s2 x y H2 I2 r1 r2 q2

theorem pe_op {op : Operator} {r : R2} (ho : OpR X (binaryOp op) r) (ha : PE X a ta) (hb : PE X b tb) : PE X (.BinOp a op b pos) (tOp r ta tb) := by
  intro pins s σ H Q I h
  exact wpAny_BinOp (binT ha hb I h fun v u s2 x y H2 I2 rx ry q => ho pins s2 σ H2 x y v u Q I2 rx ry q)
/-! ### ints -/
theorem opI {f : Value → Value → Sem Value} {C : Int → Int → Prop} {g : Int → Int → Int}
    (rule : ∀ (i j : Int) (t u : Tok) (s : Shared) (Q : Value → Shared → Prop) (E : Value → Shared → Prop), C i j → Q (.int (g i j) s.toks) { s with toks := s.toks + 1 } → wpAny (model X.prog X.w) X.A (f (.int i t) (.int j u)) Q E s) :
    OpR X f (rI C fun i j => .int (g i j)) := by
  intro pins s σ H x y v u Q I rx ry h
  obtain ⟨i, j, rfl, rfl, hc, q⟩ := h
  obtain ⟨t, rfl⟩ := rx
  obtain ⟨t', rfl⟩ := ry
  exact rule i j t t' s _ _ hc ⟨.int (g i j), H, I.tok _, ⟨_, rfl⟩, q⟩
theorem opI0 {f : Value → Value → Sem Value} {g : Int → Int → Int}
    (rule : ∀ (i j : Int) (t u : Tok) (s : Shared) (Q : Value → Shared → Prop) (E : Value → Shared → Prop), Q (.int (g i j) s.toks) { s with toks := s.toks + 1 } → wpAny (model X.prog X.w) X.A (f (.int i t) (.int j u)) Q E s) :
    OpR X f (rI0 fun i j => .int (g i j)) := by
  intro pins s σ H x y v u Q I rx ry h
  obtain ⟨i, j, rfl, rfl, q⟩ := h
  obtain ⟨t, rfl⟩ := rx
  obtain ⟨t', rfl⟩ := ry
  exact rule i j t t' s _ _ ⟨.int (g i j), H, I.tok _, ⟨_, rfl⟩, q⟩
theorem opB0 {f : Value → Value → Sem Value} {g : Int → Int → Bool}
    (rule : ∀ (i j : Int) (t u : Tok) (s : Shared) (Q : Value → Shared → Prop) (E : Value → Shared → Prop), Q (.bool (g i j)) s → wpAny (model X.prog X.w) X.A (f (.int i t) (.int j u)) Q E s) :
    OpR X f (rI0 fun i j => .bl (g i j)) := by
  intro pins s σ H x y v u Q I rx ry h
  obtain ⟨i, j, rfl, rfl, q⟩ := h
  obtain ⟨t, rfl⟩ := rx
  obtain ⟨t', rfl⟩ := ry
  exact rule i j t t' s _ _ ⟨.bl (g i j), H, I, rfl, q⟩

def CDiv (i j : Int) : Prop := 0 < j ∧ j < 1073741824
def CPow (i j : Int) : Prop := 0 ≤ j ∧ j ≤ 1000000 ∧ i.natAbs < 2 ^ 64
def CMul (i j : Int) : Prop := (-(2 ^ 64) < i ∧ i < 2 ^ 64) ∨ (-(2 ^ 64) < j ∧ j < 2 ^ 64)
theorem CMul.ok {i j : Int} (h : CMul i j) : IntMulOk i j := by
  rcases h with ⟨h1, h2⟩ | ⟨h1, h2⟩
  · exact .of_left (intBits_le_64 h1 h2)
  · exact .of_right (intBits_le_64 h1 h2)
theorem op_add : OpR X (binaryOp .Add) (rI0 fun i j => .int (i + j)) := opI0 fun _ _ _ _ _ _ _ q => add_int q
theorem op_sub : OpR X (binaryOp .Sub) (rI0 fun i j => .int (i - j)) := opI0 fun _ _ _ _ _ _ _ q => sub_int q
theorem op_mul : OpR X (binaryOp .Mult) (rI CMul fun i j => .int (i * j)) := opI fun _ _ _ _ _ _ _ hc q => mul_int q hc.ok
/-- // by a positive divisor -/
theorem op_fdiv : OpR X (binaryOp .FloorDiv) (rI CDiv fun i j => .int (i / j)) := opI fun i j _ _ _ _ _ hc q => by
  have h1 : (0 : Int) < j := hc.1
  have h2 : j < 1073741824 := hc.2
  exact floordiv_int (by omega) (by rw [Int.fdiv_eq_ediv_of_nonneg i (by omega)]; exact q) (.inl (PyProof.noPylong_small (by omega)))
/-- % by a positive divisor of any size -/
theorem op_mod : OpR X (binaryOp .Mod) (rI (fun _ j => 0 < j) fun i j => .int (i % j)) := opI fun i j _ _ _ _ _ hc q => by
  have h1 : (0 : Int) < j := hc
  exact mod_int' (by omega) (by rw [Int.fmod_eq_emod_of_nonneg i (by omega)]; exact q)
theorem op_pow : OpR X (binaryOp .Pow) (rI CPow fun i j => .int (i ^ j.toNat)) := opI fun _ _ _ _ _ _ _ hc q => pow_int_small hc.1 hc.2.1 hc.2.2 q
/-! ### bools among ints: n += (a < b) -/
end

/-! ### comparisons -/
section
variable {X : Cx} {a b c : Expr} {ta tb tc : TE} {pos : Pos}
theorem fin_bl {pins : List (Addr × Obj)} {σ : St} {H : Hp} {s : Shared} {Q : VK} {k k' : Bool} (I : Inv X pins σ H s) (q : Q (.bl k) H) (e : k = k') : EP X pins σ Q (.bool k') s := by
  subst e
  exact ⟨.bl k, H, I, rfl, q⟩
theorem op_lt : OpR X (compareOp .Lt) (rI0 fun i j => .bl (decide (i < j))) := opB0 fun _ _ _ _ _ _ _ q => lt_int q
theorem op_le : OpR X (compareOp .LtE) (rI0 fun i j => .bl (decide (i ≤ j))) := opB0 fun _ _ _ _ _ _ _ q => le_int q
theorem op_gt : OpR X (compareOp .Gt) (rI0 fun i j => .bl (decide (j < i))) := opB0 fun _ _ _ _ _ _ _ q => gt_int q
/-- is None, is not None: the right side a value none -/
theorem op_isN : OpR X (compareOp .Is) (fun x y H Q => y = .non ∧ Q (.bl (decide (x = .non))) H) := by
  intro pins s σ H x y v u Q I rx ry h
  obtain ⟨rfl, q⟩ := h
  cases ry
  refine is_none_gen (fin_bl I q ?_)
  cases x <;> first
    | (cases rx; rfl)
    | (obtain ⟨t, rfl⟩ := rx; rfl)
theorem op_notN : OpR X (compareOp .IsNot) (fun x y H Q => y = .non ∧ Q (.bl (!decide (x = .non))) H) := by
  intro pins s σ H x y v u Q I rx ry h
  obtain ⟨rfl, q⟩ := h
  cases ry
  refine isnot_none_gen (fin_bl I q ?_)
  cases x <;> first
    | (cases rx; rfl)
    | (obtain ⟨t, rfl⟩ := rx; rfl)

/-- two rules for one operation: by cases -/
theorem OpR.or {f : Value → Value → Sem Value} {r r' : R2} (h : OpR X f r) (h' : OpR X f r') : OpR X f (fun x y H Q => r x y H Q ∨ r' x y H Q) := by
  intro pins s σ H x y v u Q I rx ry q
  rcases q with q | q
  · exact h pins s σ H x y v u Q I rx ry q
  · exact h' pins s σ H x y v u Q I rx ry q

theorem nomark (b : Expr) {op : CmpOp} (h : op ≠ .In := by decide) (h2 : op ≠ .NotIn := by decide) : behindInMarks op b = false := by
  have e1 : (op == CmpOp.In) = false := by cases op <;> first | rfl | exact absurd rfl h
  have e2 : (op == CmpOp.NotIn) = false := by cases op <;> first | rfl | exact absurd rfl h2
  cases b <;> simp [behindInMarks, e1, e2]
/-- a comparison as a value; hm: nomark b, or (for in, not in) by with_unfolding_all rfl -/
theorem pe_cmpR {op : CmpOp} {r : R2} (ho : OpR X (compareOp op) r) (ha : PE X a ta) (hb : PE X b tb) (hm : behindInMarks op b = false) : PE X (.Compare a [op] [b] pos) (tOp r ta tb) := by
  intro pins s σ H Q I h
  exact wpAny_Compare1 (binT ha hb I h fun v u s2 x y H2 I2 rx ry q => ho pins s2 σ H2 x y v u Q I2 rx ry q) hm
/-- a reading of a value as a test -/
def tTest (t : TE) : TT := fun σ H Q => t σ H fun x H' => ∃ k, x = .bl k ∧ Q k H'
theorem pt_cmpR {op : CmpOp} {r : R2} (ho : OpR X (compareOp op) r) (ha : PE X a ta) (hb : PE X b tb) (hm : behindInMarks op b = false) : PT X (.Compare a [op] [b] pos) (tTest (tOp r ta tb)) := by
  intro pins s σ H Q I h
  refine wpAny_isTrue_Compare1 (thn (ha pins s σ H _ I h) fun v s1 ⟨x, H1, I1, r1, q1⟩ => thn (hb pins s1 σ H1 _ I1 q1) fun u s2 ⟨y, H2, I2, r2, q2⟩ =>
    thn (ho pins s2 σ H2 x y v u _ I2 r1 r2 q2) fun c s3 ⟨z, H3, I3, r3, k, e, q3⟩ => ?_) hm
  subst e
  cases r3
  exact wpAny_truthy_bool ⟨H3, I3, q3⟩
/-- a op1 b op2 c -/
def tChain (r r' : R2) (ta tb tc : TE) : TE := fun σ H Q => ta σ H fun x H1 => tb σ H1 fun y H2 => r x y H2 fun z H3 => ∃ k, z = .bl k ∧
  (if k = true then tc σ H3 fun w' H4 => r' y w' H4 Q else Q (.bl false) H3)
theorem pe_chain {op op' : CmpOp} {r r' : R2} (ho : OpR X (compareOp op) r) (ho' : OpR X (compareOp op') r') (ha : PE X a ta) (hb : PE X b tb) (hc : PE X c tc)
    (hm : lastMarks [op, op'] [b, c] = false := by with_unfolding_all rfl) : PE X (.Compare a [op, op'] [b, c] pos) (tChain r r' ta tb tc) := by
  intro pins s σ H Q I h
  refine Compare_chain (thn (ha pins s σ H _ I h) fun v s1 ⟨x, H1, I1, r1, q1⟩ => chain_link (thn (hb pins s1 σ H1 _ I1 q1) fun u s2 ⟨y, H2, I2, r2, q2⟩ =>
    thn (ho pins s2 σ H2 x y v u _ I2 r1 r2 q2) fun d s3 ⟨z, H3, I3, r3, k, e, q3⟩ => ?_)) hm
  subst e
  cases r3
  refine wpAny_truthy_bool ?_
  cases k with
  | false => exact ite_ff ⟨.bl false, H3, I3, rfl, q3⟩
  | true => exact ite_tt (chain_last (thn (hc pins s3 σ H3 _ I3 q3) fun w' s4 ⟨z', H4, I4, r4, q4⟩ => ho' pins s4 σ H4 y z' u w' Q I4 r2 r4 q4))
theorem pt_chain {op op' : CmpOp} {r r' : R2} (ho : OpR X (compareOp op) r) (ho' : OpR X (compareOp op') r') (ha : PE X a ta) (hb : PE X b tb) (hc : PE X c tc)
    (hm : lastMarks [op, op'] [b, c] = false := by with_unfolding_all rfl) : PT X (.Compare a [op, op'] [b, c] pos) (tTest (tChain r r' ta tb tc)) := by
  intro pins s σ H Q I h
  refine isTrue_chain (thn (ha pins s σ H _ I h) fun v s1 ⟨x, H1, I1, r1, q1⟩ => test_link (thn (hb pins s1 σ H1 _ I1 q1) fun u s2 ⟨y, H2, I2, r2, q2⟩ =>
    thn (ho pins s2 σ H2 x y v u _ I2 r1 r2 q2) fun d s3 ⟨z, H3, I3, r3, k, e, q3⟩ => ?_)) hm
  subst e
  cases r3
  refine wpAny_truthy_bool ?_
  cases k with
  | false =>
    obtain ⟨k', e', q'⟩ := q3
    cases e'
    exact ite_ff ⟨H3, I3, q'⟩
  | true =>
    refine ite_tt (test_last (thn (hc pins s3 σ H3 _ I3 q3) fun w' s4 ⟨z', H4, I4, r4, q4⟩ => thn (ho' pins s4 σ H4 y z' u w' _ I4 r2 r4 q4) fun d' s5 ⟨z2, H5, I5, r5, k2, e2, q5⟩ => ?_))
    subst e2
    cases r5
    exact wpAny_truthy_bool ⟨H5, I5, q5⟩

/-! ### truth -/
/-- a value's truth by the abstract heap -/
def TruV (K : PySem.W.Frag) (x : V) (H : Hp) (k : Bool) : Prop :=
  match x with
  | .non => k = false
  | .bl b => k = b
  | .int i => k = (i != 0)
  | .str y => y.length ≤ sizeLine ∧ k = ((y.length : Int) != 0)
  | .byt y => y.size ≤ sizeLine ∧ k = ((y.size : Int) != 0)
  | .ref p => (∃ xs, SqL K H p xs ∧ k = !xs.isEmpty) ∨ (∃ xs, SqT K H p xs ∧ k = !xs.isEmpty) ∨ ∃ kvs, H p = some (.dK kvs) ∧ k = !kvs.isEmpty
  | _ => False
theorem isEmpty_kv {κ : Type} {kvs : List (κ × V)} {vs : List (κ × Value)} (r : KV kvs vs) : (!vs.isEmpty) = !kvs.isEmpty := by
  cases r <;> rfl
theorem isEmpty_of {xs : List V} {its : List Value} (r : Vals xs its) : (!its.toArray.isEmpty) = !xs.isEmpty := by
  cases r <;> simp
theorem line63 : (sizeLine : Nat) < 2 ^ 63 := by rw [sizeLine_eq]; decide
theorem tru_ok : TruR X (fun x H Q => ∃ k, TruV X.K x H k ∧ Q k H) := by
  intro pins s σ H x v Q I rx h
  obtain ⟨k, e, q⟩ := h
  have hl := line63
  have hs : sizeLine = 16777216 := sizeLine_eq
  cases x with
  | non =>
    cases rx
    have e' : k = false := e
    subst e'
    exact truthy_none ⟨H, I, q⟩
  | bl b =>
    cases rx
    have e' : k = b := e
    subst e'
    exact wpAny_truthy_bool ⟨H, I, q⟩
  | int i =>
    obtain ⟨t, rfl⟩ := rx
    have e' : k = (i != 0) := e
    subst e'
    exact PySem.P.truthy_int ⟨H, I, q⟩
  | str y =>
    obtain ⟨t, rfl⟩ := rx
    obtain ⟨hy, e'⟩ : y.length ≤ sizeLine ∧ k = ((y.length : Int) != 0) := e
    subst e'
    exact PySem.P.truthy_str (by omega) ⟨H, I.tok _, q⟩
  | byt y =>
    obtain ⟨t, rfl⟩ := rx
    obtain ⟨hy, e'⟩ : y.size ≤ sizeLine ∧ k = ((y.size : Int) != 0) := e
    subst e'
    exact PySem.W.truthy_bytes (by omega) ⟨H, I.tok _, q⟩
  | ref p =>
    cases rx
    have e' : (∃ xs, SqL X.K H p xs ∧ k = !xs.isEmpty) ∨ (∃ xs, SqT X.K H p xs ∧ k = !xs.isEmpty) ∨ ∃ kvs, H p = some (.dK kvs) ∧ k = !kvs.isEmpty := e
    rcases e' with ⟨xs, hx, e'⟩ | ⟨xs, hx, e'⟩ | ⟨kvs, hx, e'⟩
    · subst e'
      obtain ⟨its, r, pl, hz⟩ := I.list hx
      have hlen := r.length
      exact wpAny_truthy_list pl.isList (by simp only [List.size_toArray]; omega) ⟨H, I.tok _, by rw [isEmpty_of r]; exact q⟩
    · subst e'
      obtain ⟨its, r, pl, hz⟩ := I.tuple hx
      have hlen := r.length
      exact truthy_tuple pl (by simp only [List.size_toArray]; omega) ⟨H, I.tok _, by rw [isEmpty_of r]; exact q⟩
    · subst e'
      obtain ⟨hz, hS, vs, r, m⟩ : kvs.length ≤ sizeLine ∧ (p == sysModules) = false ∧ ∃ vs, KV kvs vs ∧ s.heap.DictOf (mixKind X.prog X.w) p vs := I.hok p _ hx
      have hlen : kvs.length = vs.length := Paired.length r
      exact wpAny_truthy_dict hS m (by omega) ⟨H, I.tok _, by rw [isEmpty_kv r]; exact q⟩
  | _ => exact (show False from e).elim
/-- any expression whose test is its value's truth (a name, a call, a subscript, a field ..: he by fun _ => rfl) -/
theorem pt_truth (ha : PE X a ta) (he : ∀ whole, isTrue a X.env whole = (do let v ← whole; standAt a.pos; holding [v] (truthy v))) :
    PT X a (fun σ H Q => ta σ H fun x H' => ∃ k, TruV X.K x H' k ∧ Q k H') := by
  intro pins s σ H Q I h
  exact isTrue_plain (thn (ha pins s σ H _ I h) fun v s1 ⟨x, H1, I1, r1, q1⟩ => tru_ok pins s1 σ H1 x v Q I1 r1 q1) (he _)

/-! ### strs and bytes -/
/-! ### scalar builtins, by CallR -/
theorem vals1 {x : V} {us : List Value} (r : Vals [x] us) : ∃ u, us = [u] ∧ RelV x u := by
  cases r with
  | cons r1 r2 => cases r2; exact ⟨_, rfl, r1⟩
theorem call_int1 : CallR X (.type "int") (fun xs H Q => (∃ i, xs = [.int i] ∧ Q (.int i) H) ∨ ∃ k, xs = [.bl k] ∧ Q (.int (if k then 1 else 0)) H) := by
  intro pins s σ H xs us Q I r h
  rcases h with ⟨i, rfl, q⟩ | ⟨k, rfl, q⟩
  · obtain ⟨u, rfl, t, rfl⟩ := vals1 r
    exact call_int_int ⟨.int i, H, I, ⟨_, rfl⟩, q⟩
  · obtain ⟨u, rfl, r1⟩ := vals1 r
    cases r1
    exact call_int_bool ⟨.int (if k then 1 else 0), H, I.tok _, ⟨_, rfl⟩, q⟩
end
end L2

namespace L2
open PySem PySem.Spec PyProof.Rows

/-! ### an instance, its attributes a map -/
structure ObjM (h : Heap) (x dx C : Addr) (mA : Str → Option Value) : Prop where
  obj : h.get? x = some (PySem.W.instObj C dx)
  ns : h.Ns1 dx mA
  ne : dx ≠ x

theorem lookIn_ns {h : Heap} {dx : Addr} {mA : Str → Option Value} (n : h.Ns1 dx mA) : ∃ od, h.get? dx = some od ∧ ∀ name, PySem.W.lookIn name od = some (mA name) := by
  obtain ⟨o, es, ep, ho, hd, hk, _, hm⟩ := n
  refine ⟨o, ho, fun name => ?_⟩
  have e := hm name
  unfold nsFind findBy at e
  rw [← Array.find?_toList] at e
  unfold PySem.W.lookIn
  rw [hd]
  dsimp only
  split
  · rename_i y q
    rw [q] at e
    exact congrArg some e
  · rename_i q
    rw [q] at e
    have a : es.toList.any (·.refKey) = false := by
      rw [List.any_eq_false]
      intro y hy
      obtain ⟨z, t, hkey⟩ := hk y (Array.mem_toList_iff.mp hy)
      simp [DictEntry.refKey, hkey]
    have a' : ¬ es.toList.any (·.refKey) = true := by rw [a]; exact Bool.false_ne_true
    rw [if_neg a']
    exact congrArg some e

theorem ObjM.look {h : Heap} {x dx C : Addr} {mA : Str → Option Value} (I : ObjM h x dx C mA) : ∃ od, PySem.W.InstAt h x (PySem.W.instObj C dx) C (some od) ∧ ∀ name, PySem.W.lookIn name od = some (mA name) :=
  let ⟨od, ho, hl⟩ := lookIn_ns I.ns
  ⟨od, ⟨I.obj, rfl, rfl, ho⟩, hl⟩

section
variable {prog : Program} {w : World} {A : Around} {E : Value → Shared → Prop} {s : Shared} {K : PySem.W.Frag} {x dx C f : Addr} {mA : Str → Option Value} {name : Str} {v : Value}

theorem get_map {expr : Bool} {Q : Value → Shared → Prop} (X : K.In s.heap) (I : ObjM s.heap x dx C mA) (hg : PySem.W.plainGet K C name = true) (hh : PySem.W.hasDictIn K C = true)
    (ha : PySem.W.findIn K (.ref C) name = some none) (hv : mA name = some v) (hv' : PySem.W.handedIn v = true) (h : Q v { s with toks := s.toks + 1 }) :
    wpAny (model prog w) A (getAttr (.ref x) name expr) Q E s := by
  obtain ⟨od, J, hl⟩ := I.look
  exact PySem.W.get_value X J (PySem.W.plainGet_of hg).1 (PySem.W.findObj_own hh ha rfl (by rw [hl, hv])) hv' h

theorem get_meth {pl : Sem Bool} {Q : Value × List Value → Shared → Prop} (X : K.In s.heap) (I : ObjM s.heap x dx C mA) (hg : PySem.W.plainGet K C name = true)
    (hf : PySem.W.findIn K (.ref C) name = some (some (.ref f))) (ht : PySem.W.isFn K (.ref f) = true) (hv : mA name = none) (h : Q (.ref f, [.ref x]) s) :
    wpAny (model prog w) A (getMethod (.ref x) name pl) Q E s := by
  obtain ⟨od, J, hl⟩ := I.look
  exact PySem.W.method_fn X J (PySem.W.plainGet_of hg).1 (PySem.W.plainGet_of hg).2 hf (beq_iff_eq.mp ht) (by show (PySem.W.lookIn name od).map (·.isSome) = some false; rw [hl, hv]; rfl) h

theorem set_map {ns : List Str} {Q : Unit → Shared → Prop} (X : K.In s.heap) (I : ObjM s.heap x dx C mA)
    (hs : PySem.W.findIn K (.ref C) "__setattr__" = some (some (.builtin "object.__setattr__"))) (hp : PySem.W.plainOver K C = true) (ht : PySem.W.takerIn K C name = some none) (hh : PySem.W.hasDictIn K C = true)
    (hw : PySem.Within mA ns) (hsz : ns.length ≤ sizeLine)
    (h : ∀ h', ObjM h' x dx C (fun y => if y = name then some v else mA y) → Heap.SameBut dx s.heap h' → Q () { s with heap := h', toks := s.toks + 2 }) :
    wpAny (model prog w) A (setAttr (.ref x) name v) Q E s := by
  obtain ⟨od, J, hl⟩ := I.look
  refine PySem.W.set_plain X J hs (PySem.W.osa_open (s := { s with toks := s.toks + 1 }) (r := none) X J hp ht fun b => ?_)
  obtain ⟨cd, hc, hd'⟩ := PySem.W.any_some hh
  have hx : s.heap.get? x = some ⟨.ref C, some dx, .plain, #[]⟩ := I.obj
  refine wpAny_bind (wpAny_pure (wpAny_bind (wpAny_bind (wpAny_loadPart hx (wpAny_bind (PySem.W.Looks.here (s := { s with toks := s.toks + 1 }) (PySem.W.looks_clsIn X hc) ?_))))))
  rw [hd']
  refine wpAny_pure (a := some dx) (wpAny_bind (wpAny_pure (wpAny_bind ?_)))
  refine wpAny_nsSet1 (s := { s with toks := s.toks + 1 }) I.ns fun h' hn2 hs2 => ?_
  obtain ⟨oD, esD, epD, hoD, hdD, hcD⟩ := hn2.count (PySem.Within.cons name v hw)
  refine wpAny_bind (wpAny_lookBehind hoD (by rw [hdD]; exact pastItsLine_dict (Nat.le_trans hcD (by rw [List.length_cons]; omega))) ?_)
  exact wpAny_pure (h _ ⟨(hs2.2 _ (Ne.symm I.ne)).trans I.obj, hn2, I.ne⟩ hs2)

/-- C(..): the dict at the heap's end, the instance behind it; then its __init__ -/
theorem make_map {R : Result → Shared → Prop} {vs : List Value} {kw : List (Str × Value)} (X : K.In s.heap) (hm : PySem.W.makesIn K C = true)
    (hi : PySem.W.findIn K (.ref C) "__init__" = some (some (.ref f))) (hf : PySem.W.typeIn K (.ref f) = some (.type "function"))
    (h : codeAny (model prog w) (A.under (.builtin "type.__call__" ⟨.ref C :: vs, kw⟩)) (.call (.ref f) ⟨.ref (s.heap.objs.size + 1) :: vs, kw⟩) (PySem.W.InitBack (s.heap.objs.size + 1) R)
      { s with heap := (s.heap.push PySem.W.emptyDict).push (PySem.W.instObj C s.heap.objs.size) }) :
    codeAny (model prog w) A (.call (.ref C) ⟨vs, kw⟩) R s := by
  obtain ⟨hh, g, d, t, os⟩ := s
  exact PySem.W.make_core (PySem.W.makes_of X hm) (PySem.W.looks_findIn X hi) (fun self => PySem.W.bind_fn X self hf) (.inl rfl) h
end

/-! ### the attributes as a list of pairs -/
def putF (f : Str) (v : V) : List (Str × V) → List (Str × V)
  | [] => [(f, v)]
  | (g, x) :: r => if g = f then (g, v) :: r else (g, x) :: putF f v r
theorem lookup_putF (f g : Str) (v : V) : ∀ fs : List (Str × V), (putF f v fs).lookup g = if g = f then some v else fs.lookup g
  | [] => by
    show List.lookup g [(f, v)] = _
    by_cases h : g = f
    · have hb : (g == f) = true := beq_iff_eq.mpr h
      simp only [List.lookup, hb, if_pos h]
    · have hb : (g == f) = false := beq_eq_false_iff_ne.mpr h
      simp only [List.lookup, hb, if_neg h]
  | (k, x) :: r => by
    have ih := lookup_putF f g v r
    rw [show putF f v ((k, x) :: r) = (if k = f then (k, v) :: r else (k, x) :: putF f v r) from rfl]
    by_cases hk : k = f
    · rw [if_pos hk]
      by_cases h : g = k
      · have hb : (g == k) = true := beq_iff_eq.mpr h
        simp only [List.lookup, hb, if_pos (h.trans hk)]
      · have hb : (g == k) = false := beq_eq_false_iff_ne.mpr h
        simp only [List.lookup, hb, if_neg (fun e : g = f => h (e.trans hk.symm))]
    · rw [if_neg hk]
      by_cases h : g = k
      · have hb : (g == k) = true := beq_iff_eq.mpr h
        simp only [List.lookup, hb, if_neg (fun e : g = f => hk (h.symm.trans e))]
      · have hb : (g == k) = false := beq_eq_false_iff_ne.mpr h
        simp only [List.lookup, hb]
        exact ih
theorem keys_putF (f : Str) (v : V) : ∀ fs : List (Str × V), f ∈ (putF f v fs).map (·.1) ∧ ∀ g, g ∈ fs.map (·.1) → g ∈ (putF f v fs).map (·.1)
  | [] => ⟨by simp [putF], fun g h => by simp at h⟩
  | (k, x) :: r => by
    obtain ⟨i1, i2⟩ := keys_putF f v r
    rw [show putF f v ((k, x) :: r) = (if k = f then (k, v) :: r else (k, x) :: putF f v r) from rfl]
    by_cases hk : k = f
    · rw [if_pos hk]
      subst hk
      exact ⟨by simp, fun g h => by simpa using h⟩
    · rw [if_neg hk]
      refine ⟨?_, fun g h => ?_⟩
      · rw [List.map_cons]
        exact List.mem_cons_of_mem _ i1
      · rw [List.map_cons] at h ⊢
        rcases List.mem_cons.mp h with e | e
        · exact List.mem_cons.mpr (.inl e)
        · exact List.mem_cons_of_mem _ (i2 g e)
theorem length_putF (f : Str) (v : V) : ∀ fs : List (Str × V), (putF f v fs).length ≤ fs.length + 1
  | [] => by simp [putF]
  | (k, x) :: r => by
    have ih := length_putF f v r
    rw [show putF f v ((k, x) :: r) = (if k = f then (k, v) :: r else (k, x) :: putF f v r) from rfl]
    by_cases hk : k = f
    · rw [if_pos hk, List.length_cons, List.length_cons]; omega
    · rw [if_neg hk, List.length_cons, List.length_cons]; omega

theorem RelO.some_of {v : V} {o : Option Value} (r : RelO (some v) o) : ∃ u, o = some u ∧ RelV v u := by
  cases o with
  | none => exact (show False from r).elim
  | some u => exact ⟨u, rfl, r⟩
theorem RelO.none_of {o : Option Value} (r : RelO none o) : o = none := by
  cases o with
  | none => rfl
  | some u => exact (show False from r).elim
theorem handed_of {v : V} {u : Value} (r : RelV v u) : PySem.W.handedIn u = true := by
  cases v with
  | non => cases (show u = Value.none from r); rfl
  | bl b => cases (show u = Value.bool b from r); rfl
  | int i => obtain ⟨t, e⟩ := (show ∃ t, u = Value.int i t from r); cases e; rfl
  | str x => obtain ⟨t, e⟩ := (show ∃ t, u = Value.str x t from r); cases e; rfl
  | byt b => obtain ⟨t, e⟩ := (show ∃ t, u = Value.bytes b t from r); cases e; rfl
  | flt b => obtain ⟨t, e⟩ := (show ∃ t, u = Value.float b t from r); cases e; rfl
  | ref a => cases (show u = Value.ref a from r); rfl
  | ty n => cases (show u = Value.type n from r); rfl

section
variable {P : Program} {w : World} {H H' : Hp} {h h' : Heap} {a C dx : Addr} {fs fs' : List (Str × V)}
theorem ins_get (hok : HOk P w H h) (e : H a = some (.ins C dx fs)) : ∃ mA, ObjM h a dx C mA ∧ (∀ f, RelO (fs.lookup f) (mA f)) ∧ PySem.Within mA (fs.map (·.1)) ∧ fs.length ≤ 1000 ∧ H dx = some (.own a) := by
  obtain ⟨d, z, ne, ob, mA, n, r, q⟩ := (show ObjOk P w H h a (.ins C dx fs) from hok a _ e)
  exact ⟨mA, ⟨ob, n, ne⟩, r, q, z, d⟩
end

/-! ### what of the text a class must have -/
structure Cls (K : PySem.W.Frag) (C : Addr) : Prop where
  pg : PySem.W.plainGet K C Str.empty = true
  hd : PySem.W.hasDictIn K C = true
  po : PySem.W.plainOver K C = true
  sa : PySem.W.findIn K (.ref C) "__setattr__" = some (some (.builtin "object.__setattr__"))
theorem Cls.get {K : PySem.W.Frag} {C : Addr} (c : Cls K C) (f : Str) : PySem.W.plainGet K C f = true := c.pg
/-- no class of it has the name -/
def NoAttr (K : PySem.W.Frag) (C : Addr) (f : Str) : Prop := PySem.W.findIn K (.ref C) f = some none
theorem NoAttr.taker {K : PySem.W.Frag} {C : Addr} {f : Str} (n : NoAttr K C f) : PySem.W.takerIn K C f = some none := by
  unfold PySem.W.takerIn
  rw [show PySem.W.findIn K (.ref C) f = some none from n]
  rfl
/-- a method: a plain def of the class or of one above it -/
structure Meth (K : PySem.W.Frag) (C : Addr) (m : Str) (f : Addr) : Prop where
  at_ : PySem.W.findIn K (.ref C) m = some (some (.ref f))
  fn : PySem.W.isFn K (.ref f) = true
  kp : PySem.W.keepIn K (.ref f) = true

section
variable {X : Cx} {pins : List (Addr × Obj)} {σ : St} {H : Hp} {s : Shared} {a C dx : Addr} {fs : List (Str × V)} {f : Str} {v : V} {A : Around} {E : Value → Shared → Prop}

theorem getattr_ok {b : Bool} {Q : Value → Shared → Prop} (I : Inv X pins σ H s) (e : H a = some (.ins C dx fs)) (c : Cls X.K C) (n : NoAttr X.K C f) (l : fs.lookup f = some v)
    (h : ∀ u s', Inv X pins σ H s' → RelV v u → Q u s') : wpAny (model X.prog X.w) A (getAttr (.ref a) f b) Q E s := by
  obtain ⟨mA, O, r, _, _, _⟩ := ins_get I.hok e
  obtain ⟨u, hu, ru⟩ := RelO.some_of (v := v) (o := mA f) (by rw [← l]; exact r f)
  exact get_map I.kIn O (c.get f) c.hd n hu (handed_of ru) (h u _ (I.tok _) ru)

theorem getmeth_ok {m : Str} {g : Addr} {pl : Sem Bool} {Q : Value × List Value → Shared → Prop} (I : Inv X pins σ H s) (e : H a = some (.ins C dx fs)) (c : Cls X.K C) (k : Meth X.K C m g) (l : fs.lookup m = none)
    (h : Q (.ref g, [.ref a]) s) : wpAny (model X.prog X.w) A (getMethod (.ref a) m pl) Q E s := by
  obtain ⟨mA, O, r, _, _, _⟩ := ins_get I.hok e
  have hn : mA m = none := RelO.none_of (by rw [← l]; exact r m)
  exact get_meth I.kIn O (c.get m) k.at_ k.fn hn h

theorem setattr_ok {y : V} {u : Value} {Q : Unit → Shared → Prop} (I : Inv X pins σ H s) (e : H a = some (.ins C dx fs)) (c : Cls X.K C) (n : NoAttr X.K C f) (hl : fs.length < 1000) (ry : RelV y u)
    (h : ∀ s', Inv X pins σ (upd H a (.ins C dx (putF f y fs))) s' → Q () s') : wpAny (model X.prog X.w) A (setAttr (.ref a) f u) Q E s := by
  obtain ⟨mA, O, r, wi, _, ho⟩ := ins_get I.hok e
  have hz : (fs.map (·.1)).length ≤ sizeLine := by rw [List.length_map, sizeLine_eq]; omega
  refine set_map I.kIn O c.sa c.po n.taker c.hd wi hz fun h' O' sb => h _ ?_
  have hd : ∃ o, h'.get? dx = some o := let ⟨o, _, _, e', _⟩ := O'.ns; ⟨o, e'⟩
  refine I.write (x := a) (e := dx) (by rw [e]; exact True.intro) (.inr ho) (fun b q hb z => (sb.2 b hb).trans z) hd ?_
  refine ⟨by rw [upd_ne O.ne]; exact ho, ?_, O.ne, O'.obj, _, O'.ns, fun g => ?_, fun g hg => ?_⟩
  · have := length_putF f y fs; omega
  · show RelO ((putF f y fs).lookup g) (if g = f then some u else mA g)
    rw [lookup_putF]
    by_cases q : g = f
    · rw [if_pos q, if_pos q]; exact ry
    · rw [if_neg q, if_neg q]; exact r g
  · by_cases q : g = f
    · rw [q]; exact (keys_putF f y fs).1
    · refine (keys_putF f y fs).2 g (wi g fun z => hg ?_)
      show (if g = f then some u else mA g) = none
      rw [if_neg q]; exact z

/-- a new instance, tracked, without attributes -/
theorem Inv.made (I : Inv X pins σ H s) : Inv X pins σ (upd (upd H s.heap.objs.size (.own (s.heap.objs.size + 1))) (s.heap.objs.size + 1) (.ins C s.heap.objs.size []))
    { s with heap := (s.heap.push PySem.W.emptyDict).push (PySem.W.instObj C s.heap.objs.size) } := by
  have e1 : (s.heap.push PySem.W.emptyDict).get? s.heap.objs.size = some PySem.W.emptyDict := Heap.get?_push_size s.heap rfl
  have e2 : ((s.heap.push PySem.W.emptyDict).push (PySem.W.instObj C s.heap.objs.size)).get? (s.heap.objs.size + 1) = some (PySem.W.instObj C s.heap.objs.size) := by
    have := Heap.get?_push_size (s.heap.push PySem.W.emptyDict) (o := PySem.W.instObj C s.heap.objs.size) rfl
    rwa [Heap.size_push] at this
  have e3 : (s.heap.push PySem.W.emptyDict).Ns s.heap.objs.size (fun _ => none) := ⟨PySem.W.emptyDict, #[], _, e1, rfl, (fun e he => absurd he (by simp)), fun _ => rfl⟩
  have I1 := I.laid (a := s.heap.objs.size) (o := .own (s.heap.objs.size + 1)) (h' := s.heap.push PySem.W.emptyDict) (t' := s.toks) (fun b u q => Heap.get?_push_of_some _ q) (Nat.le_refl _) ⟨_, e1⟩
  refine I1.laid (a := s.heap.objs.size + 1) (o := .ins C s.heap.objs.size []) (t' := s.toks) (fun b u q => Heap.get?_push_of_some _ q) (Nat.le_of_eq (Heap.size_push _ _)) ?_
  have ne : s.heap.objs.size ≠ s.heap.objs.size + 1 := Nat.ne_of_lt (Nat.lt_succ_self _)
  refine ⟨by rw [upd_ne ne, upd_same], Nat.zero_le _, ne, e2, fun _ => none, (Heap.Ns1.of_empty e3).at fun o q => Heap.get?_push_of_some _ q, fun _ => True.intro, fun y hy => absurd rfl hy⟩

/-- e.f where nothing but the object is asked: through attributeBase (super) and the last hold -/
theorem attr_of {prog : Program} {w : World} {env : Env} {e : Expr} {f : Str} {pos : Pos} {s : Shared} {Q : Value → Shared → Prop} (hb : attributeBase e f env (eval e env) = eval e env)
    (h : wpAny (model prog w) A (eval e env) (fun o s₁ => wpAny (model prog w) A (getAttr o f true) Q E s₁) E s) : wpAny (model prog w) A (eval (.Attribute e f pos) env) Q E s :=
  Attribute_any_ h (by rw [arm_eval_Attribute, hb])
end

/-! ### readings and rules -/
/-- e.f, an attribute of the instance -/
def tFld (K : PySem.W.Frag) (ta : TE) (f : Str) : TE := fun σ H Q => ta σ H fun x H1 => ∃ a C dx fs v, x = .ref a ∧ H1 a = some (.ins C dx fs) ∧ Cls K C ∧ NoAttr K C f ∧ fs.lookup f = some v ∧ Q v H1
/-- e.f = value -/
def sFld (K : PySem.W.Frag) (ta tv : TE) (f : Str) : TS := fun D σ H => tv σ H fun y H1 => ta σ H1 fun x H2 => ∃ a C dx fs, x = .ref a ∧ H2 a = some (.ins C dx fs) ∧ Cls K C ∧ NoAttr K C f ∧ fs.length < 1000 ∧
  D.nx σ (upd H2 a (.ins C dx (putF f y fs)))
section
variable {X : Cx} {o e value : Expr} {f : Str} {pos pos' tpos : Pos} {ta tv : TE}
theorem pe_fld (he : PE X e ta) (hb : attributeBase e f X.env (eval e X.env) = eval e X.env) : PE X (.Attribute e f pos) (tFld X.K ta f) := by
  intro pins s σ H Q I h
  refine attr_of hb (thn (he pins s σ H _ I h) fun u s1 ⟨x, H1, I1, rx, a, C, dx, fs, v, ex, ea, c, n, l, q⟩ => ?_)
  subst ex
  obtain rfl : u = Value.ref a := rx
  exact getattr_ok I1 ea c n l fun u' s2 I2 ru => ⟨v, H1, I2, ru, q⟩
theorem ps_fld (ha : PE X o ta) (hv : PE X value tv) (hs : swapsWith value (some (.Attribute o f pos')) pos.line X.env = pure false) : PS X (.Assign [.Attribute o f pos'] value pos) (sFld X.K ta tv f) := by
  intro pins s σ H D I h
  refine plainObj_wpAny_Assign_Attribute (thn (hv pins s σ H _ I h) fun u s1 ⟨y, H1, I1, ry, q⟩ => thn (ha pins s1 σ H1 _ I1 q) fun ov s2 ⟨x, H2, I2, rx, a, C, dx, fs, ex, ea, c, n, l, q2⟩ => ?_) hs
  subst ex
  obtain rfl : ov = Value.ref a := rx
  exact setattr_ok I2 ea c n l ry fun s3 I3 => ⟨σ, _, I3, q2⟩
end

/-! ### isinstance -/
section
variable {X : Cx} {pins : List (Addr × Obj)} {σ : St} {H : Hp} {s : Shared} {A : Around} {E : Value → Shared → Prop} {Q : Value → Shared → Prop} {c : Value} {b : Bool}
/-- the type of a value, as the fragment's deciders take it; for an instance its class -/
inductive TyOf (K : PySem.W.Frag) (H : Hp) : V → Value → Prop where
  | non : TyOf K H .non (.type "NoneType")
  | bl (x : Bool) : TyOf K H (.bl x) (.type "bool")
  | int (i : Int) : TyOf K H (.int i) (.type "int")
  | str (x : Str) : TyOf K H (.str x) (.type "str")
  | flt (x : UInt64) : TyOf K H (.flt x) (.type "float")
  | lst {a : Addr} {xs : List V} (e : H a = some (.lst xs)) : TyOf K H (.ref a) (.type "list")
  | frz {a : Addr} {o : Obj} {xs : List V} (e : H a = some (.frz o (.lst xs))) : TyOf K H (.ref a) (.type "list")
  | tup {a : Addr} {xs : List V} (e : H a = some (.tup xs)) : TyOf K H (.ref a) (.type "tuple")
  | dK {a : Addr} {kvs : List (Key × V)} (e : H a = some (.dK kvs)) : TyOf K H (.ref a) (.type "dict")
  | dT {a : Addr} {kvs : List (List Key × V)} (e : H a = some (.dT kvs)) : TyOf K H (.ref a) (.type "dict")
  | ins {a C dx : Addr} {fs : List (Str × V)} (e : H a = some (.ins C dx fs)) (cl : Cls K C) (ha : PySem.W.findIn K (.ref C) "__class__" = some (some (.builtin "object.__class__")))
      (hn : PySem.W.specialIn K (.builtin "object.__class__") "__get__" = some (some (.builtin "getset_descriptor.__get__"))) (htk : PySem.W.takesIn K (.builtin "object.__class__") = some true)
      (hm : PySem.W.mroIn K C (.type "object") = some true) : TyOf K H (.ref a) (.ref C)
/-- isinstance(x, c) for one class c, a built-in or an own one: kitOne's answer -/
theorem isinst_ok {x : V} {u t : Value} (I : Inv X pins σ H s) (rx : RelV x u) (ty : TyOf X.K H x t) (e : PySem.W.kitOne X.K t c = some b) (h : ∀ tk, Q (.bool b) { s with toks := tk }) :
    wpAny (model X.prog X.w) A (call (.builtin "isinstance") [u, c]) Q E s := by
  cases ty with
  | non => cases (show u = Value.none from rx); exact PySem.W.kia_one PySem.W.kitx_none I.kIn True.intro e (fun z => nomatch z) h
  | bl y => cases (show u = Value.bool y from rx); exact PySem.W.kia_one PySem.W.kitx_bool I.kIn True.intro e (fun z => nomatch z) h
  | int i => obtain ⟨t, q⟩ := (show ∃ t, u = Value.int i t from rx); cases q; exact PySem.W.kia_one PySem.W.kitx_int I.kIn True.intro e (fun z => nomatch z) h
  | str y => obtain ⟨t, q⟩ := (show ∃ t, u = Value.str y t from rx); cases q; exact PySem.W.kia_one PySem.W.kitx_str I.kIn True.intro e (fun z => nomatch z) h
  | flt y => obtain ⟨t, q⟩ := (show ∃ t, u = Value.float y t from rx); cases q; exact PySem.W.kia_one PySem.W.kitx_float I.kIn True.intro e (fun z => nomatch z) h
  | @lst a xs ea =>
    cases (show u = Value.ref a from rx)
    obtain ⟨_, _, n, _, h1⟩ := (show ObjOk X.prog X.w H s.heap a (.lst xs) from I.hok a _ ea)
    exact PySem.W.kia_one PySem.W.kitx_list I.kIn ⟨_, h1, rfl⟩ e (fun z => nomatch z) h
  | @frz a ob xs ea =>
    cases (show u = Value.ref a from rx)
    obtain ⟨_, _, _, n, _, h1⟩ := (show ObjOk X.prog X.w H s.heap a (.frz ob (.lst xs)) from I.hok a _ ea)
    exact PySem.W.kia_one PySem.W.kitx_list I.kIn ⟨_, h1, rfl⟩ e (fun z => nomatch z) h
  | @tup a xs ea =>
    cases (show u = Value.ref a from rx)
    obtain ⟨_, _, _, p⟩ := (show ObjOk X.prog X.w H s.heap a (.tup xs) from I.hok a _ ea)
    obtain ⟨o, h1, h2, _⟩ := p
    exact PySem.W.kia_one PySem.W.kitx_tuple I.kIn ⟨o, h1, h2⟩ e (fun z => nomatch z) h
  | @dK a kvs ea =>
    cases (show u = Value.ref a from rx)
    obtain ⟨_, _, vs, _, p⟩ := (show ObjOk X.prog X.w H s.heap a (.dK kvs) from I.hok a _ ea)
    obtain ⟨o, es, ep, h1, h2, _⟩ := p
    exact PySem.W.kia_one PySem.W.kitx_dict I.kIn ⟨o, h1, h2.1⟩ e (fun z => nomatch z) h
  | @dT a kvs ea =>
    cases (show u = Value.ref a from rx)
    obtain ⟨_, _, xs, _, o, es, ep, h1, h2, _⟩ := (show ObjOk X.prog X.w H s.heap a (.dT kvs) from I.hok a _ ea)
    exact PySem.W.kia_one PySem.W.kitx_dict I.kIn ⟨o, h1, h2.1⟩ e (fun z => nomatch z) h
  | @ins a C dx fs ea cl ha hn htk hm =>
    cases (show u = Value.ref a from rx)
    obtain ⟨mA, O, _⟩ := ins_get I.hok ea
    obtain ⟨od, J, _⟩ := O.look
    exact PySem.W.kia_one (PySem.W.kitx_own (cl.get _) cl.hd ha hn htk hm) I.kIn J e (fun z => nomatch z) h
end
end L2

namespace L2
open PySem PySem.Spec PyProof.Rows

/-! ### room -/
structure Room (k : Nat) (A : Around) : Prop where
  hd : A.handled = none
  dp : A.depth + 3 * k + 5 < recursionLimit
  un : A.units + 16 * k + 200 < cLine
theorem Room.mono {j k : Nat} {A : Around} (r : Room k A) (h : j ≤ k) : Room j A := ⟨r.hd, by have := r.dp; omega, by have := r.un; omega⟩
theorem Room.deeper {k : Nat} {A : Around} (r : Room (k + 1) A) (env : Env) : Room k (A.deeper env) :=
  ⟨r.hd, by have := r.dp; show A.depth + 1 + 3 * k + 5 < _; omega, by have := r.un; show A.units + 3 + 16 * k + 200 < _; omega⟩
theorem make_depth {A : Around} {C : Addr} {us : List Value} {kw : List (Str × Value)} : (A.under (.builtin "type.__call__" ⟨.ref C :: us, kw⟩)).depth = A.depth + 1 := by
  first | rfl | simp [Around.under, Code.weight, Code.isCreation, Code.isGuard, Code.isCaller, Code.frames, Code.isFrame, guardIds]
theorem make_units {A : Around} {C : Addr} {us : List Value} {kw : List (Str × Value)} : (A.under (.builtin "type.__call__" ⟨.ref C :: us, kw⟩)).units = A.units + 1 := by
  first | rfl | simp [Around.under, Code.cUnits, Code.frames, Code.isFrame]
theorem Room.make {k : Nat} {A : Around} (r : Room (k + 1) A) (C : Addr) (us : List Value) (kw : List (Str × Value)) : Room k (A.under (.builtin "type.__call__" ⟨.ref C :: us, kw⟩)) :=
  ⟨r.hd, by have := r.dp; rw [make_depth]; omega, by have := r.un; rw [make_units]; omega⟩
theorem Room.depth {k : Nat} {A : Around} (r : Room k A) : A.depth < recursionLimit := by have := r.dp; omega
theorem Room.units {k : Nat} {A : Around} (r : Room k A) : A.units + 64 < cLine := by have := r.un; omega
/-! ### argument lists and displays -/
def tNil : TA := fun _ H Q => Q [] H
def tCons (ta : TE) (tr : TA) : TA := fun σ H Q => ta σ H fun x H1 => tr σ H1 fun xs H2 => Q (x :: xs) H2
section
variable {X : Cx} {e : Expr} {es : List Expr} {te : TE} {t : TA} {pos : Pos}
theorem pa_nil : PA X [] tNil := fun _ _ _ _ H Q I h => Calls.spliced_nil ⟨[], H, I, .nil, h⟩
theorem pa_cons (ha : PE X e te) (hr : PA X es t) (hs : starEach (e :: es) X.env = (false, eval e X.env) :: starEach es X.env := by rfl) : PA X (e :: es) (tCons te t) := by
  intro pos pins s σ H Q I h
  rw [hs]
  show wpAny _ _ (spliced ((false, eval e X.env) :: backTo pos (starEach es X.env))) _ _ s
  refine Calls.spliced_cons (thn (ha pins s σ H _ I h) fun u s1 ⟨x, H1, I1, r1, q1⟩ => ?_)
  exact thn (hr pos pins s1 σ H1 _ I1 q1) fun us s2 ⟨xs, H2, I2, r2, q2⟩ => ⟨x :: xs, H2, I2, .cons r1 r2, q2⟩

/-- a tuple, a list of written items -/
def tTup (t : TA) : TE := fun σ H Q => t σ H fun xs H1 => xs.length ≤ sizeLine ∧ ∀ p, H1 p = none → Q (.ref p) (upd H1 p (.tup xs))
def tLst (t : TA) : TE := fun σ H Q => t σ H fun xs H1 => xs.length ≤ sizeLine ∧ ∀ p, H1 p = none → Q (.ref p) (upd H1 p (.lst xs))
theorem pe_tup {x1} (h : PA X es t) : PE X (.Tuple es x1 pos) (tTup t) := by
  intro pins s σ H Q I hq
  refine wpAny_Tuple_spliced (thn (h pos pins s σ H _ I hq) fun us s1 ⟨xs, H1, I1, r, z, q⟩ => ⟨by rw [← r.length]; exact z, ?_⟩)
  have hf : H1 s1.heap.objs.size = none := I1.hok.fresh (Nat.le_refl _)
  refine ⟨.ref s1.heap.objs.size, upd H1 s1.heap.objs.size (.tup xs), I1.laid (t' := s1.toks) (fun b u e => Heap.get?_push_of_some _ e) (Nat.le_refl _) ?_, rfl, q _ hf⟩
  exact ⟨z, us, r, ⟨_, Heap.get?_push_size _ rfl, rfl, _, rfl⟩⟩
theorem pe_lst (h : PA X es t) : PE X (.List es pos) (tLst t) := by
  intro pins s σ H Q I hq
  refine wpAny_List_spliced (thn (h pos pins s σ H _ I hq) fun us s1 ⟨xs, H1, I1, r, z, q⟩ => ⟨by rw [← r.length]; exact z, ?_⟩)
  have hf : H1 s1.heap.objs.size = none := I1.hok.fresh (Nat.le_refl _)
  refine ⟨.ref s1.heap.objs.size, upd H1 s1.heap.objs.size (.lst xs), I1.laid (t' := s1.toks) (fun b u e => Heap.get?_push_of_some _ e) (Nat.le_refl _) ?_, rfl, q _ hf⟩
  exact ⟨z, us, 0, r, Heap.get?_push_size _ rfl⟩
end

/-! ### what a def promises -/
/-- a def's promise: the bound arguments in the parameters' order, the heap, the wanted end, the wanted exception -/
abbrev Sp := List V → Hp → VK → XK → Prop
/-- how an exception lies behind a call (file 08 gives it): the callers' frames, abstract heap and state ahead of the call, the wish, the exception, the state -/
abbrev CXT := List Env → Hp → Shared → XK → Value → Shared → Prop

/-- the state at a call -/
structure Env0 (P : Program) (w : World) (K : PySem.W.Frag) (mg : Str → Option Value) (base : Heap) (A : Around) (outer : List Env) (s : Shared) (H : Hp) : Prop where
  frames : A.frames = some outer
  mod : Mod K mg base
  bs : ∀ b o, base.get? b = some o → s.heap.get? b = some o ∧ H b = none
  bsz : base.objs.size ≤ s.heap.objs.size
  funs : s.heap.FunFrames base outer
  frf : ∀ b ∈ frs outer, H b = none
  hok : HOk P w H s.heap
  bare : AllBare s.gens
/-- a call's end -/
def CE (outer : List Env) (P : Program) (w : World) (H : Hp) (s : Shared) (Q : VK) (u : Value) (s' : Shared) : Prop :=
  ∃ v H', s'.os = s.os ∧ AllBare s'.gens ∧ Un (frs outer) [] H H' s.heap s'.heap ∧ HOk P w H' s'.heap ∧ RelV v u ∧ Q v H'
def CR (CX : CXT) (outer : List Env) (P : Program) (w : World) (H : Hp) (s : Shared) (Q : VK) (E : XK) (r : Result) (s' : Shared) : Prop :=
  match r with
  | .ok (.ret u) => CE outer P w H s Q u s'
  | .ok _ => False
  | .error e => CX outer H s E e s'
structure FnOk (P : Program) (w : World) (K : PySem.W.Frag) (mg : Str → Option Value) (base : Heap) (CX : CXT) (k : Nat) (f : Addr) (fd : FuncData) (ps : List Str) (sp : Sp) : Prop where
  len : ∀ vs H Q E, sp vs H Q E → vs.length = ps.length
  run : ∀ (A : Around) (outer : List Env) (s : Shared) (H : Hp) (args : Args) (us : List Value) (vs : List V) (Q : VK) (E : XK), Room k A → Env0 P w K mg base A outer s H → BindsTo s fd args (ps.zip us) → Vals vs us → sp vs H Q E →
    codeAny (model P w) A (.call (.ref f) args) (CR CX outer P w H s Q E) s
theorem FnOk.mono {P : Program} {w : World} {K : PySem.W.Frag} {mg : Str → Option Value} {base : Heap} {CX : CXT} {j k : Nat} {f : Addr} {fd : FuncData} {ps : List Str} {sp : Sp} (F : FnOk P w K mg base CX j f fd ps sp) (h : j ≤ k) :
    FnOk P w K mg base CX k f fd ps sp := ⟨F.len, fun A outer s H args us vs Q E hr => F.run A outer s H args us vs Q E (hr.mono h)⟩
/-- a weaker promise -/
theorem FnOk.imp {P : Program} {w : World} {K : PySem.W.Frag} {mg : Str → Option Value} {base : Heap} {CX : CXT} {k : Nat} {f : Addr} {fd : FuncData} {ps : List Str} {sp sp' : Sp} (F : FnOk P w K mg base CX k f fd ps sp)
    (h : ∀ vs H Q E, sp' vs H Q E → sp vs H Q E) : FnOk P w K mg base CX k f fd ps sp' :=
  ⟨fun vs H Q E q => F.len vs H Q E (h _ _ _ _ q), fun A outer s H args us vs Q E hr he hb hv hs => F.run A outer s H args us vs Q E hr he hb hv (h _ _ _ _ hs)⟩

theorem Env0.make {P : Program} {w : World} {K : PySem.W.Frag} {mg : Str → Option Value} {base : Heap} {A : Around} {outer : List Env} {s : Shared} {H : Hp} (e : Env0 P w K mg base A outer s H) (C : Addr) (us : List Value) (kw : List (Str × Value)) :
    Env0 P w K mg base (A.under (.builtin "type.__call__" ⟨.ref C :: us, kw⟩)) outer s H := ⟨by first | exact e.frames | (simpa [Around.under, Code.envs, Code.isFrame, pushEnvs] using e.frames), e.mod, e.bs, e.bsz, e.funs, e.frf, e.hok, e.bare⟩
section
variable {X : Cx} {pins : List (Addr × Obj)} {σ : St} {H : Hp} {s s' : Shared}
/-- from a body: what a callee wants -/
theorem Inv.env0 (I : Inv X pins σ H s) : Env0 X.prog X.w X.K X.mg X.base X.A X.stack s H :=
  ⟨I.ok.frames, I.ok.mod, I.bs, Nat.le_trans I.ok.bsz I.sz, I.stack, I.stkFree, I.hok, I.bare⟩
/-- behind a call -/
theorem Inv.after {Q : VK} {u : Value} (I : Inv X pins σ H s) (h : CE X.stack X.prog X.w H s Q u s') : EP X pins σ Q u s' := by
  obtain ⟨v, H', os, bare, un, hok, r, q⟩ := h
  obtain ⟨hh, g, d, t, os'⟩ := s'
  obtain rfl : os' = s.os := os
  exact ⟨v, H', I.call (h' := hh) (g' := g) (d' := d) (t' := t) (ch := []) un hok bare (fun b z => absurd z (by simp)), r, q⟩
end

/-! ### calls -/
/-- f(..): the written arguments, then the defaults dvs; E: what is wanted of an exception -/
def tCall (sp : Sp) (dvs : List V) (E : XK) (t : TA) : TE := fun σ H Q => t σ H fun vs H1 => sp (vs ++ dvs) H1 Q E
/-- o.m(..) of an instance of the class at C -/
def tMeth (C : Addr) (m : Str) (sp : Sp) (dvs : List V) (E : XK) (ta : TE) (t : TA) : TE := fun σ H Q => ta σ H fun x H1 => ∃ a dx fs, x = .ref a ∧ H1 a = some (.ins C dx fs) ∧ fs.lookup m = none ∧
  t σ H1 fun vs H2 => sp (x :: (vs ++ dvs)) H2 Q E
/-- C(..): a new instance and its dict, then __init__ -/
def tMake (C : Addr) (sp : Sp) (dvs : List V) (E : XK) (t : TA) : TE := fun σ H Q => t σ H fun vs H1 => ∀ x dx, H1 x = none → H1 dx = none → dx ≠ x →
  sp (.ref x :: (vs ++ dvs)) (upd (upd H1 dx (.own x)) x (.ins C dx [])) (fun v H2 => v = .non ∧ Q (.ref x) H2) E

/-- how the parameters are bound: us the positional arguments, kw the keywords' values by name, ds the defaults that fill up -/
def Binds (K : PySem.W.Frag) (fd : FuncData) (ps : List Str) (ds : List Value) : Prop :=
  ∀ (s : Shared) (us : List Value), K.In s.heap → (us ++ ds).length = ps.length → BindsTo s fd ⟨us, []⟩ (ps.zip (us ++ ds))
/-- every parameter is given -/
theorem Binds.all {K : PySem.W.Frag} {fd : FuncData} {ps : List Str} (h : ∀ us : List Value, us.length = ps.length → bindArgs fd ⟨us, []⟩ = pure (ps.zip us)) : Binds K fd ps [] := fun s us _ hl => by
  rw [List.append_nil] at hl ⊢
  exact .of_eq (h us hl)

/-- an exception of a callee reaches what this body wants of exceptions -/
def Passes (CX : CXT) (X : Cx) (E : XK) : Prop := ∀ (pins : List (Addr × Obj)) (σ : St) (H : Hp) (s : Shared) (e : Value) (s' : Shared), Inv X pins σ H s → CX X.stack H s E e s' → X.xe e s'

section
variable {X : Cx} {CX : CXT} {k : Nat} {f C : Addr} {fd : FuncData} {ps : List Str} {sp : Sp} {dvs : List V} {ds : List Value} {E : XK} {x m : Str} {p pos apos : Pos} {e o : Expr} {es : List Expr} {ta : TE} {t : TA}

/-- the callee runs -/
theorem run_fn {pins : List (Addr × Obj)} {σ : St} {H : Hp} {s : Shared} {Q : VK} {us : List Value} {vs : List V} (F : FnOk X.prog X.w X.K X.mg X.base CX k f fd ps sp) (hr : Room k X.A) (hb : Binds X.K fd ps ds) (hd : Vals dvs ds) (hx : Passes CX X E)
    (I : Inv X pins σ H s) (r : Vals vs us) (h : sp (vs ++ dvs) H Q E) : wpAny (model X.prog X.w) X.A (call (.ref f) us) (EP X pins σ Q) X.xe s := by
  have r2 : Vals (vs ++ dvs) (us ++ ds) := r.append hd
  have hl : (us ++ ds).length = ps.length := by rw [← r2.length]; exact F.len _ _ _ _ h
  refine wpAny_call (codeAny_mono (F.run X.A X.stack s H ⟨us, []⟩ (us ++ ds) (vs ++ dvs) Q E hr I.env0 (hb s us I.kIn hl) r2 h) fun r s' hq => ?_)
  cases r with
  | error e => exact hx pins σ H s e s' I hq
  | ok fl =>
    cases fl with
    | ret u => exact I.after hq
    | next => exact False.elim hq
    | brk => exact False.elim hq
    | cont => exact False.elim hq

theorem pe_call (F : FnOk X.prog X.w X.K X.mg X.base CX k f fd ps sp) (hr : Room k X.A) (hg : Gl X x) (hm : X.mg x = some (.ref f)) (hk : PySem.W.keepIn X.K (.ref f) = true) (hb : Binds X.K fd ps ds) (hd : Vals dvs ds) (hx : Passes CX X E)
    (ha : PA X (e :: es) t) (hdb : (x == ("__debug__" : Str)) = false := by decide) (he : starEach (e :: es) X.env = (false, eval e X.env) :: starEach es X.env := by rfl) (hpl : (backTo pos (starEach es X.env)).any (·.1) = false := by rfl) :
    PE X (.Call (.Name x p) (e :: es) [] pos) (tCall sp dvs E t) := by
  intro pins s σ H Q I h
  refine wpAny_Call_Name_kw (ld_glob I hg hm ?_ hdb)
  refine PySem.W.callWith_K (h₀ := X.base) I.ok.mod.kin hk (thn (ha pos pins s σ H _ I h) fun us s1 ⟨vs, H1, I1, r, q⟩ => ⟨I1.kIn, ?_⟩) he hpl
  exact run_fn F hr hb hd hx I1 r q
/-- o.m() -/
theorem pe_meth0 {pl : Sem Bool} (he : PE X o ta) (c : Cls X.K C) (hm : Meth X.K C m f) (F : FnOk X.prog X.w X.K X.mg X.base CX k f fd ps sp) (hr : Room k X.A) (hb : Binds X.K fd ps ds) (hd : Vals dvs ds) (hx : Passes CX X E)
    (ht : eval (.Call (.Attribute o m apos) [] [] pos) X.env = (do
      let ov ← eval o X.env
      standAt apos.atName
      let (f, first) ← holding [ov] (getMethod ov m pl)
      callWith pos f first (backTo pos (starEach [] X.env)) (backToKw pos (keywordEach [] X.env))) := by rfl) :
    PE X (.Call (.Attribute o m apos) [] [] pos) (tMeth C m sp dvs E ta tNil) := by
  intro pins s σ H Q I h
  refine PySem.W.methodCall_KW (pl := pl) (thn (he pins s σ H _ I h) fun u s1 ⟨x, H1, I1, rx, a, dx, fs, ex, ea, l, q⟩ => ?_) ht
  subst ex
  obtain rfl : u = Value.ref a := rx
  refine getmeth_ok I1 ea c hm l ?_
  exact PySem.W.callWith_K0 (first := [.ref a]) I1.kIn hm.kp (run_fn (us := [.ref a]) (vs := [.ref a]) F hr hb hd hx I1 (.cons rfl .nil) q)

/-- what a class must have to be made -/
structure Mk (K : PySem.W.Frag) (C f : Addr) : Prop where
  makes : PySem.W.makesIn K C = true
  init : PySem.W.findIn K (.ref C) "__init__" = some (some (.ref f))
  fn : PySem.W.isFn K (.ref f) = true
  kp : PySem.W.keepIn K (.ref C) = true

theorem run_make {pins : List (Addr × Obj)} {σ : St} {H : Hp} {s : Shared} {Q : VK} {us : List Value} {vs : List V} (M : Mk X.K C f) (F : FnOk X.prog X.w X.K X.mg X.base CX k f fd ps sp) (hr : Room (k + 1) X.A) (hb : Binds X.K fd ps ds) (hd : Vals dvs ds)
    (hx : Passes CX X E) (I : Inv X pins σ H s) (r : Vals vs us)
    (h : ∀ x dx, H x = none → H dx = none → dx ≠ x → sp (.ref x :: (vs ++ dvs)) (upd (upd H dx (.own x)) x (.ins C dx [])) (fun v H2 => v = .non ∧ Q (.ref x) H2) E) :
    wpAny (model X.prog X.w) X.A (call (.ref C) us) (EP X pins σ Q) X.xe s := by
  have hq := h (s.heap.objs.size + 1) s.heap.objs.size (I.hok.fresh (Nat.le_succ _)) (I.hok.fresh (Nat.le_refl _)) (Nat.ne_of_lt (Nat.lt_succ_self _))
  have I2 := Inv.made (C := C) I
  have r2 : Vals (V.ref (s.heap.objs.size + 1) :: (vs ++ dvs)) (Value.ref (s.heap.objs.size + 1) :: (us ++ ds)) := .cons rfl (r.append hd)
  have hl : (Value.ref (s.heap.objs.size + 1) :: us ++ ds).length = ps.length := by
    have e := r2.length
    rw [F.len _ _ _ _ hq] at e
    exact e.symm
  refine wpAny_call (make_map (f := f) I.kIn M.makes M.init (beq_iff_eq.mp M.fn) (codeAny_mono (F.run _ X.stack _ _ ⟨Value.ref (s.heap.objs.size + 1) :: us, []⟩ (Value.ref (s.heap.objs.size + 1) :: (us ++ ds)) _ _ E (hr.make C us [])
    (I2.env0.make C us []) (hb _ (Value.ref (s.heap.objs.size + 1) :: us) I2.kIn hl) r2 hq) fun r s' hq' => ?_))
  cases r with
  | error e => exact hx pins σ _ _ e s' I2 hq'
  | ok fl =>
    cases fl with
    | ret u =>
      obtain ⟨v, H', I3, rv, ev, q3⟩ := I2.after hq'
      subst ev
      exact ⟨rv, ⟨V.ref (s.heap.objs.size + 1), H', I3, rfl, q3⟩⟩
    | next => exact False.elim hq'
    | brk => exact False.elim hq'
    | cont => exact False.elim hq'
theorem pe_make (M : Mk X.K C f) (F : FnOk X.prog X.w X.K X.mg X.base CX k f fd ps sp) (hr : Room (k + 1) X.A) (hg : Gl X x) (hm : X.mg x = some (.ref C)) (hb : Binds X.K fd ps ds) (hd : Vals dvs ds) (hx : Passes CX X E)
    (ha : PA X (e :: es) t) (hdb : (x == ("__debug__" : Str)) = false := by decide) (he : starEach (e :: es) X.env = (false, eval e X.env) :: starEach es X.env := by rfl) (hpl : (backTo pos (starEach es X.env)).any (·.1) = false := by rfl) :
    PE X (.Call (.Name x p) (e :: es) [] pos) (tMake C sp dvs E t) := by
  intro pins s σ H Q I h
  refine wpAny_Call_Name_kw (ld_glob I hg hm ?_ hdb)
  refine PySem.W.callWith_K (h₀ := X.base) I.ok.mod.kin M.kp (thn (ha pos pins s σ H _ I h) fun us s1 ⟨vs, H1, I1, r, q⟩ => ⟨I1.kIn, ?_⟩) he hpl
  exact run_make M F hr hb hd hx I1 r q
end

/-! ### keywords -/
section
variable {X : Cx} {CX : CXT} {k : Nat} {f C : Addr} {fd : FuncData} {ps ks : List Str} {sp : Sp} {E : XK} {x m : Str} {p pos apos kpos : Pos} {e o : Expr} {es : List Expr} {kws : List Keyword} {te ta : TE} {t tk : TA} {nm : Option Str}
variable {g : List Value → List Value → List Value} {gV : List V → List V → List V}
end

/-! ### a def's body keeps its promise -/
/-- names: the parameters first -/
structure FnScope (N P : List Str) (sc : Scope) : Prop where
  kind : sc.kind = .function
  co : sc.isCoroutine = false
  gen : sc.isGenerator = false
  nd : N.Nodup
  pre : N.take P.length = P
  par : ∀ x ∈ P, sc.names.lookup x = some .local ∨ sc.names.lookup x = some .cell
  nofree : ∀ y ∈ sc.names, y.2 ≠ .free

theorem bindL_out {kindOf : Str → Option NameKind} {x : Str} : ∀ {binds : List (Str × Value)} {m : Str → Option Value}, (∀ v, (x, v) ∉ binds) → bindL kindOf binds m x = m x
  | [], _, _ => rfl
  | (n, v) :: r, m, h => by
    unfold bindL
    rw [bindL_out fun w hw => h w (List.mem_cons_of_mem _ hw)]
    split
    · have : x ≠ n := by rintro rfl; exact h v List.mem_cons_self
      simp [this]
    · rfl
theorem bindC_out {kindOf : Str → Option NameKind} {x : Str} : ∀ {binds : List (Str × Value)} {m : Str → Option Value}, (∀ v, (x, v) ∉ binds) → bindC kindOf binds m x = m x
  | [], _, _ => rfl
  | (n, v) :: r, m, h => by
    unfold bindC
    rw [bindC_out fun w hw => h w (List.mem_cons_of_mem _ hw)]
    split
    · rfl
    · have : x ≠ n := by rintro rfl; exact h v List.mem_cons_self
      simp [this]
theorem bindL_get {kindOf : Str → Option NameKind} {x : Str} {v : Value} : ∀ {P : List Str} {vs : List Value} {i : Nat} {m : Str → Option Value}, P.Nodup → P[i]? = some x → vs[i]? = some v → kindOf x = some .local →
    bindL kindOf (P.zip vs) m x = some v
  | [], _, _, _, _, h, _, _ => by simp at h
  | _ :: _, [], _, _, _, _, h, _ => by simp at h
  | p :: P, w :: vs, 0, m, nd, h1, h2, hk => by
    simp at h1 h2; subst h1; subst h2
    show bindL kindOf ((p, w) :: P.zip vs) m p = _
    unfold bindL
    rw [bindL_out fun v hv => (List.nodup_cons.mp nd).1 (List.of_mem_zip hv).1, if_pos hk]
    simp
  | p :: P, w :: vs, i + 1, m, nd, h1, h2, hk => by
    show bindL kindOf ((p, w) :: P.zip vs) m x = _
    unfold bindL
    exact bindL_get (i := i) (List.nodup_cons.mp nd).2 (by simpa using h1) (by simpa using h2) hk
theorem bindC_get {kindOf : Str → Option NameKind} {x : Str} {v : Value} : ∀ {P : List Str} {vs : List Value} {i : Nat} {m : Str → Option Value}, P.Nodup → P[i]? = some x → vs[i]? = some v → kindOf x ≠ some .local →
    bindC kindOf (P.zip vs) m x = some v
  | [], _, _, _, _, h, _, _ => by simp at h
  | _ :: _, [], _, _, _, _, h, _ => by simp at h
  | p :: P, w :: vs, 0, m, nd, h1, h2, hk => by
    simp at h1 h2; subst h1; subst h2
    show bindC kindOf ((p, w) :: P.zip vs) m p = _
    unfold bindC
    rw [bindC_out fun v hv => (List.nodup_cons.mp nd).1 (List.of_mem_zip hv).1, if_neg hk]
    simp
  | p :: P, w :: vs, i + 1, m, nd, h1, h2, hk => by
    show bindC kindOf ((p, w) :: P.zip vs) m x = _
    unfold bindC
    exact bindC_get (i := i) (List.nodup_cons.mp nd).2 (by simpa using h1) (by simpa using h2) hk

/-- the names' values at the entry -/
def start (N : List Str) (vs : List V) : St := vs.map some ++ List.replicate (N.length - vs.length) none

/-- the context of a def's body, at its entry; an exception leaves the frame, then lies as CX says -/
def cxOf (CX : CXT) (P : Program) (w : World) (K : PySem.W.Frag) (mg : Str → Option Value) (base : Heap) (N : List Str) (qual : Str) (scope : Scope) (f : Addr) (cd : Value) (A : Around) (outer : List Env) (s : Shared) (H : Hp) (E : XK) : Cx where
  prog := P
  w := w
  K := K
  mg := mg
  base := base
  A := A.deeper (envOfC qual scope s.heap.objs.size f cd)
  N := N
  s₀ := s
  H₀ := H
  env := envOfC qual scope s.heap.objs.size f cd
  outer := outer
  stack := envOfC qual scope s.heap.objs.size f cd :: outer
  ex := []
  calm := true
  fn := fun _ => true
  pn := []
  xe := fun e s' => wpAny (model P w) (A.deeper (envOfC qual scope s.heap.objs.size f cd)) (leaving (envOfC qual scope s.heap.objs.size f cd) e) (fun _ s'' => CX outer H s E e s'') (fun e' s'' => CX outer H s E e' s'') s'

theorem cell_has {sc : Scope} {n : Nat} {x : Str} (h : sc.names.lookup x = some .cell) : ∃ c, (cellsFrom n sc.names []).lookup x = some c := by
  have q := PySem.W.cellsFrom_some sc.names n [] (.inl h)
  exact Option.isSome_iff_exists.mp q

theorem inv_start {CX : CXT} {P : Program} {w : World} {K : PySem.W.Frag} {mg : Str → Option Value} {base : Heap} {N ps : List Str} {qual : Str} {scope : Scope} {f : Addr} {cd : Value} {A : Around} {outer : List Env} {s s1 : Shared} {H : Hp} {E : XK} {us : List Value} {vs : List V}
    (S : FnScope N ps scope) (hd : A.handled = none) (e0 : Env0 P w K mg base A outer s H) (hl : vs.length = ps.length) (r : Vals vs us)
    (x : InCallC s s.heap.objs.size (bindL (envOfC qual scope s.heap.objs.size f cd).kindOf (ps.zip us) fun _ => none) (cellsFrom (s.heap.objs.size + 1) scope.names []) (bindC (envOfC qual scope s.heap.objs.size f cd).kindOf (ps.zip us) fun _ => none) s1) :
    Inv (cxOf CX P w K mg base N qual scope f cd A outer s H E) [] (start N vs) H s1 := by
  have hpl : ps.length ≤ N.length := by have := congrArg List.length S.pre; rw [List.length_take] at this; omega
  obtain ⟨h1, tk, rfl, hk⟩ := x.done
  have noA : ∀ b : Addr, b ∉ (cxOf CX P w K mg base N qual scope f cd A outer s H E).ex := fun b z => absurd (show b ∈ ([] : List Addr) from z) (by simp)
  refine ⟨⟨e0.mod, S.kind, rfl, rfl, Nat.le_refl _, fun y z c h1 h2 => ?_, fun y hy => ?_, fun y c _ h => ?_, fun _ => hd, Around.frames_deeper e0.frames, .inr ⟨rfl, rfl⟩, fun b z => absurd z (noA b), e0.bs, e0.bsz, fun b _ _ => noA b, fun b z => absurd z (noA b), e0.funs, e0.frf⟩,
    rfl, e0.bare, Un.kept hk, ⟨_, x.toInCall.ns, fun i y v h1 h2 h3 => ?_⟩, fun y c h => ⟨_, x.cell y c h⟩, e0.hok.fresh (Nat.le_refl _), fun y c h => ?_, fun p hp => absurd (show p ∈ ([] : List (Addr × Obj)) from hp) (by simp), e0.hok.kept hk, ?_⟩
  · exact name_of_addr x.apart (PySem.mem_of_lookup h1) (PySem.mem_of_lookup h2)
  · have hy : scope.names.lookup y = some .cell ∨ scope.names.lookup y = some .free := hy
    rcases hy with hy | hy
    · exact cell_has hy
    · exact absurd rfl (S.nofree _ (PySem.mem_of_lookup hy))
  · exact Nat.le_of_lt (x.above y c (PySem.mem_of_lookup h))
  · have hi : i < vs.length := by
      unfold start at h2
      by_cases hi : i < vs.length
      · exact hi
      · rw [List.getElem?_append_right (by simpa using hi)] at h2
        rw [List.getElem?_replicate] at h2
        split at h2 <;> cases h2
    have ha : vs[i]? = some v := by
      unfold start at h2
      rw [List.getElem?_append_left (by simpa using hi), List.getElem?_map] at h2
      cases e : vs[i]? with
      | none => rw [e] at h2; cases h2
      | some a => rw [e] at h2; cases h2; rfl
    obtain ⟨u, hu, rv⟩ := r.get ha
    have hp : ps[i]? = some y := by
      rw [← S.pre, List.getElem?_take_of_lt (by omega)]; exact h1
    have ndP : ps.Nodup := by rw [← S.pre]; exact S.nd.sublist (List.take_sublist _ _)
    refine ⟨u, rv, ?_⟩
    rcases S.par y (List.mem_of_getElem? hp) with k | k
    · exact .inl ⟨k, bindL_get ndP hp hu k⟩
    · obtain ⟨c, e⟩ := cell_has (n := s.heap.objs.size + 1) k
      refine .inr ⟨.inl k, c, e, ?_⟩
      have q := x.cell y c e
      rw [bindC_get ndP hp hu (by show scope.names.lookup y ≠ _; rw [k]; decide)] at q
      exact q
  · exact e0.hok.fresh (Nat.le_of_lt (x.above y c (PySem.mem_of_lookup h)))
  · unfold start
    show _ = N.length
    rw [List.length_append, List.length_map, List.length_replicate]
    omega

/-- THE RULE: a def (or a method) of the text, by its body. The body's reading t is chosen for each entry; it is run at the parameters' values -/
theorem fn_of {CX : CXT} {P : Program} {w : World} {K : PySem.W.Frag} {mg : Str → Option Value} {base : Heap} {k : Nat} {f : Addr} {name qual : Str} {params : Arguments} {body : List Stmt} {scope : Scope} {dV kV doc pm cdv ct oc : Value} {an od : Option Addr}
    {osl : Array (Option Value)} {N ps : List Str} {sp : Sp} (lk : K.lookup f = some ⟨oc, od, .func (PySem.W.fnOf name qual params body scope dV kV doc pm an cdv ct), osl⟩) (hcd : PySem.W.codeIn K cdv qual = true) (S : FnScope N ps scope)
    (len : ∀ vs H Q E, sp vs H Q E → vs.length = ps.length)
    (hbody : ∀ (A : Around) (outer : List Env) (s : Shared) (H : Hp) (vs : List V) (Q : VK) (E : XK), Room k (A.deeper (envOfC qual scope s.heap.objs.size f cdv)) → sp vs H Q E →
      ∃ t, PSs (cxOf CX P w K mg base N qual scope f cdv A outer s H E) body t ∧ t { nx := fun _ H' => Q .non H', rt := Q } (start N vs) H) :
    FnOk P w K mg base CX (k + 1) f (PySem.W.fnOf name qual params body scope dV kV doc pm an cdv ct) ps sp := by
  refine ⟨len, fun A outer s H args us vs Q E hr e0 hb r hsp => ?_⟩
  have hl := len _ _ _ _ hsp
  have KX : K.In s.heap := e0.mod.kin.keeps fun b o e => (e0.bs b o e).1
  have lim : s.heap.NoLimit := e0.mod.nolimit.keeps fun b o e => (e0.bs b o e).1
  have hkind : ∀ y ∈ ps.zip us, scope.names.lookup y.1 = some .local ∨ (scope.names.lookup y.1 = some .cell ∧ ((cellsFrom (s.heap.objs.size + 1) scope.names []).lookup y.1).isSome = true) := fun ⟨n, v⟩ hy => by
    rcases S.par n (List.of_mem_zip hy).1 with q | q
    · exact .inl q
    · exact .inr ⟨q, PySem.W.cellsFrom_some _ _ _ (.inl q)⟩
  refine codeAny_call_function hr.depth (KX _ _ lk) rfl S.co S.gen rfl (PySem.W.codeRec_of KX hcd) (hb _ _ _ _ ?_)
  refine wpAny_newFunctionEnv_cells S.kind hkind fun env he s1 x => ?_
  subst he
  refine ⟨lim.keeps x.toInCall.keep, codeAny_func ?_⟩
  obtain ⟨t, ht, hq⟩ := hbody A outer s H vs Q E (hr.deeper _) hsp
  have I : Inv (cxOf CX P w K mg base N qual scope f cdv A outer s H E) [] (start N vs) H s1 := inv_start S hr.hd e0 hl r x
  refine wpAny_mono (ht [] s1 (start N vs) H _ I hq) (fun fl s' hs => ?_) fun e s' hs => hs
  have fin : ∀ {σ' : St} {H' : Hp} {v : V} {u : Value}, Inv (cxOf CX P w K mg base N qual scope f cdv A outer s H E) [] σ' H' s' → RelV v u → Q v H' → CE outer P w H s Q u s' :=
    fun {σ' H' v u} J rv q => ⟨v, H', J.os, J.bare, J.base, J.hok, rv, q⟩
  cases fl with
  | ret u =>
    obtain ⟨v, σ', H', J, rv, q⟩ := hs
    exact fin J rv q
  | next =>
    obtain ⟨σ', H', J, q⟩ := hs
    exact fin (v := V.non) (u := Value.none) J rfl q
  | brk =>
    obtain ⟨_, _, _, q⟩ := hs
    exact False.elim q
  | cont =>
    obtain ⟨_, _, _, q⟩ := hs
    exact False.elim q
end L2

namespace L2
open PySem PySem.Spec PyProof.Rows
section
variable {X : Cx} {x : Str} {p pos : Pos} {e : Expr} {es : List Expr} {t : TA} {id T : String} {r : List V → Hp → VK → Prop}

def tCB (r : List V → Hp → VK → Prop) (t : TA) : TE := fun σ H Q => t σ H fun vs H1 => r vs H1 Q
/-- f(e, ..), f a built-in function -/
theorem pe_callB (hc : CallR X (.builtin id) r) (hg : Gl X x) (hm : X.mg x = none) (hv : bootBuiltins x = some (.builtin id)) (ha : PA X (e :: es) t) (hn : x ≠ "__name__" := by decide) (hdb : (x == ("__debug__" : Str)) = false := by decide)
    (he : starEach (e :: es) X.env = (false, eval e X.env) :: starEach es X.env := by rfl) (hpl : (backTo pos (starEach es X.env)).any (·.1) = false := by rfl) : PE X (.Call (.Name x p) (e :: es) [] pos) (tCB r t) := by
  intro pins s σ H Q I h
  refine wpAny_Call_Name_kw (ld_blt I hg hm hv ?_ hn hdb)
  exact PyProof.Rows.callWith_builtin1 (thn (ha pos pins s σ H _ I h) fun us s1 ⟨vs, H1, I1, r1, q1⟩ => hc pins s1 σ H1 vs us Q I1 r1 q1) he hpl
/-- T(e, ..), T a built-in type -/
theorem pe_callTy (hc : CallR X (.type T) r) (hg : Gl X x) (hm : X.mg x = none) (hv : bootBuiltins x = some (.type T)) (ha : PA X (e :: es) t) (hn : x ≠ "__name__" := by decide) (hdb : (x == ("__debug__" : Str)) = false := by decide)
    (he : starEach (e :: es) X.env = (false, eval e X.env) :: starEach es X.env := by rfl) (hpl : (backTo pos (starEach es X.env)).any (·.1) = false := by rfl) : PE X (.Call (.Name x p) (e :: es) [] pos) (tCB r t) := by
  intro pins s σ H Q I h
  refine wpAny_Call_Name_kw (ld_blt I hg hm hv ?_ hn hdb)
  exact PyProof.Rows.callWith_type1 (thn (ha pos pins s σ H _ I h) fun us s1 ⟨vs, H1, I1, r1, q1⟩ => hc pins s1 σ H1 vs us Q I1 r1 q1) he hpl
end
end L2

namespace HT
open PySem PyProof.Rows

theorem rcLt_int (A : Around) (s : Shared) (a : Int) (t : Tok) (c : Int) (u : Tok) (prog : Program) (w : World) (E : Value → Shared → Prop) (Q : Value → Shared → Prop) (h : Q (.bool (decide (a < c))) s) :
    wpAny (model prog w) A (richCompare .Lt (.int a t) (.int c u)) Q E s :=
  (PyProof.Rows.lt_int h : wpAny (model prog w) A (compareOp .Lt (.int a t) (.int c u)) Q E s)

section
open PySem.SeqAt
open PySem.AutoSeq1 (wpAny_loadPart')
open PySem.MeetsSeq PySem.MeetsSeq2 PySem.MeetsSeq3

end

section
variable {prog : Program} {w : World} {A : Around} {E : Value → Shared → Prop} {s : Shared}

/-- t + u, t not empty -/
theorem cat_tup {t b : Addr} {vs ws : List Value} {Q : Value → Shared → Prop} (ht : IsTup s.heap t vs.toArray) (hb : IsTup s.heap b ws.toArray) (hv : vs ≠ [])
    (h1 : ws = [] → Q (.ref t) s) (h2 : ws ≠ [] → Q (.ref s.heap.objs.size) { s with heap := s.heap.push { cls := .type "tuple", data := .seq (vs ++ ws).toArray } })
    (hsz : vs.length + ws.length ≤ sizeLine) : wpAny (model prog w) A (binaryOp .Add (.ref t) (.ref b)) Q E s := by
  obtain ⟨⟨cls, dd, data, sl⟩, ho, hc, n, hd⟩ := id ht
  obtain ⟨⟨cls2, dd2, data2, sl2⟩, ho2, hc2, n2, hd2⟩ := id hb
  simp only at hc hd hc2 hd2
  subst hc hd hc2 hd2
  have e : vs.toArray ++ ws.toArray = (vs ++ ws).toArray := by simp
  by_cases hw : ws = []
  · exact concat_meets ⟨_, ho, rfl⟩ ⟨_, ho2, rfl⟩ noFill_tuple_add seq_tuple_add PySem.F.slot_tuple_add PySem.F.entry_tuple_add (PySem.F.args_tuple_add_2 _ _)
      (tuple_addW1 t b vs.toArray ws.toArray n n2 dd dd2 sl sl2 (by simpa using hv) (by simp [hw])) ⟨ho, ho2, h1 hw⟩
  · refine concat_meets ⟨_, ho, rfl⟩ ⟨_, ho2, rfl⟩ noFill_tuple_add seq_tuple_add PySem.F.slot_tuple_add PySem.F.entry_tuple_add (PySem.F.args_tuple_add_2 _ _)
      (tuple_addW2 t b vs.toArray ws.toArray n n2 dd dd2 sl sl2 (by simpa using hv) (by simpa using hw) (by rw [List.size_toArray, List.size_toArray]; exact hsz)) ⟨ho, ho2, ?_⟩
    rw [e]
    exact h2 hw

/-! ### t[a:b], not the whole -/
/-- a slice's bound as a place among n (d where it is left out) -/
def sIx (n d : Nat) : Option Int → Nat
  | none => d
  | some v => if v < 0 then (v + (n : Int)).toNat else min v.toNat n
theorem sIx_le (n d : Nat) (hd : d ≤ n) (o : Option Int) : sIx n d o ≤ n := by
  cases o with
  | none => exact hd
  | some v =>
    show (if v < 0 then (v + (n : Int)).toNat else min v.toNat n) ≤ n
    by_cases hv : v < 0
    · rw [if_pos hv]; omega
    · rw [if_neg hv]; exact Nat.min_le_right _ _
theorem clip_eq (v : Int) (n d : Nat) : (if v < 0 then max (v + (n : Int)) 0 else min v (n : Int)) = ((sIx n d (some v) : Nat) : Int) := by
  show (if v < 0 then max (v + (n : Int)) 0 else min v (n : Int)) = (((if v < 0 then (v + (n : Int)).toNat else min v.toNat n) : Nat) : Int)
  by_cases hv : v < 0
  · simp only [if_pos hv]; omega
  · simp only [if_neg hv]; omega
theorem adjust_gen (lo hi : Option Int) (n : Nat) : Builtin.Slice.sliceAdjust lo hi 1 (n : Int) = (((sIx n 0 lo : Nat) : Int), ((sIx n n hi : Nat) : Int)) := by
  have h1 : ¬ ((1 : Int) < 0) := by omega
  unfold Builtin.Slice.sliceAdjust
  simp only [h1, if_false]
  refine Prod.ext ?_ ?_
  · cases lo with
    | none => rfl
    | some v => exact clip_eq v n 0
  · cases hi with
    | none => rfl
    | some v => exact clip_eq v n n
theorem places_gen (i j : Nat) : Builtin.Slice.slicePlaces (i : Int) (j : Int) 1 = j - i := by
  unfold Builtin.Slice.slicePlaces
  have h1 : (1 : Int) > 0 := by omega
  simp only [h1, if_true, Int.ediv_one]
  split <;> omega
theorem slicePart_ {v : Value} {o : Option Int} {Q : Option Int → Shared → Prop} (p : IsPart v o) (h : Q o s) : wpAny (model prog w) A (Builtin.Slice.slicePartIndex v) Q E s := by
  cases p with
  | none => exact slicePart_none h
  | int i t => exact slicePart_int h
theorem sliceApplied_gen {sl : Addr} {vl vu : Value} {lo hi : Option Int} {n : Nat} {Q : Int × Int × Nat → Shared → Prop} (hs : s.heap.IsSliceOf sl vl vu .none) (pl : IsPart vl lo) (pu : IsPart vu hi)
    (h : Q (((sIx n 0 lo : Nat) : Int), 1, sIx n n hi - sIx n 0 lo) s) : wpAny (model prog w) A (Builtin.Slice.sliceApplied (.ref sl) (pure (n : Int))) Q E s := by
  obtain ⟨os, hos, hcs, hds⟩ := id hs
  unfold Builtin.Slice.sliceApplied Builtin.Slice.sliceFields
  refine wpAny_bind (wpAny_bind (wpAny_field hos hds (x := vl) rfl (wpAny_bind (wpAny_field hos hds (x := vu) rfl (wpAny_bind (wpAny_field hos hds (x := .none) rfl (wpAny_pure ?_)))))))
  refine wpAny_bind (slicePart_none ?_)
  show wpAny _ _ (if ((1 : Int) == 0) = true then _ else _) _ _ s
  rw [if_neg (by decide)]
  refine wpAny_bind (slicePart_ pl (wpAny_bind (slicePart_ pu (wpAny_bind (wpAny_pure ?_)))))
  show wpAny _ _ (match Builtin.Slice.sliceAdjust lo hi 1 (n : Int) with | (lo, hi) => pure (lo, (1 : Int), Builtin.Slice.slicePlaces lo hi 1)) _ _ s
  rw [adjust_gen lo hi n]
  show wpAny _ _ (pure (((sIx n 0 lo : Nat) : Int), (1 : Int), Builtin.Slice.slicePlaces ((sIx n 0 lo : Nat) : Int) ((sIx n n hi : Nat) : Int) 1)) _ _ s
  rw [places_gen]
  exact wpAny_pure h
theorem pick_gen (xs : Array Value) (i k : Nat) : ((List.range k).filterMap fun (m : Nat) => xs[((i : Int) + (m : Int) * 1).toNat]?).toArray = ((xs.toList.drop i).take k).toArray := by
  have e : (fun (m : Nat) => xs[((i : Int) + (m : Int) * 1).toNat]?) = fun m => xs[i + m]? := by
    funext m
    have : ((i : Int) + (m : Int) * 1).toNat = i + m := by omega
    rw [this]
  rw [e]
  have := pick_run xs i k
  rw [List.filterMap_map] at this
  have e2 : ((fun x => xs[x]?) ∘ fun x => i + x) = fun m => xs[i + m]? := rfl
  rw [e2] at this
  rw [this]

theorem getItem_tuple_cut {t sl : Addr} {items : Array Value} {vl vu : Value} {lo hi : Option Int} {Q : Value → Shared → Prop} (ht : IsTup s.heap t items) (hs : s.heap.IsSliceOf sl vl vu .none) (pl : IsPart vl lo) (pu : IsPart vu hi)
    (hw : ¬ (sIx items.size 0 lo = 0 ∧ sIx items.size items.size hi = items.size))
    (h : Q (.ref s.heap.objs.size) { s with heap := s.heap.push { cls := .type "tuple", data := .seq ((items.toList.drop (sIx items.size 0 lo)).take (sIx items.size items.size hi - sIx items.size 0 lo)).toArray } })
    (hsz : items.size ≤ sizeLine) : wpAny (model prog w) A (getItem (.ref t) (.ref sl)) Q E s := by
  have htake : sizeOk (.seq ((items.toList.drop (sIx items.size 0 lo)).take (sIx items.size items.size hi - sIx items.size 0 lo)).toArray) := by
    show ((items.toList.drop (sIx items.size 0 lo)).take (sIx items.size items.size hi - sIx items.size 0 lo)).toArray.size ≤ sizeLine
    rw [List.size_toArray, List.length_take, List.length_drop, Array.length_toList]
    omega
  have hj : sIx items.size items.size hi ≤ items.size := sIx_le _ _ (Nat.le_refl _) hi
  obtain ⟨os, hos, hcs, hds⟩ := id hs
  have hTs : s.TypeIs (.ref sl) "slice" := ⟨os, hos, hcs⟩
  unfold getItem
  try with_reducible refine wpAny_holding ?_
  first | refine wpAny_bind (wpAny_pure ?_) | skip
  refine wpAny_bind (wpAny_sequenceKey ht.typeIs (by decide) ?_)
  refine wpAny_bind (wpAny_callSpecial?_slot (name := Str.ofString "__getitem__") ht.typeIs PyProof.Rows.slot_tuple_getitem
    (wpAny_call_entry PyProof.Rows.slot_tuple_getitem ht.typeIs entry_tuple_getitem ?_ (args_tuple_getitem _ _)))
  show wpAny _ _ (Builtin.Tuple.tupleItemsOf (.ref t) >>= _) _ _ s
  refine wpAny_bind (tupleItemsOf_ ht ?_)
  refine wpAny_bind (wpAny_typeOf hTs ?_)
  rw [if_pos (by decide)]
  refine wpAny_bind (sliceApplied_gen hs pl pu ?_)
  have hno : ¬ ((((sIx items.size 0 lo : Nat) : Int) == 0 && (1 : Int) == 1 && (sIx items.size items.size hi - sIx items.size 0 lo) == items.size) = true) := by
    intro q
    rw [Bool.and_eq_true, Bool.and_eq_true] at q
    have q1 : ((sIx items.size 0 lo : Nat) : Int) = 0 := eq_of_beq q.1.1
    have q2 : sIx items.size items.size hi - sIx items.size 0 lo = items.size := eq_of_beq q.2
    exact hw ⟨by omega, by omega⟩
  show wpAny _ _ (if (((sIx items.size 0 lo : Nat) : Int) == 0 && (1 : Int) == 1 && (sIx items.size items.size hi - sIx items.size 0 lo) == items.size) = true then _ else _) _ _ s
  rw [if_neg hno, pick_gen]
  first
    | exact wpAny_bind (m := Builtin.Tuple.tupleExact _) (wpAny_newObj_type (wpAny_pure ⟨_, rfl, wpAny_pure h⟩) htake)
    | exact wpAny_bind (m := Builtin.Tuple.tupleExact _) (wpAny_newObj_type (wpAny_bind (wpAny_pure (wpAny_pure ⟨_, rfl, wpAny_pure h⟩))) htake)
    | exact wpAny_bind (wpAny_bind (m := Builtin.Tuple.tupleExact _) (wpAny_newObj_type (wpAny_pure (wpAny_pure ⟨_, rfl, wpAny_pure h⟩)) htake))
    | exact wpAny_bind (wpAny_bind (m := Builtin.Tuple.tupleExact _) (wpAny_newObj_type (wpAny_pure ⟨_, rfl, wpAny_pure h⟩) htake))
end
end HT

namespace L2
open PySem PySem.Spec PyProof.Rows

/-! ### the parts of a slice -/
abbrev TO := St → Hp → (Option Int → Hp → Prop) → Prop
/-- a slice's part (left out, or an int) -/
def PO (X : Cx) (e : Option Expr) (t : TO) : Prop :=
  ∀ (pins : List (Addr × Obj)) (s : Shared) (σ : St) (H : Hp) (Q : Option Int → Hp → Prop), Inv X pins σ H s → t σ H Q →
    wpAny (model X.prog X.w) X.A (evalPart e X.env) (fun u s' => ∃ o H', Inv X pins σ H' s' ∧ IsPart u o ∧ Q o H') X.xe s
def tNoPart : TO := fun _ H Q => Q none H
def tPart (t : TE) : TO := fun σ H Q => t σ H fun x H1 => ∃ i, x = .int i ∧ Q (some i) H1

theorem intsAre_of {ns : List Int} : ∀ {us : List Value}, Vals (ns.map V.int) us → IntsAre us ns := by
  induction ns with
  | nil => intro us r; rw [List.map_nil] at r; cases r; exact .nil
  | cons n ns ih =>
    intro us r
    rw [List.map_cons] at r
    cases r with
    | cons r1 r2 =>
      obtain ⟨t, e⟩ := r1
      subst e
      exact .cons n t (ih r2)

section
variable {X : Cx} {e : Expr} {te : TE} {lo hi : Option Expr} {tl th : TO} {pos p2 : Pos}

theorem po_none : PO X none tNoPart := by
  intro pins s σ H Q I h
  rw [evalPart_none]
  exact wpAny_pure ⟨none, H, I, .none, h⟩
theorem po_some (h : PE X e te) : PO X (some e) (tPart te) := by
  intro pins s σ H Q I hw
  rw [evalPart_some]
  refine thn (h pins s σ H _ I hw) fun u s1 ⟨x, H1, I1, r1, q1⟩ => ?_
  obtain ⟨i, rfl, q⟩ := q1
  obtain ⟨t, rfl⟩ := r1
  exact ⟨some i, H1, I1, .int i t, q⟩

/-- what a slice of a value is, by values: the slice object stands at sl -/
def SlR (X : Cx) (r : V → Option Int → Option Int → Hp → VK → Prop) : Prop :=
  ∀ (pins : List (Addr × Obj)) (s : Shared) (σ : St) (H : Hp) (x : V) (v vl vu : Value) (lo hi : Option Int) (sl : Addr) (Q : VK), Inv X pins σ H s → RelV x v → s.heap.IsSliceOf sl vl vu .none → IsPart vl lo → IsPart vu hi → r x lo hi H Q →
    ∃ T id, typeLookup (.type T) "__getitem__" = pure (some (.builtin id)) ∧ s.TypeIs v T ∧ wpAny (model X.prog X.w) X.A (getItem v (.ref sl)) (EP X pins σ Q) X.xe s
theorem SlR.or {r r' : V → Option Int → Option Int → Hp → VK → Prop} (h : SlR X r) (h' : SlR X r') : SlR X (fun x lo hi H Q => r x lo hi H Q ∨ r' x lo hi H Q) := by
  intro pins s σ H x v vl vu lo hi sl Q I rx hs pl pu q
  rcases q with q | q
  · exact h pins s σ H x v vl vu lo hi sl Q I rx hs pl pu q
  · exact h' pins s σ H x v vl vu lo hi sl Q I rx hs pl pu q
def tSl (r : V → Option Int → Option Int → Hp → VK → Prop) (te : TE) (tl th : TO) : TE := fun σ H Q => te σ H fun x H1 => tl σ H1 fun l H2 => th σ H2 fun u H3 => r x l u H3 Q
/-- a[lo:hi], any a -/
theorem pe_slice {r : V → Option Int → Option Int → Hp → VK → Prop} (hr : SlR X r) (he : PE X e te) (hl : PO X lo tl) (hu : PO X hi th) : PE X (.Subscript e (.Slice lo hi none p2) pos) (tSl r te tl th) := by
  intro pins s σ H Q I h
  refine Subscript_ (thn (he pins s σ H _ I h) fun v s1 ⟨x, H1, I1, r1, q1⟩ => ?_)
  refine wpAny_Slice (thn (hl pins s1 σ H1 _ I1 q1) fun vl s2 ⟨l, H2, I2, pl, q2⟩ => thn (hu pins s2 σ H2 _ I2 q2) fun vu s3 ⟨u, H3, I3, pu, q3⟩ => ?_)
  rw [evalPart_none]
  refine wpAny_pure ?_
  have I4 : Inv X pins σ H3 { s3 with heap := s3.heap.push { cls := .type "slice", data := .fields #[vl, vu, .none] } } := I3.kept (t' := s3.toks) fun b ob q => Heap.get?_push_of_some _ q
  obtain ⟨T, id, hT, ht, hg⟩ := hr pins { s3 with heap := s3.heap.push { cls := .type "slice", data := .fields #[vl, vu, .none] } } σ H3 x v vl vu l u s3.heap.objs.size Q I4 r1 (Heap.IsSliceOf.new ..) pl pu q3
  show wpAny (model X.prog X.w) X.A (subscriptTail e (.Slice lo hi none p2) v (.ref s3.heap.objs.size)) (EP X pins σ Q) X.xe { s3 with heap := s3.heap.push { cls := .type "slice", data := .fields #[vl, vu, .none] } }
  exact tail_any (ops := [.ref s3.heap.objs.size, v]) ht hT hg (by with_unfolding_all rfl)

/-- the items of xs[lo:hi] -/
def cutV (xs : List V) (lo hi : Option Int) : List V := (xs.drop (HT.sIx xs.length 0 lo)).take (HT.sIx xs.length xs.length hi - HT.sIx xs.length 0 lo)
theorem cutV_length (xs : List V) (lo hi : Option Int) : (cutV xs lo hi).length ≤ xs.length := by
  unfold cutV
  rw [List.length_take, List.length_drop]
  omega
/-- t[lo:hi], not the whole of it (the whole would be t itself) -/
def rSlT (K : PySem.W.Frag) : V → Option Int → Option Int → Hp → VK → Prop := fun x lo hi H Q => ∃ a xs, x = .ref a ∧ SqT K H a xs ∧
  ¬ (HT.sIx xs.length 0 lo = 0 ∧ HT.sIx xs.length xs.length hi = xs.length) ∧ ∀ p, H p = none → Q (.ref p) (upd H p (.tup (cutV xs lo hi)))
theorem sl_tup : SlR X (rSlT X.K) := by
  intro pins s σ H x v vl vu lo hi sl Q I rx hs pl pu h
  obtain ⟨a, xs, rfl, hx, hw, q⟩ := h
  cases rx
  obtain ⟨its, r, ht, hz⟩ := I.tuple hx
  have hlen : its.toArray.size = xs.length := by rw [List.size_toArray]; exact r.length.symm
  refine ⟨"tuple", _, PyProof.Rows.slot_tuple_getitem.lookup, ht.typeIs, ?_⟩
  refine HT.getItem_tuple_cut ht hs pl pu (by rw [hlen]; exact hw) ?_ (by rw [hlen]; exact hz)
  rw [hlen]
  refine ⟨.ref s.heap.objs.size, _, I.laid (t' := s.toks) (o := .tup (cutV xs lo hi)) (fun b ob q => Heap.get?_push_of_some _ q) (Nat.le_refl _) ?_, rfl, q _ (I.hok.fresh (Nat.le_refl _))⟩
  exact ⟨Nat.le_trans (cutV_length xs lo hi) hz, _, (r.drop (HT.sIx xs.length 0 lo)).take (HT.sIx xs.length xs.length hi - HT.sIx xs.length 0 lo), IsTup.new _ _⟩

/-! ### t < u, t + u -/
/-- t + u, t not empty: u empty gives t itself -/
def rCatT (K : PySem.W.Frag) : R2 := fun x y H Q => ∃ a b xs ys, x = .ref a ∧ y = .ref b ∧ SqT K H a xs ∧ SqT K H b ys ∧ xs ≠ [] ∧ xs.length + ys.length ≤ sizeLine ∧
  (ys = [] → Q (.ref a) H) ∧ (ys ≠ [] → ∀ p, H p = none → Q (.ref p) (upd H p (.tup (xs ++ ys))))
theorem Vals.nil_iff {xs : List V} {us : List Value} (r : Vals xs us) : us = [] ↔ xs = [] := by
  cases r with
  | nil => simp
  | cons _ _ => simp
theorem op_catT : OpR X (binaryOp .Add) (rCatT X.K) := by
  intro pins s σ H x y v u Q I rx ry h
  obtain ⟨a, b, xs, ys, rfl, rfl, ha, hb, hx, hz, q1, q2⟩ := h
  cases rx
  cases ry
  obtain ⟨its, r1, p1, _⟩ := I.tuple ha
  obtain ⟨its2, r2, p2, _⟩ := I.tuple hb
  refine HT.cat_tup p1 p2 (fun z => hx (r1.nil_iff.mp z)) (fun z => ⟨.ref a, H, I, rfl, q1 (r2.nil_iff.mp z)⟩) (fun z => ?_) (by rw [← r1.length, ← r2.length]; exact hz)
  refine ⟨.ref s.heap.objs.size, _, I.laid (t' := s.toks) (o := .tup (xs ++ ys)) (fun b ob q => Heap.get?_push_of_some _ q) (Nat.le_refl _) ?_, rfl, q2 (fun w => z (r2.nil_iff.mpr w)) _ (I.hok.fresh (Nat.le_refl _))⟩
  exact ⟨by rw [List.length_append]; exact hz, _, r1.append r2, IsTup.new _ _⟩
end
end L2

namespace L2
open PySem PySem.Spec PyProof.Rows

/-! ### places -/
/-- the place that an index of any sign means -/
def ixN (n : Nat) (i : Int) : Option Nat := if 0 ≤ i then (if i < n then some i.toNat else none) else if -(n : Int) ≤ i then some (i + n).toNat else none
def atI {α : Type} (xs : List α) (i : Int) : Option α := (ixN xs.length i).bind fun j => xs[j]?
theorem ixN_seq {n : Nat} {i : Int} {j : Nat} (h : ixN n i = some j) : seqIndex? i n = some j ∧ j < n ∧ -(n : Int) ≤ i ∧ i < n := by
  unfold ixN at h
  by_cases h0 : 0 ≤ i
  · rw [if_pos h0] at h
    by_cases h1 : i < n
    · rw [if_pos h1] at h
      have e : i.toNat = j := Option.some.inj h
      exact ⟨by rw [seqIndex_of h0 h1, e], by omega, by omega, h1⟩
    · rw [if_neg h1] at h; cases h
  · rw [if_neg h0] at h
    by_cases h1 : -(n : Int) ≤ i
    · rw [if_pos h1] at h
      have e : (i + n).toNat = j := Option.some.inj h
      exact ⟨by rw [seqIndex_neg (by omega) h1, e], by omega, h1, by omega⟩
    · rw [if_neg h1] at h; cases h
theorem atI_get {α : Type} {xs : List α} {i : Int} {v : α} (h : atI xs i = some v) : ∃ j, seqIndex? i xs.length = some j ∧ xs[j]? = some v ∧ j < xs.length ∧ -(xs.length : Int) ≤ i ∧ i < xs.length := by
  unfold atI at h
  cases e : ixN xs.length i with
  | none => rw [e] at h; cases h
  | some j =>
    rw [e] at h
    obtain ⟨h1, h2, h3, h4⟩ := ixN_seq e
    exact ⟨j, h1, h, h2, h3, h4⟩
theorem atI_nat {α : Type} {xs : List α} {j : Nat} {v : α} (h : xs[j]? = some v) : atI xs (j : Int) = some v := by
  have hj : j < xs.length := (List.getElem?_eq_some_iff.mp h).1
  have e : ixN xs.length (j : Int) = some j := by
    unfold ixN
    rw [if_pos (by omega), if_pos (by omega)]; simp
  unfold atI; rw [e]; exact h
/-! ### what may be subscripted -/
/-- what stands as an index of a plain subscript -/
def PlainIx (b : Expr) : Prop := ∀ o i, subscripted b false o i = operate [o, i] (getItem o i)
/-- a subscript by values -/
def IxR (X : Cx) (r : R2) : Prop :=
  ∀ (value slice : Expr) (pins : List (Addr × Obj)) (s : Shared) (σ : St) (H : Hp) (x y : V) (v u : Value) (Q : VK), Inv X pins σ H s → RelV x v → RelV y u → r x y H Q →
    subscripted slice false v u = operate [v, u] (getItem v u) → wpAny (model X.prog X.w) X.A (subscriptTail value slice v u) (EP X pins σ Q) X.xe s
/-- a call of a builtin's method by values: the receiver, the arguments -/
def MtR (X : Cx) (id : String) (r : V → List V → Hp → VK → Prop) : Prop :=
  ∀ (pins : List (Addr × Obj)) (s : Shared) (σ : St) (H : Hp) (x : V) (xs : List V) (v : Value) (us : List Value) (Q : VK), Inv X pins σ H s → RelV x v → Vals xs us → r x xs H Q →
    wpAny (model X.prog X.w) X.A (call (.builtin id) (v :: us)) (EP X pins σ Q) X.xe s
section
variable {X : Cx} {a b : Expr} {ta tb : TE} {pos : Pos}
theorem IxR.or {r r' : R2} (h : IxR X r) (h' : IxR X r') : IxR X (fun x y H Q => r x y H Q ∨ r' x y H Q) := by
  intro value slice pins s σ H x y v u Q I rx ry q hs
  rcases q with q | q
  · exact h value slice pins s σ H x y v u Q I rx ry q hs
  · exact h' value slice pins s σ H x y v u Q I rx ry q hs
/-- a[b] -/
theorem pe_ix {r : R2} (hr : IxR X r) (ha : PE X a ta) (hb : PE X b tb) (hs : PlainIx b) : PE X (.Subscript a b pos) (tOp r ta tb) := by
  intro pins s σ H Q I h
  exact Subscript_ (binT ha hb I h fun v u s2 x y H2 I2 rx ry q => hr a b pins s2 σ H2 x y v u Q I2 rx ry q (hs _ _))

def rIxL (K : PySem.W.Frag) : R2 := fun x y H Q => ∃ p xs i v, x = .ref p ∧ y = .int i ∧ SqL K H p xs ∧ atI xs i = some v ∧ Q v H
def rIxT (K : PySem.W.Frag) : R2 := fun x y H Q => ∃ p xs i v, x = .ref p ∧ y = .int i ∧ SqT K H p xs ∧ atI xs i = some v ∧ Q v H
theorem ix_list : IxR X (rIxL X.K) := by
  intro value slice pins s σ H x y v u Q I rx ry h hs
  obtain ⟨p, xs, i, z, rfl, rfl, hq, he, q⟩ := h
  cases rx
  obtain ⟨t, rfl⟩ := ry
  obtain ⟨its, r, pl, hz⟩ := I.list hq
  obtain ⟨j, h1, h2, h3, h4, h5⟩ := atI_get he
  obtain ⟨w, ew, rw'⟩ := r.get h2
  have hl := r.length
  have hn := line63
  have fin : EP X pins σ Q w s := ⟨z, H, I, rw', q⟩
  by_cases h0 : 0 ≤ i
  · have hj : i.toNat = j := by
      rw [seqIndex_of h0 h5] at h1
      exact Option.some.inj h1
    exact item_listR pl.isList h0 (by omega) (by rw [hj]; simpa using ew) fin hs
  · have hj : (i + (its.toArray.size : Int)).toNat = j := by
      rw [seqIndex_neg (by omega) h4] at h1
      rw [List.size_toArray, ← hl]
      exact Option.some.inj h1
    exact subscriptTail_builtinR (x := w) pl.isList.typeIs slot_list_getitem.lookup
      (wpAny_getItem_list_neg (Q := fun r s' => r = w ∧ EP X pins σ Q r s') pl.isList (by omega) (by rw [List.size_toArray] <;> omega) (by omega) (by rw [hj]; simpa using ew) ⟨rfl, fin⟩) hs
theorem ix_tup : IxR X (rIxT X.K) := by
  intro value slice pins s σ H x y v u Q I rx ry h hs
  obtain ⟨p, xs, i, z, rfl, rfl, hq, he, q⟩ := h
  cases rx
  obtain ⟨t, rfl⟩ := ry
  obtain ⟨its, r, pl, hz⟩ := I.tuple hq
  obtain ⟨j, h1, h2, h3, h4, h5⟩ := atI_get he
  obtain ⟨w, ew, rw'⟩ := r.get h2
  have hl := r.length
  have hn := line63
  have fin : EP X pins σ Q w s := ⟨z, H, I, rw', q⟩
  exact subscriptTail_builtinR (x := w) pl.typeIs slot_tuple_getitem.lookup
    (getItem_tuple (j := j) (Q := fun r s' => r = w ∧ EP X pins σ Q r s') pl (by omega) (by omega) (by rw [List.size_toArray, ← hl]; exact h1) (by simpa using ew) ⟨rfl, fin⟩) hs
/-! ### xs[i] = v, any sign -/
/-- the list's object behind a store -/
theorem mapSeq_set (its : List Value) (n j : Nat) (u : Value) : Obj.mapSeq (·.setIfInBounds j u) { cls := .type "list", data := .seq its.toArray n } = { cls := .type "list", data := .seq (its.set j u).toArray n } := by
  simp [Obj.mapSeq]
theorem Inv.lst {pins : List (Addr × Obj)} {σ : St} {H : Hp} {s : Shared} {p : Addr} {xs : List V} (I : Inv X pins σ H s) (h : H p = some (.lst xs)) :
    ∃ (its : List Value) (n : Nat), Vals xs its ∧ s.heap.get? p = some { cls := .type "list", data := .seq its.toArray n } ∧ xs.length ≤ sizeLine := by
  obtain ⟨z, its, n, r, e⟩ := I.hok p _ h
  exact ⟨its, n, r, e, z⟩
/-- the list at p is written by an update of its object -/
theorem Inv.lstUpd {pins : List (Addr × Obj)} {σ : St} {H : Hp} {s : Shared} {p : Addr} {xs ys : List V} {its its' : List Value} {n n' : Nat} {f : Obj → Obj} (I : Inv X pins σ H s) (h : H p = some (.lst xs))
    (ho : s.heap.get? p = some { cls := .type "list", data := .seq its.toArray n }) (hf : f { cls := .type "list", data := .seq its.toArray n } = { cls := .type "list", data := .seq its'.toArray n' }) (r : Vals ys its') (hz : ys.length ≤ sizeLine) (t : Nat) :
    Inv X pins σ (upd H p (.lst ys)) { s with heap := s.heap.update p f, toks := t } := by
  have e : (s.heap.update p f).get? p = some { cls := .type "list", data := .seq its'.toArray n' } := by
    rw [Heap.get?_update_self f ho (by rw [hf] <;> rfl), hf]
  refine I.write (x := p) (e := p) (by rw [h]; trivial) (.inl rfl) (fun b u hb q => (Heap.get?_update_other _ _ (Ne.symm hb)).trans q) ⟨_, e⟩ ?_
  exact ⟨hz, its', n', r, e⟩
def rSetL : V → V → V → Hp → (Hp → Prop) → Prop := fun o i v H Q => ∃ p xs k j, o = .ref p ∧ i = .int k ∧ H p = some (.lst xs) ∧ ixN xs.length k = some j ∧ Q (upd H p (.lst (xs.set j v)))
theorem set_list : PSet X rSetL := by
  intro pins s σ H o i v ov iv u Q I ro ri rv h
  obtain ⟨p, xs, k, j, rfl, rfl, hp, hj, q⟩ := h
  cases ro
  obtain ⟨t, rfl⟩ := ri
  obtain ⟨its, n, r, ho, hz⟩ := I.lst hp
  obtain ⟨h1, h2, h3, h4⟩ := ixN_seq hj
  have hl := r.length
  have hn := line63
  have I' : Inv X pins σ (upd H p (.lst (xs.set j v))) { s with heap := s.heap.update p (Obj.mapSeq (·.setIfInBounds j u)) } :=
    I.lstUpd hp ho (mapSeq_set its n j u) (r.set rv j) (by rw [List.length_set]; exact hz) s.toks
  by_cases h0 : 0 ≤ k
  · have hk : k.toNat = j := by
      rw [seqIndex_of h0 h4] at h1
      exact Option.some.inj h1
    exact PySem.W.ki_setAt ho h0 (by omega) (by rw [List.size_toArray, ← hl]; exact h4) (by rw [hk]; exact ⟨_, I', q⟩)
  · have hk : (k + (its.toArray.size : Int)).toNat = j := by
      rw [seqIndex_neg (by omega) h3] at h1
      rw [List.size_toArray, ← hl]
      exact Option.some.inj h1
    exact PySem.W.ki_setBack ho (by omega) (by rw [List.size_toArray, ← hl]; exact h3) (by omega) (by rw [hk]; exact ⟨_, I', q⟩)

/-! ### slices -/
theorem slice_bounds (lo hi : Option Int) (n : Nat) : (sliceBounds lo hi none n).1 = ((HT.sIx n 0 lo : Nat) : Int) ∧ (sliceBounds lo hi none n).2.1 = ((HT.sIx n n hi : Nat) : Int) ∧ (sliceBounds lo hi none n).2.2 = 1 := by
  refine ⟨?_, ?_, rfl⟩
  · cases lo with
    | none => simp [sliceBounds, HT.sIx]
    | some i =>
      simp only [sliceBounds, HT.sIx, Option.getD_none, show (1 : Int) > 0 by decide, if_true]
      by_cases h : i < 0
      · simp only [h, if_true] <;> omega
      · simp only [h, if_false] <;> omega
  · cases hi with
    | none => simp [sliceBounds, HT.sIx]
    | some i =>
      simp only [sliceBounds, HT.sIx, Option.getD_none, show (1 : Int) > 0 by decide, if_true]
      by_cases h : i < 0
      · simp only [h, if_true] <;> omega
      · simp only [h, if_false] <;> omega
theorem slicePick_cut (its : List Value) (lo hi : Option Int) : slicePick its.toArray lo hi none = ((its.drop (HT.sIx its.length 0 lo)).take (HT.sIx its.length its.length hi - HT.sIx its.length 0 lo)).toArray := by
  obtain ⟨h1, h2, h3⟩ := slice_bounds lo hi its.toArray.size
  unfold slicePick
  rw [h1, h2, h3]
  simp only [sliceRange_one, pick_run, List.size_toArray] <;> rfl
/-- xs[lo:hi] of a list: a new list -/
def rSlL (K : PySem.W.Frag) : V → Option Int → Option Int → Hp → VK → Prop := fun x lo hi H Q => ∃ a xs, x = .ref a ∧ SqL K H a xs ∧ ∀ p, H p = none → Q (.ref p) (upd H p (.lst (cutV xs lo hi)))
theorem sl_list : SlR X (rSlL X.K) := by
  intro pins s σ H x v vl vu lo hi sl Q I rx hs pl pu h
  obtain ⟨a, xs, rfl, hx, q⟩ := h
  cases rx
  obtain ⟨its, r, ht, hz⟩ := I.list hx
  have hlen := r.length
  refine ⟨"list", _, slot_list_getitem.lookup, ht.isList.typeIs, ?_⟩
  refine wpAny_getItem_list_slice ht.isList hs pl pu .none (by simp) ?_ (by rw [List.size_toArray] <;> omega)
  rw [slicePick_cut, ← hlen]
  refine ⟨.ref s.heap.objs.size, _, I.laid (t' := s.toks) (o := .lst (cutV xs lo hi)) (fun b ob q => Heap.get?_push_of_some _ q) (Nat.le_refl _) ?_, rfl, q _ (I.hok.fresh (Nat.le_refl _))⟩
  exact ⟨Nat.le_trans (cutV_length xs lo hi) hz, _, 0, (r.drop (HT.sIx xs.length 0 lo)).take (HT.sIx xs.length xs.length hi - HT.sIx xs.length 0 lo), Heap.get?_push_size _ rfl⟩

/-! ### in, not in: flat items -/
def flatV : V → Bool
  | .non => true
  | .bl _ => true
  | .int _ => true
  | .str _ => true
  | _ => false
/-- == of flat values -/
def eqV : V → V → Bool
  | .non, .non => true
  | .bl a, .bl b => a == b
  | .bl a, .int b => (if a then 1 else 0) == b
  | .int a, .bl b => a == (if b then 1 else 0)
  | .int a, .int b => a == b
  | .str a, .str b => a == b
  | _, _ => false
theorem eqAt_V {A : Around} {s : Shared} {y x : V} {u v : Value} (ry : RelV y u) (rx : RelV x v) (fy : flatV y = true) (fx : flatV x = true) : SeqAt.EqAt A s u v (eqV y x) := by
  cases y with
  | non =>
    cases ry
    cases x with
    | non => cases rx; exact SeqAt.EqAt.same _
    | bl b => cases rx; exact SeqAt.EqAt.none_bool b
    | int b => obtain ⟨t, rfl⟩ := rx; exact SeqAt.EqAt.none_int b t
    | str b => obtain ⟨t, rfl⟩ := rx; exact SeqAt.EqAt.none_str b t
    | _ => exact absurd (show false = true from fx) Bool.false_ne_true
  | bl a =>
    cases ry
    cases x with
    | non => cases rx; exact SeqAt.EqAt.bool_none a
    | bl b => cases rx; exact SeqAt.EqAt.bool_bool a b
    | int b => obtain ⟨t, rfl⟩ := rx; exact SeqAt.EqAt.bool_int a b t
    | str b => obtain ⟨t, rfl⟩ := rx; exact SeqAt.EqAt.bool_str a b t
    | _ => exact absurd (show false = true from fx) Bool.false_ne_true
  | int a =>
    obtain ⟨t', rfl⟩ := ry
    cases x with
    | non => cases rx; exact SeqAt.EqAt.int_none a t'
    | bl b => cases rx; exact SeqAt.EqAt.int_bool a t' b
    | int b => obtain ⟨t, rfl⟩ := rx; exact SeqAt.EqAt.int_int a t' b t
    | str b => obtain ⟨t, rfl⟩ := rx; exact SeqAt.EqAt.int_str a t' b t
    | _ => exact absurd (show false = true from fx) Bool.false_ne_true
  | str a =>
    obtain ⟨t', rfl⟩ := ry
    cases x with
    | non => cases rx; exact SeqAt.EqAt.str_none a t'
    | bl b => cases rx; exact SeqAt.EqAt.str_bool a t' b
    | int b => obtain ⟨t, rfl⟩ := rx; exact SeqAt.EqAt.str_int a t' b t
    | str b => obtain ⟨t, rfl⟩ := rx; exact SeqAt.EqAt.str_str a t' b t
    | _ => exact absurd (show false = true from fx) Bool.false_ne_true
  | _ => exact absurd (show false = true from fy) Bool.false_ne_true
/-- the items' answers, read off the values (a value's own answer does not lean on its token) -/
def eqU (x : V) (u : Value) : Bool := match u with
  | .none => eqV .non x
  | .bool b => eqV (.bl b) x
  | .int i _ => eqV (.int i) x
  | .str z _ => eqV (.str z) x
  | _ => false
theorem eqU_of {x y : V} {u : Value} (r : RelV y u) (f : flatV y = true) : eqU x u = eqV y x := by
  cases y with
  | non => cases r; rfl
  | bl b => cases r; rfl
  | int i => obtain ⟨t, rfl⟩ := r; rfl
  | str z => obtain ⟨t, rfl⟩ := r; rfl
  | _ => exact absurd (show false = true from f) Bool.false_ne_true
theorem any_eqU {x : V} : ∀ {xs : List V} {us : List Value}, Vals xs us → xs.all flatV = true → us.any (eqU x) = xs.any fun y => eqV y x
  | _, _, .nil, _ => rfl
  | y :: xs, u :: us, .cons r t, f => by
    rw [List.all_cons, Bool.and_eq_true] at f
    rw [List.any_cons, List.any_cons, eqU_of r f.1, any_eqU t f.2]
theorem mem_eqAt {A : Around} {s : Shared} {x : V} {v : Value} (rx : RelV x v) (fx : flatV x = true) : ∀ {xs : List V} {us : List Value}, Vals xs us → xs.all flatV = true → ∀ u ∈ us, SeqAt.EqAt A s u v (eqU x u)
  | _, _, .nil, _ => fun u hu => by cases hu
  | y :: xs, u :: us, .cons r t, f => fun u' hu => by
    rw [List.all_cons, Bool.and_eq_true] at f
    rcases List.mem_cons.mp hu with rfl | hu
    · rw [eqU_of r f.1]; exact eqAt_V r rx f.1 fx
    · exact mem_eqAt rx fx t f.2 u' hu
def inV (x : V) (xs : List V) : Bool := xs.any fun y => eqV y x
/-- x in a list or tuple of flat items -/
def rIn (K : PySem.W.Frag) (neg : Bool) : R2 := fun x y H Q => ∃ p xs, y = .ref p ∧ (SqL K H p xs ∨ SqT K H p xs) ∧ flatV x = true ∧ xs.all flatV = true ∧ Q (.bl (if neg then !inV x xs else inV x xs)) H
theorem op_in_seq : OpR X (compareOp .In) (rIn X.K false) := by
  intro pins s σ H x y v u Q I rx ry h
  obtain ⟨p, xs, rfl, hq, fx, fs, q⟩ := h
  cases ry
  rcases hq with hq | hq
  · obtain ⟨its, r, pl, hz⟩ := I.list hq
    refine SeqAt.in_listAt (eqU x) pl.isList (fun w hw => mem_eqAt rx fx r fs w (by simpa using hw)) ⟨.bl _, H, I, rfl, ?_⟩
    rw [show its.toArray.any (eqU x) = its.any (eqU x) by simp, any_eqU r fs]
    exact q
  · obtain ⟨its, r, pl, hz⟩ := I.tuple hq
    refine SeqAt.in_tupleAt (eqU x) pl (fun w hw => mem_eqAt rx fx r fs w (by simpa using hw)) ⟨.bl _, H, I, rfl, ?_⟩
    rw [show its.toArray.any (eqU x) = its.any (eqU x) by simp, any_eqU r fs]
    exact q
theorem op_notIn_seq : OpR X (compareOp .NotIn) (rIn X.K true) := by
  intro pins s σ H x y v u Q I rx ry h
  obtain ⟨p, xs, rfl, hq, fx, fs, q⟩ := h
  cases ry
  rcases hq with hq | hq
  · obtain ⟨its, r, pl, hz⟩ := I.list hq
    refine SeqAt.notIn_listAt (eqU x) pl.isList (fun w hw => mem_eqAt rx fx r fs w (by simpa using hw)) ⟨.bl _, H, I, rfl, ?_⟩
    rw [show its.toArray.any (eqU x) = its.any (eqU x) by simp, any_eqU r fs]
    exact q
  · obtain ⟨its, r, pl, hz⟩ := I.tuple hq
    refine SeqAt.notIn_tupleAt (eqU x) pl (fun w hw => mem_eqAt rx fx r fs w (by simpa using hw)) ⟨.bl _, H, I, rfl, ?_⟩
    rw [show its.toArray.any (eqU x) = its.any (eqU x) by simp, any_eqU r fs]
    exact q
/-! ### len, list(x), tuple(x) of any list or tuple that is read -/
theorem call_len_seq : CallR X (.builtin "len") (fun xs H Q => ∃ p ys, xs = [.ref p] ∧ (SqL X.K H p ys ∨ SqT X.K H p ys) ∧ Q (.int ys.length) H) := by
  intro pins s σ H xs us Q I r h
  obtain ⟨p, ys, rfl, hq, q⟩ := h
  obtain ⟨u, rfl, rx⟩ := vals1 r
  cases rx
  have hn := line63
  rcases hq with hq | hq
  · obtain ⟨its, r', pl, hz⟩ := I.list hq
    have hlen := r'.length
    exact Calls.call_len_list pl.isList (by simp only [List.size_toArray] <;> omega) ⟨.int ys.length, H, I.tok _, ⟨s.toks + 1, by rw [List.size_toArray, hlen]⟩, q⟩
  · obtain ⟨its, r', pl, hz⟩ := I.tuple hq
    have hlen := r'.length
    exact len_tuple pl (by simp only [List.size_toArray] <;> omega) ⟨.int ys.length, H, I.tok _, ⟨s.toks + 1, by rw [List.size_toArray, hlen]⟩, q⟩
theorem call_list_of : CallR X (.type "list") (fun xs H Q => ∃ p ys, xs = [.ref p] ∧ (SqL X.K H p ys ∨ SqT X.K H p ys) ∧ ∀ l, H l = none → Q (.ref l) (upd H l (.lst ys))) := by
  intro pins s σ H xs us Q I r h
  obtain ⟨p, ys, rfl, hq, q⟩ := h
  obtain ⟨u, rfl, rx⟩ := vals1 r
  cases rx
  have fin : ∀ (its : List Value), Vals ys its → ys.length ≤ sizeLine → ∀ (h' : Heap) (c' : Nat), (∀ b o', s.heap.get? b = some o' → h'.get? b = some o') →
      h'.get? s.heap.objs.size = some { cls := .type "list", dict := none, data := .seq its.toArray c', slots := #[] } → EP X pins σ Q (.ref s.heap.objs.size) { s with heap := h' } := fun its r' hz h' c' kp e =>
    ⟨.ref s.heap.objs.size, _, I.laid (t' := s.toks) kp (Nat.le_refl _) (show ObjOk X.prog X.w _ h' _ (.lst ys) from ⟨hz, its, c', r', e⟩), rfl, q _ (I.hok.fresh (Nat.le_refl _))⟩
  rcases hq with hq | hq
  · obtain ⟨its, r', pl, hz⟩ := I.list hq
    have hlen := r'.length
    obtain ⟨o, ho, hc, n, hd⟩ := pl.isList
    exact call_list_seq p (.inl rfl) ho hc hd (fun h' c' kp e => fin its r' hz h' c' kp e) (by simp only [List.size_toArray] <;> omega)
  · obtain ⟨its, r', pl, hz⟩ := I.tuple hq
    have hlen := r'.length
    obtain ⟨o, ho, hc, n, hd⟩ := pl
    exact call_list_seq p (.inr rfl) ho hc hd (fun h' c' kp e => fin its r' hz h' c' kp e) (by simp only [List.size_toArray] <;> omega)
/-! ### the call of a builtin's method: o.m(..) -/
/-- the value is of that builtin type -/
def tyV (K : PySem.W.Frag) (T : String) (x : V) (H : Hp) : Prop := match x with
  | .str _ => T = "str"
  | .int _ => T = "int"
  | .ref p => (T = "list" ∧ ∃ xs, SqL K H p xs) ∨ (T = "tuple" ∧ ∃ o, K.lookup p = some o ∧ o.cls = .type "tuple" ∧ o.dict = none) ∨
      (T = "dict" ∧ ((∃ kvs, H p = some (.dK kvs)) ∨ ∃ kvs, H p = some (.dT kvs))) ∨ (T = "set" ∧ ∃ S n, H p = some (.set S n))
  | _ => False
theorem tyV_is {pins : List (Addr × Obj)} {σ : St} {H : Hp} {s : Shared} {T : String} {x : V} {v : Value} (I : Inv X pins σ H s) (r : RelV x v) (ty : tyV X.K T x H) :
    s.TypeIs v T ∧ ∀ a, v = .ref a → ∃ ob, s.heap.get? a = some ob ∧ ob.dict = none := by
  cases x with
  | str z =>
    obtain ⟨t, rfl⟩ := r
    cases (show T = "str" from ty)
    exact ⟨typeIs_str s z t, fun _ e => nomatch e⟩
  | int i =>
    obtain ⟨t, rfl⟩ := r
    cases (show T = "int" from ty)
    exact ⟨typeIs_int s i t, fun _ e => nomatch e⟩
  | ref p =>
    cases r
    rcases ty with ⟨rfl, xs, hq⟩ | ⟨rfl, o, hk, hc, hd⟩ | ⟨rfl, hk⟩ | ⟨rfl, S, n, hk⟩
    · obtain ⟨its, _, pl, _⟩ := I.list hq
      refine ⟨pl.isList.typeIs, fun a e => ?_⟩
      cases e
      obtain ⟨o, n, e, c, hd, _⟩ := pl
      exact ⟨o, e, hd⟩
    · refine ⟨⟨o, I.kIn p o hk, hc⟩, fun a e => ?_⟩
      cases e
      exact ⟨o, I.kIn _ o hk, hd⟩
    · have z : ∃ o, s.heap.get? p = some o ∧ o.ExactDict := by
        rcases hk with ⟨kvs, hk⟩ | ⟨kvs, hk⟩
        · obtain ⟨_, _, _, _, o, _, _, e, ex, _⟩ := I.hok p _ hk
          exact ⟨o, e, ex⟩
        · obtain ⟨_, _, _, _, o, _, _, e, ex, _⟩ := I.hok p _ hk
          exact ⟨o, e, ex⟩
      obtain ⟨o, e, ex⟩ := z
      refine ⟨⟨o, e, ex.1⟩, fun a e2 => ?_⟩
      cases e2
      exact ⟨o, e, ex.2.1⟩
    · obtain ⟨o, _, _, _, e, ex, _⟩ := I.hok p _ hk
      refine ⟨⟨o, e, ex.1⟩, fun a e2 => ?_⟩
      cases e2
      exact ⟨o, e, ex.2.1⟩
  | _ => exact False.elim ty
def tBM0 (K : PySem.W.Frag) (T : String) (r : V → List V → Hp → VK → Prop) (to : TE) : TE := fun σ H Q => to σ H fun x H1 => tyV K T x H1 ∧ r x [] H1 Q
def tBM (K : PySem.W.Frag) (T : String) (r : V → List V → Hp → VK → Prop) (to : TE) (t : TA) : TE := fun σ H Q => to σ H fun x H1 => tyV K T x H1 ∧ t σ H1 fun xs H2 => r x xs H2 Q
variable {o e : Expr} {es : List Expr} {to : TE} {t : TA} {name : Str} {apos cpos : Pos} {T id : String} {r : V → List V → Hp → VK → Prop}
theorem pe_bm0 (pa : PlainAttrs T) (slot : Slot T name id) (hty : typeOf (.builtin id) = pure (.type "method_descriptor")) (hm : MtR X id r) (ho : PE X o to)
    (hbase : attributeBase o name X.env (eval o X.env) = eval o X.env := by rfl) (hline : (apos.endLine == cpos.line) = true := by rfl) : PE X (.Call (.Attribute o name apos) [] [] cpos) (tBM0 X.K T r to) := by
  intro pins s σ H Q I h
  refine wpAny_Call_method0_late hbase hline (thn (ho pins s σ H _ I h) fun v s1 ⟨x, H1, I1, r1, ty, q1⟩ => ?_)
  obtain ⟨h1, h2⟩ := tyV_is I1 r1 ty
  exact ⟨T, id, pa, slot, hty, h1, h2, Calls.callWith_builtin rfl (PySem.evalArgs_none (hm pins s1 σ H1 x [] v [] Q I1 r1 .nil q1))⟩
theorem pe_bm (pa : PlainAttrs T) (slot : Slot T name id) (hty : typeOf (.builtin id) = pure (.type "method_descriptor")) (hm : MtR X id r) (ho : PE X o to) (ha : PA X (e :: es) t)
    (hbase : attributeBase o name X.env (eval o X.env) = eval o X.env := by rfl)
    (hfew : ((backTo cpos (starEach (e :: es) X.env)).all (fun x => !x.1) && (backToKw cpos (keywordEach [] X.env)).all (fun x => x.1.isSome)
      && decide ((e :: es).length + ([] : List Keyword).length + (if ([] : List Keyword).isEmpty then 0 else 1) < 30)) = true := by rfl)
    (hline : (apos.endLine == cpos.line) = true := by rfl) (hs : starEach (e :: es) X.env = (false, eval e X.env) :: starEach es X.env := by rfl) (hplain : (backTo cpos (starEach es X.env)).any (·.1) = false := by rfl) :
    PE X (.Call (.Attribute o name apos) (e :: es) [] cpos) (tBM X.K T r to t) := by
  intro pins s σ H Q I h
  refine wpAny_Call_method_late hbase hfew hline rfl (thn (ho pins s σ H _ I h) fun v s1 ⟨x, H1, I1, r1, ty, q1⟩ => ?_)
  obtain ⟨h1, h2⟩ := tyV_is I1 r1 ty
  refine ⟨T, id, pa, slot, hty, h1, h2, ?_⟩
  have hA := ha cpos pins s1 σ H1 _ I1 q1
  rw [hs] at hA ⊢
  refine Calls.callWith_builtin (by show (false || (backTo cpos (starEach es X.env)).any (·.1)) = false; rw [hplain] <;> rfl) (Calls.evalArgs_plain ?_)
  exact thn hA fun us s2 ⟨vs, H2, I2, r2, q2⟩ => hm pins s2 σ H2 x vs v us Q I2 r1 r2 q2
/- xs.append(e), list.index on a module's tuple .. are MtR facts of 06m -/
end
end L2

namespace L2
open PySem PySem.Spec PyProof.Rows

def MtM (X : Cx) (id : String) (r : V → List V → Hp → VK → Prop) : Prop :=
  ∀ (pins : List (Addr × Obj)) (s : Shared) (σ : St) (H : Hp) (x : V) (xs : List V) (v : Value) (us : List Value) (Q : VK), Inv X pins σ H s → RelV x v → Vals xs us → r x xs H Q →
    wpAny (model X.prog X.w) X.A (call (.builtin id) (v :: us)) (EP X pins σ Q) X.xe s

/-! ### lists of values -/
theorem Vals.one : ∀ {x : V} {us : List Value}, Vals [x] us → ∃ u, us = [u] ∧ RelV x u
  | _, _, .cons r .nil => ⟨_, rfl, r⟩
theorem Vals.two : ∀ {x y : V} {us : List Value}, Vals [x, y] us → ∃ u v, us = [u, v] ∧ RelV x u ∧ RelV y v
  | _, _, _, .cons r (.cons q .nil) => ⟨_, _, rfl, r, q⟩
theorem Vals.zero : ∀ {us : List Value}, Vals [] us → us = []
  | _, .nil => rfl
theorem Vals.dropLast {xs : List V} {us : List Value} (h : Vals xs us) : Vals xs.dropLast us.dropLast := by
  induction h with
  | nil => exact .nil
  | cons r t ih =>
    cases t with
    | nil => exact .nil
    | cons q t' => exact .cons r ih
theorem Vals.rep {xs : List V} {us : List Value} (h : Vals xs us) : ∀ k : Nat, Vals (List.replicate k xs).flatten (List.replicate k us).flatten
  | 0 => .nil
  | k + 1 => by
    rw [List.replicate_succ, List.replicate_succ, List.flatten_cons, List.flatten_cons]
    exact Vals.append h (Vals.rep h k)
theorem erase_last {α : Type} (l : List α) : l.eraseIdx (l.length - 1) = l.dropLast := by
  induction l with
  | nil => rfl
  | cons a r ih =>
    cases r with
    | nil => rfl
    | cons b r =>
      have e : (a :: b :: r).length - 1 = ((b :: r).length - 1) + 1 := by
        have h1 : (a :: b :: r).length = r.length + 2 := rfl
        have h2 : (b :: r).length = r.length + 1 := rfl
        omega
      rw [e, List.eraseIdx_cons_succ, ih]
      all_goals rfl
theorem foldl_rep (its : List Value) : ∀ (k : Nat) (acc : List Value),
    List.foldl (fun x1 x2 => x1 ++ x2) acc.toArray (List.replicate k its.toArray) = (acc ++ (List.replicate k its).flatten).toArray
  | 0, acc => by simp
  | k + 1, acc => by
    have e : acc.toArray ++ its.toArray = (acc ++ its).toArray := by simp
    have e2 : (acc ++ its) ++ (List.replicate k its).flatten = acc ++ (List.replicate (k + 1) its).flatten := by
      rw [List.replicate_succ, List.flatten_cons, List.append_assoc]
    rw [← e2, ← foldl_rep its k (acc ++ its), ← e, List.replicate_succ, List.foldl_cons]

section
variable {X : Cx} {pins : List (Addr × Obj)} {σ : St} {H : Hp} {s : Shared} {l b : Addr} {xs ys zs : List V}

/-! ### the two steps: a tracked list is rewritten, a new list is laid -/
theorem Inv.lset {its its' : List Value} {n : Nat} {f : Array Value → Array Value} {t' : Nat} (I : Inv X pins σ H s) (hH : H l = some (.lst xs))
    (e : s.heap.get? l = some { cls := .type "list", data := .seq its.toArray n }) (hf : f its.toArray = its'.toArray) (hv : Vals ys its') (hz : ys.length ≤ sizeLine) :
    Inv X pins σ (upd H l (.lst ys)) { s with heap := s.heap.update l (Obj.mapSeq f), toks := t' } := by
  have q := PySem.IsL.update e f
  rw [hf] at q
  refine I.write (x := l) (e := l) (by rw [hH]; exact trivial) (.inl rfl) (fun b' u hb hu => (Heap.get?_update_other s.heap (Obj.mapSeq f) (Ne.symm hb)).trans hu) ⟨_, q⟩ ?_
  exact ⟨hz, its', _, hv, q⟩
theorem Inv.lnew {its : List Value} {t' : Nat} (I : Inv X pins σ H s) (hv : Vals ys its) (hz : ys.length ≤ sizeLine) :
    Inv X pins σ (upd H s.heap.objs.size (.lst ys)) { s with heap := s.heap.push { cls := .type "list", data := .seq its.toArray }, toks := t' } :=
  I.laid (fun _ _ q => Heap.get?_push_of_some _ q) (Nat.le_refl _) ⟨hz, its, 0, hv, Heap.get?_push_size _ rfl⟩
theorem Inv.fresh (I : Inv X pins σ H s) : H s.heap.objs.size = none := I.hok.fresh (Nat.le_refl _)
theorem Inv.lstM (I : Inv X pins σ H s) (hH : H l = some (.lst xs)) : xs.length ≤ sizeLine ∧ ∃ (its : List Value) (n : Nat), Vals xs its ∧ xs.length = its.length ∧ s.heap.get? l = some { cls := .type "list", data := .seq its.toArray n } := by
  obtain ⟨z, its, n, r, e⟩ := I.hok l _ hH
  exact ⟨z, its, n, r, r.length, e⟩

theorem notLongL {n : Nat} (h : n ≤ sizeLine) : Builtin.List.listTooLong n = false := by
  unfold Builtin.List.listTooLong
  exact decide_eq_false (by omega)
end

section
variable {X : Cx}

/-! ### methods -/
def rAppend : V → List V → Hp → VK → Prop := fun x vs H Q => ∃ l xs y, x = .ref l ∧ vs = [y] ∧ H l = some (.lst xs) ∧ xs.length < sizeLine ∧ Q .non (upd H l (.lst (xs ++ [y])))
theorem mt_append : MtM X "list.append" rAppend := by
  intro pins s σ H x vs v us Q I rx rv h
  obtain ⟨l, xs, y, rfl, rfl, hH, hz, q⟩ := h
  cases rx
  obtain ⟨u, rfl, ru⟩ := rv.one
  obtain ⟨z, its, n, r, hl, e⟩ := I.lstM hH
  refine call_meets F.slot_list_append ⟨_, e, rfl⟩ F.entry_list_append (F.args_list_append_2 _ _) (PySem.list_append l its.toArray n u (by rw [List.size_toArray]; omega)) ⟨e, ?_⟩
  refine ⟨.non, _, I.lset (its' := its ++ [u]) hH e (by simp) (r.append (.cons ru .nil)) ?_, rfl, q⟩
  rw [List.length_append, List.length_singleton]
  omega

def rPop : V → List V → Hp → VK → Prop := fun x vs H Q => ∃ l xs y, x = .ref l ∧ vs = [] ∧ H l = some (.lst xs) ∧ xs[xs.length - 1]? = some y ∧ Q y (upd H l (.lst xs.dropLast))
theorem mt_pop : MtM X "list.pop" rPop := by
  intro pins s σ H x vs v us Q I rx rv h
  obtain ⟨l, xs, y, rfl, rfl, hH, hy, q⟩ := h
  cases rx
  have hus := rv.zero
  subst hus
  obtain ⟨z, its, n, r, hl, e⟩ := I.lstM hH
  obtain ⟨u, hu, ru⟩ := r.get hy
  have hy' : its.toArray[its.toArray.size - 1]? = some u := by
    show its.toArray[its.length - 1]? = some u
    rw [← Array.getElem?_toList, ← hl]
    exact hu
  refine call_meets F.slot_list_pop ⟨_, e, rfl⟩ F.entry_list_pop (F.args_list_pop_1 _) (MeetsSeq.list_pop_last l its.toArray n u hy' (by rw [List.size_toArray]; omega)) ⟨e, ?_⟩
  refine ⟨y, _, I.lset (its' := its.dropLast) hH e ?_ r.dropLast ?_, ru, q⟩
  · show its.toArray.eraseIdxIfInBounds (its.toArray.size - 1) = its.dropLast.toArray
    rw [List.size_toArray, List.eraseIdxIfInBounds_toArray, erase_last]
  · rw [List.length_dropLast]
    omega

/-! ### list + list, list += list, list * int -/
def rCat : R2 := fun x y H Q => ∃ l b xs zs, x = .ref l ∧ y = .ref b ∧ H l = some (.lst xs) ∧ H b = some (.lst zs) ∧ xs.length + zs.length ≤ sizeLine ∧ ∀ p, H p = none → Q (.ref p) (upd H p (.lst (xs ++ zs)))
theorem op_cat : OpR X (binaryOp .Add) rCat := by
  intro pins s σ H x y v u Q I rx ry h
  obtain ⟨l, b, xs, zs, rfl, rfl, hH, hB, hz, q⟩ := h
  cases rx
  cases ry
  obtain ⟨z, its, n, r, hl, e⟩ := I.lstM hH
  obtain ⟨z2, its2, n2, r2, hl2, e2⟩ := I.lstM hB
  refine PySem.P.add_list e e2 ?_ (by rw [List.size_toArray, List.size_toArray]; omega)
  have ea : its.toArray ++ its2.toArray = (its ++ its2).toArray := by simp
  rw [ea]
  exact ⟨.ref _, _, I.lnew (t' := s.toks) (r.append r2) (by rw [List.length_append]; omega), rfl, q _ I.fresh⟩
/-- a list times an int (a negative one is nothing) -/
def rRep : R2 := fun x y H Q => ∃ l k xs, x = .ref l ∧ y = .int k ∧ H l = some (.lst xs) ∧ -(2 ^ 63) ≤ k ∧ k < 2 ^ 63 ∧ xs.length * k.toNat ≤ sizeLine ∧
  ∀ p, H p = none → Q (.ref p) (upd H p (.lst (List.replicate k.toNat xs).flatten))
theorem len_rep {α : Type} (xs : List α) (k : Nat) : (List.replicate k xs).flatten.length = k * xs.length := by
  induction k with
  | zero => simp
  | succ k ih => rw [List.replicate_succ, List.flatten_cons, List.length_append, ih, Nat.succ_mul, Nat.add_comm]
theorem op_rep : OpR X (binaryOp .Mult) rRep := by
  intro pins s σ H x y v u Q I rx ry h
  obtain ⟨l, k, xs, rfl, rfl, hH, h1, h2, hz, q⟩ := h
  cases rx
  obtain ⟨t, rfl⟩ := ry
  obtain ⟨z, its, n, r, hl, e⟩ := I.lstM hH
  have hlen : its.toArray.size * k.toNat ≤ sizeLine := by rw [List.size_toArray, ← hl]; exact hz
  have hcap : ¬ its.toArray.size * k.toNat > (2 ^ 63 - 1) / 8 := by
    have : (sizeLine : Nat) ≤ (2 ^ 63 - 1) / 8 := by decide
    omega
  have hfit : ¬ (!Builtin.List.listFitsIndex k) = true := by
    rw [fitsIndex_both h1 h2]
    exact Bool.false_ne_true
  have hlong : ¬ Builtin.List.listTooLong (its.toArray.size * k.toNat) = true := by
    rw [notLongL hlen]
    exact Bool.false_ne_true
  have hnew : List.foldl (fun x1 x2 => x1 ++ x2) #[] (List.replicate (if its.toArray.isEmpty = true then 0 else k.toNat) its.toArray) = (List.replicate k.toNat its).flatten.toArray := by
    have f0 : ∀ m : Nat, List.foldl (fun x1 x2 => x1 ++ x2) #[] (List.replicate m its.toArray) = (List.replicate m its).flatten.toArray := fun m => by
      have := foldl_rep its m []
      rw [List.nil_append] at this
      exact this
    rw [f0]
    cases its with
    | nil => simp
    | cons a r' => rw [if_neg (by simp)]
  refine wpAny_binaryOp_repeat_ref (T := "list") (U := "int") (by decide) ⟨_, e, rfl⟩ (fun s' => typeIs_int s' k t) noFill_list_mul F.fills_int_mul F.slot_int_rmul repeat_list F.slot_int_index.lookup
    (call_meets F.slot_int_rmul (typeIs_int s k t) F.entry_int_rmul (F.args_int_rmul_2 _ _) (int___rmul___int_list k t l its.toArray n)
      ⟨e, rfl, ⟨_, e, rfl⟩, call_meets F.slot_list_mul ⟨_, e, rfl⟩ F.entry_list_mul (F.args_list_mul_2 _ _) (AutoListH.list___mul___list_int_3 l its.toArray n k t hfit hcap hlong) ⟨e, ?_⟩⟩)
  rw [hnew]
  exact ⟨.ref _, _, I.lnew (t' := s.toks) (r.rep k.toNat) (by rw [len_rep, Nat.mul_comm]; exact hz), rfl, q _ I.fresh⟩

/-! ### del xs[i] -/
end

/-! ### xs[a:b] = ys -/
section
variable {prog : Program} {w : World} {A : Around} {E : Value → Shared → Prop} {s : Shared}
end

section
variable {X : Cx}
end
end L2

namespace Att
open PySem PySem.W PySem.Calls PyProof.Rows

/-! ### the script -/
theorem ints_of_wellAll {P : Params} {h : Heap} : ∀ (ns : List Int) (vs : List Value), WellAll P h vs (ns.map WData.int) → IntsAre vs ns := by
  intro ns
  induction ns with
  | nil =>
    intro vs w
    rw [List.map_nil] at w
    cases w
    exact .nil
  | cons n ns ih =>
    intro vs w
    rw [List.map_cons] at w
    cases w with
    | cons a b =>
      cases a
      exact .cons _ _ (ih _ b)

theorem script_of {l : OpenLaw} {n : Nat} (hn : l.most = some n) {P : Params} {h : Heap} {args : List WData} {vals : List Value}
    (hpre : l.row.toRowW.claim.pre args = true) (hwl : WellAll P h vals args) :
    ∃ a vs ns, vals = [Value.ref a] ∧ args = [WData.list (ns.map WData.int)] ∧ h.get? a = some { cls := .type "list", data := .seq vs.toArray } ∧ IntsAre vs ns ∧ ns.length ≤ n := by
  have hsh : WShape.hasAll [] args [.list .int] = true := (pre_splitW hpre).1
  have hc : l.pre.holds [] { args := args } = true := (pre_splitW hpre).2
  obtain ⟨d, r, rfl, h1, h2⟩ := hasAllW_cons hsh
  obtain rfl := hasAllW_nil h2
  obtain ⟨xs, rfl, h3⟩ := hasW_list h1
  obtain ⟨ns, rfl⟩ := items_int h3
  have hlen : ns.length ≤ n := by
    unfold OpenLaw.pre at hc
    have h4 : (WTm.not (.lt (.lit (.int (n : Int))) (.len (.arg 0)))).holds [] { args := [.list (ns.map .int)] } = true := by
      have h4 := (holds_andW hc).1
      rw [hn] at h4
      exact h4
    have h5 := condW_of h4 (w_not (w_lt w_lit (w_len_list (w_arg rfl))))
    rw [List.length_map] at h5
    refine Nat.le_of_not_lt fun q => ?_
    have q' : (n : Int) < ((ns.length : Nat) : Int) := by omega
    first
      | (rw [decide_eq_true q'] at h5; exact absurd h5 (by decide))
      | (simp at h5; omega)
  cases hwl with
  | cons w1 w2 =>
    cases w2
    cases w1 with
    | list ho hall => exact ⟨_, _, ns, rfl, rfl, ho, ints_of_wellAll ns _ hall, hlen⟩

theorem post_true (l : OpenLaw) (args : List WData) : l.row.toRowW.claim.post args (.bool true) args = true :=
  postW_of (r := l.row.toRowW) (X := (true == true))
    (show WShape.has [] (.bool true) .bool = true by first | rfl | decide | simp [WShape.has, WShape.arms, WShape.armsAll])
    (show (WTm.eq .res (.lit (.bool true))).value [] { args := args, res := some (.bool true), after := args } = some (.bool (true == true)) from w_eq_bool (w_res rfl) w_lit) rfl

/-! ### the attachment: holds_open's last premise (the goal 'hc' behind k_head) from a wpAny of the law's body -/
/-- the same from a codeAny of the CALL (for a layer whose function contracts speak of calls) -/
theorem attach_call {l : OpenLaw} {n : Nat} {q : Program} {loose : List Str} {XP : (Str → Option Value) → Heap → Prop} {YP : World → Heap → Prop} {d : DefRec}
    (hn : l.most = some n) (hdf : d.params.defaults = [])
    (call : ∀ (w : World) (s₀ s₁ : Shared) (mg mb : Str → Option Value) (fa : Addr) (o : Obj) (pm cd doc : Value) (a : Addr) (vs : List Value) (ns : List Int),
      Ground q loose [] XP w s₀ mg mb s₁.heap → YP w s₁.heap →
      s₁.heap.get? fa = some o → o.data = .func (docDef d.name d.params d.body d.scope pm cd doc) → s₁.heap.CodeRec cd d.name → mg d.name = some (.ref fa) →
      s₁.heap.get? a = some { cls := .type "list", data := .seq vs.toArray } → IntsAre vs ns → ns.length ≤ n → s₁.gens = #[] →
      codeAny (model l.prog w) callerA (.call (.ref fa) ⟨[.ref a], []⟩) (fun r s' => r = .ok (.ret (.bool true)) ∧ OldK s₁.heap s'.heap ∧ s'.os = s₁.os ∧ AllBare s'.gens) s₁) :
    WalkO q loose XP YP l.row.toRowW d [] (fun f vs => PySem.call f vs) := by
  intro w s₀ s₁ mg mb G Y fa o pm cd doc dV kV ho hd hcd hD hmg hg args vals as hpre hlay hrd hwl hlo
  obtain rfl : dV = .none := Dflts.none hD hdf
  obtain rfl : kV = .none := Dflts.noKw hD
  obtain ⟨a, vs, ns, rfl, rfl, hobj, hints, hlen⟩ := script_of hn hpre hwl
  refine enter_call (codeAny_mono (call w s₀ s₁ mg mb fa o pm cd doc a vs ns G Y ho (fd_plain hd) hcd hmg hobj hints hlen hg) fun r s' hq => ?_)
  obtain ⟨rfl, h2, h3, h4⟩ := hq
  exact ⟨.inl ⟨.bool true, .bool true, [], rfl, fun _ => rfl, .bool true, post_true l _, fun _ => ⟨List.Pairwise.nil, fun _ hm => (nomatch hm)⟩⟩, h2, h3, h4⟩

/-! ### rules over ANY heap (no ledger) from facts about the written part K: the library's own take a ledger (News) for what they write -/
section
variable {prog : Program} {w : World} {A : Around} {E : Value → Shared → Prop} {s : Shared} {K : Frag}

/-! the whole heap as the ledger: makes every rule that writes through a ledger a rule over any heap -/
end
end Att

namespace L2
open PySem PySem.Spec PyProof.Rows

theorem vals_ints : ∀ {vs : List Value} {ns : List Int}, IntsAre vs ns → Vals (ns.map V.int) vs
  | _, _, .nil => .nil
  | _, _, .cons n t h => .cons ⟨t, rfl⟩ (vals_ints h)

/-- nothing is tracked but the script, known to the object (or it is an object of the module) -/
def Only (H : Hp) : Prop := ∀ b, H b = none ∨ ∃ o xs, H b = some (.frz o (.lst xs))

/-- THE HEAD: the law's promise, at the heap behind the top. F, the promise of the law's def, may use that base is part of the heap (so K.In base, base.Ns mainGlobals mg stand in Mod) -/
theorem law_call {P : Program} {w : World} {K : PySem.W.Frag} {mg mb : Str → Option Value} {CX : CXT} {k : Nat} {fa a : Addr} {fd : FuncData} {x : Str} {sp : Sp} {s₁ : Shared} {vs : List Value} {ns : List Int}
    (KX : K.In s₁.heap) (hns : s₁.heap.Ns mainGlobals mg) (hb : s₁.heap.Ns builtinsNs mb) (hbb : ∀ x : Str, x ≠ "__name__" → mb x = bootBuiltins x) (hlim : s₁.heap.NoLimit) (hg : s₁.gens = #[])
    (ha : s₁.heap.get? a = some { cls := .type "list", data := .seq vs.toArray }) (hi : IntsAre vs ns) (hl : ns.length ≤ sizeLine) (hr : Room k callerA)
    (F : ∀ base : Heap, K.In base → base.Ns mainGlobals mg → FnOk P w K mg base CX k fa fd [x] sp) (hbind : ∀ (s : Shared) (u : Value), BindsTo s fd ⟨[u], []⟩ [(x, u)])
    (hsp : ∀ H : Hp, Only H → SqL K H a (ns.map V.int) → sp [.ref a] H (fun v _ => v = .bl true) fun _ _ _ => False)
    (hCX : ∀ H e s', CX [] H s₁ (fun _ _ _ => False) e s' → False) :
    codeAny (model P w) callerA (.call (.ref fa) ⟨[.ref a], []⟩) (fun r s' => r = .ok (.ret (.bool true)) ∧ OldK s₁.heap s'.heap ∧ s'.os = s₁.os ∧ AllBare s'.gens) s₁ := by
  have rv := vals_ints hi
  have lenV := hi.length
  -- from an abstract heap in which nothing but the script may be tracked
  have core : ∀ H : Hp, Only H → SqL K H a (ns.map V.int) → HOk P w H s₁.heap → (∀ b, H b ≠ none → b = a) → (H a ≠ none → K.lookup a = none) →
      codeAny (model P w) callerA (.call (.ref fa) ⟨[.ref a], []⟩) (fun r s' => r = .ok (.ret (.bool true)) ∧ OldK s₁.heap s'.heap ∧ s'.os = s₁.os ∧ AllBare s'.gens) s₁ := by
    intro H hO hS hok hA hK
    have base_of : ∀ {b : Addr} {o : Obj}, s₁.heap.get? b = some o → H b = none → (hidT s₁.heap H).get? b = some o := fun e n => hidT_get e n
    have noA : ∀ {b : Addr} {o : Obj} {es : Array DictEntry} {ep : Nat}, s₁.heap.get? b = some o → o.data = .dict es ep → H b = none := fun {b o es ep} e d => by
      cases q : H b with
      | none => rfl
      | some u =>
        have e' : b = a := hA b (by rw [q]; simp)
        subst e'
        rw [ha] at e; cases e
        have d' : Data.seq vs.toArray _ = Data.dict es ep := d
        cases d'
    have nsK : ∀ {b : Addr} {m : Str → Option Value}, s₁.heap.Ns b m → (hidT s₁.heap H).Ns b m := fun {b m} ⟨o, es, ep, e, d, r⟩ => ⟨o, es, ep, base_of e (noA e d), d, r⟩
    have hKb : K.In (hidT s₁.heap H) := fun b o e => base_of (KX b o e) (by
      cases q : H b with
      | none => rfl
      | some u =>
        have e' : b = a := hA b (by rw [q]; simp)
        subst e'
        rw [hK (by rw [q]; simp)] at e; cases e)
    have hM : Mod K mg (hidT s₁.heap H) := ⟨hKb, nsK hns, ⟨mb, nsK hb, hbb⟩, let ⟨mc, h1, h2⟩ := hlim; ⟨mc, nsK h1, h2⟩⟩
    have e0 : Env0 P w K mg (hidT s₁.heap H) callerA [] s₁ H := ⟨rfl, hM, fun b o e => of_hidT e, Nat.le_of_eq (hidT_size _ _), trivial, fun b hb => absurd (show b ∈ ([] : List Addr) from hb) (by simp), hok, .of_eq hg⟩
    refine codeAny_mono ((F _ hKb (nsK hns)).run callerA [] s₁ H ⟨[.ref a], []⟩ [.ref a] [.ref a] _ _ hr e0 (hbind s₁ (.ref a)) (.cons rfl .nil) (hsp H hO hS)) fun r s' h => ?_
    cases r with
    | error e => exact (hCX H e s' h).elim
    | ok fl =>
      cases fl with
      | next => exact False.elim h
      | brk => exact False.elim h
      | cont => exact False.elim h
      | ret u =>
        obtain ⟨v, H', os, bare, un, hok', r', q⟩ := h
        have q' : v = .bl true := q
        subst q'
        obtain rfl : u = Value.bool true := r'
        refine ⟨rfl, OldK.of_keep fun b o e => ?_, os, bare⟩
        cases q : H b with
        | none => exact un.keep b o e q (by intro z; exact absurd (show b ∈ ([] : List Addr) from z) (by simp)) (by simp)
        | some u =>
          rcases hO b with z | ⟨ob, xs, z⟩
          · rw [q] at z; cases z
          · have z2 := un.frzs b ob _ z
            obtain ⟨e1, _⟩ := hok b _ z
            obtain ⟨e2, _⟩ := hok' b _ z2
            rw [e] at e1; cases e1
            exact e2
  cases hk : K.lookup a with
  | some o =>
    -- the script is one of the module's own objects
    have e := KX a o hk
    rw [ha] at e
    cases e
    refine core (fun _ => none) (fun _ => .inl rfl) (.inr ⟨_, vs.toArray, _, hk, rfl, rfl, rfl, by rw [List.size_toArray, lenV]; exact hl, by simpa using rv⟩) (fun b u z => by have z' : (none : Option HO) = some u := z; cases z') (fun b z => absurd rfl z) fun z => absurd rfl z
  | none =>
    refine core (fun b => if b = a then some (.frz { cls := .type "list", data := .seq vs.toArray } (.lst (ns.map V.int))) else none) (fun b => ?_) (.inl (.inr ⟨{ cls := .type "list", data := .seq vs.toArray }, if_pos rfl⟩)) (fun b u z => ?_) (fun b z => ?_) fun _ => hk
    · by_cases hb : b = a
      · exact .inr ⟨_, _, if_pos hb⟩
      · exact .inl (if_neg hb)
    · by_cases hb : b = a
      · have z' := (if_pos hb).symm.trans z
        cases z'
        subst hb
        exact ⟨ha, by rw [List.length_map]; exact hl, vs, _, rv, ha⟩
      · have z' := (if_neg hb).symm.trans z
        cases z'
    · by_cases hb : b = a
      · exact hb
      · exact absurd (if_neg hb) z
end L2

namespace L2
open PySem PySem.Spec PyProof.Rows

/-- the goal that k_head leaves (case hc), from the law's promise. F gives the function object fd (K's own) once, then the promise over every base -/
theorem walk_of {l : PySem.W.OpenLaw} {n k : Nat} {q : Program} {loose : List Str} {XP : (Str → Option Value) → Heap → Prop} {YP : World → Heap → Prop} {d : DefRec} {K : Params → PySem.W.Frag} {CX : World → CXT} {sp : World → Sp} {x : Str}
    (hn : l.most = some n) (hn2 : n ≤ sizeLine) (hdf : d.params.defaults = []) (hr : Room k callerA)
    (hY : ∀ (w : World) (h : Heap), YP w h → (K w.params).In h)
    (F : ∀ (w : World) (mg : Str → Option Value) (fa : Addr) (h : Heap), (K w.params).In h → h.Ns mainGlobals mg → mg d.name = some (.ref fa) →
      ∃ fd : FuncData, (∀ (s : Shared) (u : Value), BindsTo s fd ⟨[u], []⟩ [(x, u)]) ∧
        ∀ base : Heap, (K w.params).In base → base.Ns mainGlobals mg → FnOk l.prog w (K w.params) mg base (CX w) k fa fd [x] (sp w))
    (hsp : ∀ (w : World) (H : Hp) (a : Addr) (ns : List Int), ns.length ≤ n → Only H → SqL (K w.params) H a (ns.map V.int) → sp w [.ref a] H (fun v _ => v = .bl true) fun _ _ _ => False)
    (hCX : ∀ (w : World) (H : Hp) (s : Shared) (e : Value) (s' : Shared), CX w [] H s (fun _ _ _ => False) e s' → False) :
    PySem.W.WalkO q loose XP YP l.row.toRowW d [] (fun f vs => PySem.call f vs) := by
  refine Att.attach_call hn hdf fun w s₀ s₁ mg mb fa o pm cd doc a vs ns G Y ho hd hcd hmg hobj hints hlen hg => ?_
  have KX := hY w _ Y
  obtain ⟨fd, hb, hF⟩ := F w mg fa _ KX G.T.g hmg
  exact law_call KX G.T.g G.T.b G.T.builtins G.T.nolimit hg hobj hints (Nat.le_trans hlen hn2) hr hF hb (fun H hO hS => hsp w H a ns hlen hO hS) fun H e s' => hCX w H s₁ e s'
end L2

/- THE LAST THEOREM (shape; LID, My.* are yours):
   My.Adr: a structure of the addresses that your layer names (classes, functions); My.Txt K t: a structure (Prop) of the equations over K;
   My.txt_mk : {K} {implicit addresses ..} (e1 : nsIn K mainGlobals "law" = some (some (.ref f))) (e2 : K.lookup f = some ⟨oc, od, .func (fnOf "law" "law" params body scope dV kV doc pm an cdv ct), sl⟩) (e3 : codeIn K cdv "law" = true) .. : ∃ t, My.Txt K t

set_option maxRecDepth 100000 in
set_option maxHeartbeats 0 in
theorem PySem.Challenge.cw_LID_holds : PySem.Challenge.rw_LID.Holds := by
  w_on; o_law; k_head; (case hw => w_witness2)
  k_fill
  refine L2.walk_of (l := PySem.Challenge.rw_LID) (n := 63) (k := 40) (x := "script") (CX := fun w => ..) (sp := fun _ => My.sp_law) rfl (by decide) rfl ⟨rfl, by decide, by decide⟩ (fun w h Y => PySem.W.kIn_of Y) ?F ?S ?C
  case F =>
    intro w mg fa h KX G hmg
    have T : ∃ t, My.Txt (L2.KOf KX) t := by
      dsimp only [L2.KOf]                          -- K must stand as «<heap const> w.params» for k_is
      refine' My.txt_mk ?e1 ?e2 ?e3 ..
      (case e1 => PySem.W.k_is)                    -- in the order: a name -> its address -> its object -> its parts
      (case e2 => PySem.W.k_is)
      ..
    obtain ⟨t, T⟩ := T
    have e0 := hmg.symm.trans (PySem.W.mg_of KX G T.law)
    cases e0                                       -- fa is the law's own address
    exact ⟨_, fun s u => .of_eq rfl, fun base kb nb => My.law_fn T kb nb⟩     -- if «.of_eq rfl» comes too early: refine' ⟨_, ?b, fun base kb nb => My.law_fn T kb nb⟩; exact fun s u => .of_eq rfl
  case S => exact fun w H a ns hl hO hS => ..
  case C => exact ..
(the tactic k_is has no namespace: write k_is) -/

/-! SHORT WORDS over the layer: a def of the text, its body, what a loop and a test want. -/
namespace L2
open PySem PySem.Spec PyProof.Rows

/-! ### the text by places -/
/-- the j-th statement of a class's body -/
def inClass (s : Stmt) (j : Nat) : Stmt := match s with
  | .ClassDef _ _ _ body _ _ _ _ _ _ _ => body.getD j (.Pass ⟨0, 0, 0, 0⟩)
  | _ => .Pass ⟨0, 0, 0, 0⟩
def defArgs (s : Stmt) : Arguments := match s with
  | .FunctionDef _ a _ _ _ _ _ _ _ _ => a
  | _ => { posonlyargs := [], args := [], vararg := none, kwonlyargs := [], kw_defaults := [], kwarg := none, defaults := [] }
def defBody (s : Stmt) : List Stmt := match s with
  | .FunctionDef _ _ b _ _ _ _ _ _ _ => b
  | _ => []
def defScope (s : Stmt) : Scope := match s with
  | .FunctionDef _ _ _ _ _ _ sc _ _ _ => sc
  | _ => { kind := .function, names := [], isGenerator := false, isCoroutine := false }

/-! ### no exception leaves a def -/
abbrev CX0 : CXT := fun _ _ _ _ _ _ => False
abbrev E0 : XK := fun _ _ _ => False
theorem pass0 {X : Cx} : Passes CX0 X E0 := fun _ _ _ _ _ _ _ h => h.elim

/-! ### a def (or method) of the text as it stands behind the top -/
structure Fun (K : PySem.W.Frag) (x qual : Str) (st : Stmt) (f : Addr) (fd : FuncData) : Prop where
  ex : ∃ (oc : Value) (od : Option Addr) (kV doc pm : Value) (an : Option Addr) (cdv ct : Value) (osl : Array (Option Value)),
    fd = PySem.W.fnOf x qual (defArgs st) (defBody st) (defScope st) .none kV doc pm an cdv ct ∧ K.lookup f = some ⟨oc, od, .func fd, osl⟩ ∧ PySem.W.codeIn K cdv qual = true
  kp : PySem.W.keepIn K (.ref f) = true
section
variable {P : Program} {w : World} {K : PySem.W.Frag} {mg : Str → Option Value} {base : Heap}
/-- THE RULE for a def: its body as a term of rules, and the reading of that term -/
theorem Fun.ok {x qual : Str} {st : Stmt} {f : Addr} {fd : FuncData} {N ps : List Str} {k : Nat} {sp : Sp} (F : Fun K x qual st f fd) (S : FnScope N ps (defScope st)) (len : ∀ vs H Q E, sp vs H Q E → vs.length = ps.length)
    (hbody : ∀ (cdv : Value) (A : Around) (outer : List Env) (s : Shared) (H : Hp) (vs : List V) (Q : VK) (E : XK), Room k (A.deeper (envOfC qual (defScope st) s.heap.objs.size f cdv)) → sp vs H Q E →
      ∃ t, PSs (cxOf CX0 P w K mg base N qual (defScope st) f cdv A outer s H E).nox (defBody st) t ∧ t { nx := fun _ H' => Q .non H', rt := Q } (start N vs) H) : FnOk P w K mg base CX0 (k + 1) f fd ps sp := by
  obtain ⟨oc, od, kV, doc, pm, an, cdv, ct, osl, rfl, lk, hcd⟩ := F.ex
  refine fn_of lk hcd S len fun A outer s H vs Q E hr hsp => ?_
  obtain ⟨t, h, q⟩ := hbody cdv A outer s H vs Q E hr hsp
  exact ⟨t, h.nox, q⟩
/-- how its arguments bind (no defaults): h is «fun _ _ _ _ _ _ us hl => match us, hl with | [_, _], _ => rfl», one _ a parameter -/
theorem Fun.binds {x qual : Str} {st : Stmt} {f : Addr} {fd : FuncData} {ps : List Str} (F : Fun K x qual st f fd)
    (h : ∀ (kV doc pm : Value) (an : Option Addr) (cdv ct : Value) (us : List Value), us.length = ps.length → bindArgs (PySem.W.fnOf x qual (defArgs st) (defBody st) (defScope st) .none kV doc pm an cdv ct) ⟨us, []⟩ = pure (ps.zip us)) : Binds K fd ps [] := by
  obtain ⟨oc, od, kV, doc, pm, an, cdv, ct, osl, rfl, lk, hcd⟩ := F.ex
  exact .all (h kV doc pm an cdv ct)
theorem fun_mk {x qual : Str} {st : Stmt} {f : Addr} {oc : Value} {od an : Option Addr} {osl : Array (Option Value)} {kV doc pm cdv ct : Value} (l : K.lookup f = some ⟨oc, od, .func (PySem.W.fnOf x qual (defArgs st) (defBody st) (defScope st) .none kV doc pm an cdv ct), osl⟩)
    (c : PySem.W.codeIn K cdv qual = true) (k : PySem.W.keepIn K (.ref f) = true) : Fun K x qual st f (PySem.W.fnOf x qual (defArgs st) (defBody st) (defScope st) .none kV doc pm an cdv ct) := ⟨⟨oc, od, kV, doc, pm, an, cdv, ct, osl, rfl, l, c⟩, k⟩
end
theorem small1000 {n : Nat} (h : n ≤ 1000) : n < sizeLine := Nat.lt_of_le_of_lt h (by decide)

/-! ### expressions in short: the name that stands in the i-th slot -/
section
variable {X : Cx}
theorem pv (i : Nat) {x : Str} {pos : Pos} (hN : X.N[i]? = some x := by rfl) (hv : Vis X.env.scope x := by first | exact Or.inl rfl | exact Or.inr (Or.inl rfl) | exact Or.inr (Or.inr rfl)) (hd : (x == ("__debug__" : Str)) = false := by decide)
    (hcd : (x == ("__classdict__" : Str)) = false := by decide) : PE X (.Name x pos) (tVar i) := pe_var hN hv hd hcd
end

/-! ### tests -/
theorem iteF {A B : Prop} (h : B) : if false = true then A else B := by
  rw [if_neg Bool.false_ne_true]
  exact h
theorem iteT {A B : Prop} (h : A) : if true = true then A else B := by
  rw [if_pos rfl]
  exact h
/-! ### heaps -/
/-- all that was tracked is as it was -/
def Same (H H' : Hp) : Prop := ∀ b o, H b = some o → H' b = some o
theorem Same.refl (H : Hp) : Same H H := fun _ _ h => h
theorem Same.trans {H H1 H2 : Hp} (a : Same H H1) (b : Same H1 H2) : Same H H2 := fun c o h => b c o (a c o h)
theorem Same.free {H H' : Hp} (e : Same H H') {l : Addr} (h : H' l = Option.none) : H l = Option.none := by
  cases q : H l with
  | none => rfl
  | some o =>
    rw [e l o q] at h
    cases h
end L2

set_option Elab.async false
set_option linter.all false
set_option maxRecDepth 100000
namespace L2
open PySem PySem.Spec PyProof.Rows
/-! ### closures -/
def clOf (env : Env) : List (Str × NameKind) → List (Str × Addr) → List (Str × Addr)
  | [], cs => cs
  | (n, k) :: r, cs => if k == NameKind.free then clOf env r ((n, (env.cells.lookup n).getD 0) :: cs) else clOf env r cs
theorem closureFor_clOf {scope : Scope} {env : Env} (h : ∀ x ∈ scope.names, x.2 = .free → ∃ c, env.cells.lookup x.1 = some c) : closureFor scope env = pure (clOf env scope.names []) := by
  simp only [closureFor]
  have go : ∀ (names : List (Str × NameKind)) (cs : List (Str × Addr)), (∀ x ∈ names, x.2 = .free → ∃ c, env.cells.lookup x.1 = some c) →
      (forIn names cs fun x __s => if (x.snd == NameKind.free) = true then (do let a ← cellOf env x.fst; pure (ForInStep.yield ((x.fst, a) :: __s))) else pure (ForInStep.yield __s)) = (pure (clOf env names cs) : Sem _) := by
    intro names
    induction names with
    | nil => intro cs _; rfl
    | cons x r ih =>
      intro cs h
      obtain ⟨n, k⟩ := x
      rw [List.forIn_cons, clOf]
      have hr := fun cs => ih cs fun y hy => h y (List.mem_cons_of_mem _ hy)
      cases hk : k == NameKind.free with
      | false =>
        simp only [hk, Bool.false_eq_true, if_false]
        exact hr cs
      | true =>
        have hk' : k = .free := by simpa using hk
        obtain ⟨c, hc⟩ := h (n, k) List.mem_cons_self hk'
        simp only at hc
        simp only [if_true, cellOf, hc]
        exact hr _
  rw [go _ _ h]
  rfl
theorem clOf_lookup {env : Env} : ∀ (names : List (Str × NameKind)) (cs : List (Str × Addr)), (∀ x ∈ names, x.2 = .free → ∃ c, env.cells.lookup x.1 = some c) → (∀ x c, cs.lookup x = some c → env.cells.lookup x = some c) →
    ∀ x c, (clOf env names cs).lookup x = some c → env.cells.lookup x = some c
  | [], cs, _, hc => hc
  | (n, k) :: r, cs, h, hc => by
    rw [clOf]
    split
    · rename_i hk
      refine clOf_lookup r _ (fun y hy => h y (List.mem_cons_of_mem _ hy)) fun x c e => ?_
      obtain ⟨c', hc'⟩ := h (n, k) List.mem_cons_self (by simpa using hk)
      rw [List.lookup_cons] at e
      split at e
      · rename_i hx
        have hx' : x = n := by simpa using hx
        subst hx'
        simp only at hc'
        rw [hc'] at e ⊢
        exact e
      · exact hc x c e
    · exact clOf_lookup r cs (fun y hy => h y (List.mem_cons_of_mem _ hy)) hc
theorem clOf_has {env : Env} : ∀ (names : List (Str × NameKind)) (cs : List (Str × Addr)) (x : Str), ((x, NameKind.free) ∈ names ∨ ∃ c, cs.lookup x = some c) → ∃ c, (clOf env names cs).lookup x = some c
  | [], cs, x, h => by
    rcases h with h | h
    · cases h
    · exact h
  | (n, k) :: r, cs, x, h => by
    rw [clOf]
    split
    · rename_i hk
      refine clOf_has r _ x ?_
      by_cases e : x = n
      · subst e; exact .inr ⟨(env.cells.lookup x).getD 0, by simp [List.lookup_cons]⟩
      · have ne : (x == n) = false := by simpa using e
        rcases h with h | ⟨c, h⟩
        · rcases List.mem_cons.mp h with z | z
          · cases z; exact absurd rfl e
          · exact .inl z
        · exact .inr ⟨c, by rw [List.lookup_cons, ne]; exact h⟩
    · rename_i hk
      refine clOf_has r cs x ?_
      rcases h with h | h
      · rcases List.mem_cons.mp h with z | z
        · cases z; exact absurd rfl hk
        · exact .inl z
      · exact .inr h

/-! ### a comprehension's names -/
def srcS (src : List (Option Nat)) (σ : St) : St := src.map fun o => o.bind fun i => (σ[i]?).bind id
def SrcOk (scope : Scope) (XN : List Str) : List (Option Nat) → List Str → Prop
  | [], [] => True
  | none :: r, _ :: n => SrcOk scope XN r n
  | some i :: r, x :: n => XN[i]? = some x ∧ scope.names.lookup x = some .free ∧ SrcOk scope XN r n
  | _, _ => False
theorem SrcOk.len {scope : Scope} {XN : List Str} : ∀ {src : List (Option Nat)} {NC : List Str}, SrcOk scope XN src NC → src.length = NC.length
  | [], [], _ => rfl
  | none :: r, _ :: n, h => by have := SrcOk.len (src := r) (NC := n) h; simp [this]
  | some i :: r, _ :: n, h => by have := SrcOk.len (src := r) (NC := n) h.2.2; simp [this]
  | [], _ :: _, h => h.elim
  | none :: _, [], h => h.elim
  | some _ :: _, [], h => h.elim
theorem SrcOk.at {scope : Scope} {XN : List Str} : ∀ {src : List (Option Nat)} {NC : List Str} {j i : Nat} {x : Str}, SrcOk scope XN src NC → src[j]? = some (some i) → NC[j]? = some x → XN[i]? = some x ∧ scope.names.lookup x = some .free
  | [], [], _, _, _, _, h, _ => by simp at h
  | none :: r, _ :: n, 0, _, _, _, h, _ => by simp at h
  | none :: r, _ :: n, j + 1, i, x, h, h1, h2 => SrcOk.at (src := r) (NC := n) (j := j) h (by simpa using h1) (by simpa using h2)
  | some k :: r, y :: n, 0, i, x, h, h1, h2 => by
    have e1 : k = i := by simpa using h1
    have e2 : y = x := by simpa using h2
    subst e1 e2
    exact ⟨h.1, h.2.1⟩
  | some k :: r, _ :: n, j + 1, i, x, h, h1, h2 => SrcOk.at (src := r) (NC := n) (j := j) h.2.2 (by simpa using h1) (by simpa using h2)
  | [], _ :: _, _, _, _, h, _, _ => h.elim
  | none :: _, [], _, _, _, h, _, _ => h.elim
  | some _ :: _, [], _, _, _, h, _, _ => h.elim
structure CompOk (X : Cx) (scope : Scope) : Prop where
  kind : scope.kind = .function
  names : ∀ x ∈ scope.names, x.2 = .local → scope.names.lookup x.1 = some .local
  nocell : ∀ x ∈ scope.names, x.2 ≠ .cell
  free : ∀ x ∈ scope.names, x.2 = .free → X.env.kindOf x.1 = some .cell ∨ X.env.kindOf x.1 = some .free
theorem relabel_lookup {env : Env} : ∀ (names : List (Str × NameKind)) (x : Str),
    (names.map fun (n, k) => if (k == NameKind.free && env.scope.kind == .function && env.kindOf n == some .cell) then (n, NameKind.cell) else (n, k)).lookup x =
      (names.lookup x).map fun k => if (k == NameKind.free && env.scope.kind == .function && env.kindOf x == some .cell) then NameKind.cell else k
  | [], _ => rfl
  | (n, k) :: r, x => by
    have ih := relabel_lookup (env := env) r x
    show List.lookup x ((if (k == NameKind.free && env.scope.kind == .function && env.kindOf n == some .cell) = true then (n, NameKind.cell) else (n, k)) :: _) = _
    cases hx : x == n with
    | true =>
      have e : x = n := by simpa using hx
      subst e
      by_cases hc : (k == NameKind.free && env.scope.kind == .function && env.kindOf x == some .cell) = true
      · rw [if_pos hc, List.lookup_cons, List.lookup_cons]
        simp only [hx]
        show some NameKind.cell = some (if _ then _ else _)
        rw [if_pos hc]
      · rw [if_neg hc, List.lookup_cons, List.lookup_cons]
        simp only [hx]
        show some k = some (if _ then _ else _)
        rw [if_neg hc]
    | false =>
      by_cases hc : (k == NameKind.free && env.scope.kind == .function && env.kindOf n == some .cell) = true
      · rw [if_pos hc]; simp only [List.lookup_cons, hx]; exact ih
      · rw [if_neg hc]; simp only [List.lookup_cons, hx]; exact ih
theorem mem_lookup {names : List (Str × NameKind)} {x : Str} {k : NameKind} (h : names.lookup x = some k) : (x, k) ∈ names := PySem.mem_of_lookup h
/-- the context of a comprehension's block: C its own names, s, H ahead of C; ex the first iterator's records -/
def cxC (X : Cx) (scope : Scope) (NC : List Str) (ex : List Addr) (s : Shared) (H : Hp) : Cx :=
  { X with N := NC, s₀ := s, H₀ := H, env := compEnvC scope (clOf X.env scope.names []) s.heap.objs.size X.env, outer := X.stack, stack := X.stack, ex := ex, fn := fun _ => false, pn := [], xe := fun _ _ => False }
section
variable {X : Cx} {pins : List (Addr × Obj)} {σ : St} {H : Hp} {s : Shared} {scope : Scope} {NC : List Str} {ex : List Addr} {src : List (Option Nat)}
theorem CompOk.cells (c : CompOk X scope) (ok : X.Ok) : ∀ x ∈ scope.names, x.2 = .free → ∃ c, X.env.cells.lookup x.1 = some c := fun x hx e => ok.has x.1 (c.free x hx e)
theorem CompOk.kindC (c : CompOk X scope) {C : Addr} {x : Str} {k : NameKind} (h : (compEnvC scope (clOf X.env scope.names []) C X.env).kindOf x = some k) (hk : k = .cell ∨ k = .free) : scope.names.lookup x = some .free := by
  have h' : (relabel scope X.env).names.lookup x = some k := h
  unfold relabel at h'
  rw [relabel_lookup] at h'
  cases e : scope.names.lookup x with
  | none => rw [e] at h'; cases h'
  | some k' =>
    have nc := c.nocell _ (mem_lookup e)
    rw [e] at h'
    have h2 : (if (k' == NameKind.free && X.env.scope.kind == .function && X.env.kindOf x == some .cell) then NameKind.cell else k') = k := Option.some.inj h'
    by_cases hf : k' = .free
    · rw [hf]
    · have hb : (k' == NameKind.free) = false := by simpa using hf
      rw [hb, Bool.false_and, Bool.false_and, if_neg Bool.false_ne_true] at h2
      rcases hk with z | z
      · rw [h2] at nc; exact absurd z nc
      · rw [h2] at hf; exact absurd z hf
theorem comp_ok (I : Inv X pins σ H s) (c : CompOk X scope) (hf : ∀ b ∈ ex, FpOk X pins H b) (hlt : ∀ b ∈ ex, b < s.heap.objs.size) : (cxC X scope NC ex s H).Ok where
  mod := I.ok.mod
  kind := c.kind
  glob := I.ok.glob
  blt := I.ok.blt
  above := Nat.le_refl _
  inj := fun x y d h1 h2 => I.ok.inj x y d (clOf_lookup _ _ (c.cells I.ok) (fun _ _ z => by cases z) x d h1) (clOf_lookup _ _ (c.cells I.ok) (fun _ _ z => by cases z) y d h2)
  has := fun x hx => clOf_has _ _ x (.inl (mem_lookup (by rcases hx with h | h <;> exact c.kindC h (by simp))))
  cab := fun _ _ z => by cases z
  hd := I.ok.hd
  frames := I.ok.frames
  stk := .inl rfl
  exf := fun b hb => ⟨Nat.ne_of_lt (hlt b hb), fun x d e => (hf b hb).2.2.2.2.1 x d (clOf_lookup _ _ (c.cells I.ok) (fun _ _ z => by cases z) x d e)⟩
  bs := I.bs
  bsz := Nat.le_trans I.ok.bsz I.sz
  noex := fun b o e hb => by
    rcases (hf b hb).2.2.2.1 with z | z
    · exact I.ok.noex b o e z
    · exact absurd (Nat.lt_of_lt_of_le (Heap.lt_size e) (Nat.le_trans I.ok.bsz z)) (Nat.lt_irrefl _)
  exfs := fun b hb z => (List.mem_cons.mp (I.stkSub b z)).elim (hf b hb).2.1 (hf b hb).2.2.1
  funs := I.stack
  frf := I.stkFree
theorem comp_inv {h1 : Heap} {tk : Nat} {ob : Obj} (I : Inv X pins σ H s) (c : CompOk X scope) (hsrc : SrcOk scope X.N src NC) (hf : ∀ b ∈ ex, FpOk X pins H b) (hlt : ∀ b ∈ ex, b < s.heap.objs.size)
    (hns : h1.Ns s.heap.objs.size (fun _ => none)) (hsb : Heap.SameBut s.heap.objs.size (s.heap.push ob) h1) :
    Inv (cxC X scope NC ex s H) [] (srcS src σ) H { s with heap := h1, toks := tk } := by
  have old : ∀ b o, s.heap.get? b = some o → h1.get? b = some o := fun b o e => hsb.extBut b o (Nat.ne_of_lt (Heap.lt_size e)) (Heap.get?_push_of_some _ e)
  have cl : ∀ x d, (clOf X.env scope.names []).lookup x = some d → X.env.cells.lookup x = some d := fun x d => clOf_lookup _ _ (c.cells I.ok) (fun _ _ z => by cases z) x d
  have cellK : ∀ d v, s.heap.IsCell d v → h1.IsCell d v := fun d v ⟨o, ho, hd⟩ => ⟨o, old d o ho, hd⟩
  refine ⟨comp_ok I c hf hlt, rfl, I.bare, Un.kept old, ⟨_, hns, fun j x v e1 e2 e3 => ?_⟩, fun x d e => ?_, I.hok.fresh (Nat.le_refl _), fun x d e => I.freeC x d (cl x d e), fun p hp => absurd (show p ∈ ([] : List (Addr × Obj)) from hp) (by simp), I.hok.kept old, ?_⟩
  · have e2' : (srcS src σ)[j]? = some (some v) := e2
    unfold srcS at e2'
    rw [List.getElem?_map] at e2'
    cases ej : src[j]? with
    | none => rw [ej] at e2'; cases e2'
    | some o =>
      rw [ej] at e2'
      cases o with
      | none => cases e2'
      | some i =>
        have e4 : (σ[i]?).bind id = some v := Option.some.inj e2'
        have e5 : σ[i]? = some (some v) := by
          cases q : σ[i]? with
          | none => rw [q] at e4; cases e4
          | some z => rw [q] at e4; exact congrArg some e4
        obtain ⟨hN, hfr⟩ := hsrc.at ej e1
        have hk := c.free _ (mem_lookup hfr) rfl
        obtain ⟨m, hn, hl⟩ := I.loc
        obtain ⟨u, r, l⟩ := hl i x v hN e5 (hk.elim (fun z => .inr (.inl z)) (fun z => .inr (.inr z)))
        refine ⟨u, r, .inr ⟨?_, ?_⟩⟩
        · show (relabel scope X.env).names.lookup x = _ ∨ (relabel scope X.env).names.lookup x = _
          unfold relabel
          rw [relabel_lookup, hfr]
          by_cases z : (NameKind.free == NameKind.free && X.env.scope.kind == .function && X.env.kindOf x == some .cell) = true
          · left; simp only [Option.map_some, z, if_true]
          · right; simp only [Option.map_some, z]; rfl
        · obtain ⟨d, hd⟩ := clOf_has (env := X.env) scope.names [] x (.inl (mem_lookup hfr))
          refine ⟨d, hd, ?_⟩
          rcases l with ⟨l, _⟩ | ⟨_, d', e, z⟩
          · exfalso; rcases hk with z | z <;> (rw [l] at z; cases z)
          · rw [cl x d hd] at e; cases e; exact cellK d _ z
  · obtain ⟨v, z⟩ := I.cell x d (cl x d e)
    exact ⟨v, cellK d v z⟩
  · show (srcS src σ).length = NC.length
    unfold srcS; rw [List.length_map]; exact hsrc.len
/-- behind the block -/
theorem comp_back {H' : Hp} {σ' : St} {s' : Shared} {h2 : Heap} {pins' : List (Addr × Obj)} (I : Inv X pins σ H s) (hf : ∀ b ∈ ex, FpOk X pins H b) (J : Inv (cxC X scope NC ex s H) pins' σ' H' s')
    (hsb : Heap.SameBut s.heap.objs.size s'.heap h2) : Inv X pins σ H' { s' with heap := h2 } := by
  have up : ∀ b o, b ≠ s.heap.objs.size → s'.heap.get? b = some o → h2.get? b = some o := fun b o hb e => hsb.extBut b o hb e
  have ne : ∀ b o, s.heap.get? b = some o → b ≠ s.heap.objs.size := fun b o e => Nat.ne_of_lt (Heap.lt_size e)
  have u := J.base
  refine I.call' (ch := ex) (show s'.os = s.os from J.os) ⟨fun b o e n hb hx => up b o (ne b o e) (u.keep b o e n hb hx), fun b o e n hb hx => ?_, u.free, fun b o e hx => ?_, u.tups, u.frzs, u.tbls⟩ ?_ J.bare fun b hb => ?_
  · obtain ⟨sl, q⟩ := u.slot b o e n hb hx
    exact ⟨sl, up b _ (ne b o e) q⟩
  · obtain ⟨o', q⟩ := u.there b o e hx
    exact ⟨o', up b o' (ne b o e) q⟩
  · intro b o e
    have nC : ∀ b o, H' b = some o → b ≠ s.heap.objs.size := fun b o e z => by
      have := J.free
      rw [z] at e
      have e' : H' s.heap.objs.size = none := this
      rw [e'] at e; cases e
    refine (J.hok b o e).stay (fun d v hd q => up d v ?_ q) (fun _ q => q) fun _ _ q => q
    rcases hd with z | z
    · rw [z]; exact nC b o e
    · exact nC d _ z
  · obtain ⟨_, f1, _, f3, f4, f5⟩ := hf b hb
    exact ⟨f3, f1, f4, f5⟩
end
/-! ### the tests of a clause -/
def PTs (X : Cx) (ifs : List Expr) (t : TT) : Prop :=
  ∀ (pins : List (Addr × Obj)) (s : Shared) (σ : St) (H : Hp) (Q : Bool → Hp → Prop), Inv X pins σ H s → t σ H Q →
    wpAny (model X.prog X.w) X.A (forIn ifs true fun c r => if r = true then do let ok ← isTrue c X.env (eval c X.env); pure (ForInStep.yield ok) else pure (ForInStep.yield r)) (TP X pins σ Q) X.xe s
def tYes : TT := fun _ H Q => Q true H
theorem pts_nil {X : Cx} : PTs X [] tYes := fun _ _ _ H _ I h => wpAny_tests_nil ⟨H, I, h⟩
theorem pts_one {X : Cx} {c : Expr} {t : TT} (h : PT X c t) : PTs X [c] t := fun pins s σ H Q I q => wpAny_tests_one (h pins s σ H Q I q)
/-! ### a list comprehension of one clause -/
def LCW (J : It) (g : TG) (tt : TT) (te : TE) (D : Addr) (Q : VK) (σ : St) (H : Hp) : Prop :=
  ∃ W : Nat → Nat → St → Hp → Prop, (∃ m, W 0 m σ H) ∧ ∀ i m σ2 H2, W i m σ2 H2 →
    (J.stop i H2 ∧ Q (.ref D) H2) ∨
    (J.go i H2 ∧ ∃ N : St → Hp → Prop, (∀ σ' H', N σ' H' → ∃ m', m' < m ∧ W (i + 1) m' σ' H') ∧ ∀ x H3, J.yld i H2 x H3 → g x σ2 H3 fun σ4 H4 => tt σ4 H4 fun b H5 =>
      if b = true then te σ4 H5 fun v H6 => ∃ ys, H6 D = some (.lst ys) ∧ ys.length < sizeLine ∧ N σ4 (upd H6 D (.lst (ys ++ [v]))) else N σ4 H5)
def tLC (wi : TI) (g : TG) (tt : TT) (te : TE) (src : List (Option Nat)) : TE := fun σ H Q => wi σ H fun J H1 => ∀ D, H1 D = none → LCW J g tt te D Q (srcS src σ) (upd H1 D (.lst []))
section
variable {X : Cx} {elt iter tg : Expr} {ifs : List Expr} {scope : Scope} {pos : Pos} {wi : TI} {g : TG} {tt : TT} {te : TE} {src : List (Option Nat)} {NC : List Str}
/-- the block: from the first iterator on -/
theorem comp_block {pins : List (Addr × Obj)} {σ : St} {s2 : Shared} {H2 : Hp} {it : Addr} {fp : List Addr} {tn : Nat → Heap → Prop} {J : It} {RR : Value → Addr → Result → Shared → Prop} {E : Value → Shared → Prop} {Q : VK}
    (hc : X.calm = true) (c : CompOk X scope) (hsrc : SrcOk scope X.N src NC) (I2 : Inv X pins σ H2 s2) (T : Turn X.prog X.w X.K tg J fp it tn) (st2 : tn 0 s2.heap) (f2 : ∀ b ∈ fp, FpOk X pins H2 b)
    (hg : ∀ s H, PG (cxC X scope NC fp s H) tg g) (ht : ∀ s H, PTs (cxC X scope NC fp s H) ifs tt) (he : ∀ s H, PE (cxC X scope NC fp s H) elt te)
    (hW : ∀ D, H2 D = none → ∃ W : Nat → Nat → St → Hp → Prop, (∃ m, W 0 m (srcS src σ) (upd H2 D (.lst []))) ∧ ∀ i m σ2 H2, W i m σ2 H2 →
      (J.stop i H2 ∧ Q (.ref D) H2) ∨
      (J.go i H2 ∧ ∃ N : St → Hp → Prop, (∀ σ' H', N σ' H' → ∃ m', m' < m ∧ W (i + 1) m' σ' H') ∧ ∀ x H3, J.yld i H2 x H3 → g x σ2 H3 fun σ4 H4 => tt σ4 H4 fun b H5 =>
        if b = true then te σ4 H5 fun v H6 => ∃ ys, H6 D = some (.lst ys) ∧ ys.length < sizeLine ∧ N σ4 (upd H6 D (.lst (ys ++ [v]))) else N σ4 H5))
    (hRR : ∀ D s3 H3 σ' H' s', Inv X pins σ H3 s3 → (∀ b ∈ fp, FpOk X pins H3 b) → Inv (cxC X scope NC fp s3 H3) [] σ' H' s' → Q (.ref D) H' → RR (.ref D) s3.heap.objs.size (.ok .next) s') :
    wpAny (model X.prog X.w) X.A (newList []) (fun acc s₃ => wpAny (model X.prog X.w) X.A (newFunctionEnv scope X.env.globals (clOf X.env scope.names []) [] X.env.qual none .none (some X.env)) (fun cenv s₄ =>
      codeAny (model X.prog X.w) X.A (.compStart (.ListComp elt [⟨tg, iter, ifs, 0⟩] scope pos) 0 (.ref it) acc { cenv with scope := relabel scope X.env }) (RR acc cenv.locals) s₄) E s₃) E s2 := by
  obtain ⟨W, ⟨m0, w0⟩, turn⟩ := hW s2.heap.objs.size I2.fresh
  have I3 : Inv X pins σ (upd H2 s2.heap.objs.size (.lst [])) { s2 with heap := s2.heap.push { cls := .type "list", data := .seq ([] : List Value).toArray } } := I2.lnew (its := []) (t' := s2.toks) .nil (Nat.zero_le _)
  have lt2 : ∀ b ∈ fp, b < s2.heap.objs.size := fun b hb => by
    obtain ⟨o, e, _⟩ := T.obj _ _ st2 b hb
    exact Heap.lt_size e
  have f3 : ∀ b ∈ fp, FpOk X pins (upd H2 s2.heap.objs.size (.lst [])) b := fun b hb => ⟨by rw [upd_ne (Nat.ne_of_lt (lt2 b hb))]; exact (f2 b hb).1, (f2 b hb).2⟩
  refine wpAny_newObj_type ?_
  suffices key : ∀ s3 : Shared, Inv X pins σ (upd H2 s2.heap.objs.size (.lst [])) s3 → (∀ b o, s2.heap.get? b = some o → s3.heap.get? b = some o) →
      wpAny (model X.prog X.w) X.A (newFunctionEnv scope X.env.globals (clOf X.env scope.names []) [] X.env.qual none .none (some X.env)) (fun cenv s₄ =>
        codeAny (model X.prog X.w) X.A (.compStart (.ListComp elt [⟨tg, iter, ifs, 0⟩] scope pos) 0 (.ref it) (.ref s2.heap.objs.size) { cenv with scope := relabel scope X.env }) (RR (.ref s2.heap.objs.size) cenv.locals) s₄) E s3 from
    key _ I3 fun b o e => Heap.get?_push_of_some _ e
  intro s3 I3 up3
  have st3 : tn 0 s3.heap := T.keep _ _ _ st2 fun b _ o e => up3 b o e
  have lt3 : ∀ b ∈ fp, b < s3.heap.objs.size := fun b hb => by
    obtain ⟨o, e, _⟩ := T.obj _ _ st3 b hb
    exact Heap.lt_size e
  generalize hH3 : upd H2 s2.heap.objs.size (.lst []) = H3 at I3 f3 w0
  refine wpAny_newFunctionEnv c.nocell (by intro y hy; simp at hy) (fun h1 hns hsb => ?_) c.kind
  have I4 := comp_inv (src := src) (NC := NC) (ex := fp) (tk := s3.toks + ([] : List (Str × Value)).length) I3 c hsrc f3 lt3 hns hsb
  have st4 : tn 0 h1 := T.keep _ _ _ st3 fun b hb o e => hsb.extBut b o (Nat.ne_of_lt (lt3 b hb)) (Heap.get?_push_of_some _ e)
  generalize hX : cxC X scope NC fp s3 H3 = XC at I4
  have stat : ∀ {H' : Hp}, (∀ b ∈ fp, H' b = none) → ∀ b ∈ fp, FpOk XC [] H' b := fun {H'} hn b hb => by
    subst hX
    refine ⟨hn b hb, Nat.ne_of_lt (lt3 b hb), fun z => ?_, .inl hb, fun x d e => ?_, fun p hp => absurd (show p ∈ ([] : List (Addr × Obj)) from hp) (by simp)⟩
    · exact (I4.ok.exfs b hb) z
    · exact (I4.ok.exf b hb).2 x d e
  have loop : codeAny (model X.prog X.w) X.A (.compLoop (.ListComp elt [⟨tg, iter, ifs, 0⟩] scope pos) 0 (.ref it) (.ref s2.heap.objs.size) XC.env) (RR (.ref s2.heap.objs.size) s3.heap.objs.size)
      { s3 with heap := h1, toks := s3.toks + ([] : List (Str × Value)).length } := by
    refine codeAny_loop rfl (fun n s' => ∃ i σ' H', Inv XC [] σ' H' s' ∧ tn i s'.heap ∧ (∀ b ∈ fp, H' b = none) ∧ W i n σ' H') (fun n s' hI => ?_) m0 ⟨0, _, _, I4, st4, fun b hb => (f3 b hb).1, w0⟩
    obtain ⟨i, σ', H', I5, st5, fr5, w5⟩ := hI
    show wpAny _ X.A ((compTurn (.ListComp elt [⟨tg, iter, ifs, 0⟩] scope pos) 0 (.ref it) (.ref s2.heap.objs.size) XC.env).onRaise (fun x => do noteFrame x XC.env; theTreesLotGoes x)) _ _ s'
    refine wpAny_noted ?_
    rw [compTurn_list]
    have nox : ∀ {α : Type} {t : Sem α} {Q : α → Shared → Prop} {E : Value → Shared → Prop} {s : Shared}, wpAny (model XC.prog XC.w) XC.A t Q XC.xe s → wpAny (model X.prog X.w) X.A t Q E s := fun {α t Q E s} h => by
      subst hX
      exact wpAny_mono h (fun _ _ q => q) fun _ _ f => f.elim
    have hcC : XC.calm = true := by subst hX; exact hc
    have eP : XC.prog = X.prog := by subst hX; rfl
    have ew : XC.w = X.w := by subst hX; rfl
    have eK : XC.K = X.K := by subst hX; rfl
    have eA : XC.A = X.A := by subst hX; rfl
    have hgC : PG XC tg g := by subst hX; exact hg _ _
    have htC : PTs XC ifs tt := by subst hX; exact ht _ _
    have heC : PE XC elt te := by subst hX; exact he _ _
    refine wpAny_bind (wpAny_standAt (wpAny_bind ?_))
    rcases turn i n σ' H' w5 with ⟨stop, qn⟩ | ⟨go, N, hN, step⟩
    · have hd := T.done XC eP ew eK hcC i [] s' σ' H' (notedBy (model X.prog X.w) X.A XC.env fun e s' => RR (.ref s2.heap.objs.size) s3.heap.objs.size (.error e) s') I5 (stat fr5) st5 stop
      rw [eA] at hd
      refine thn hd fun r s6 ⟨hr, I6⟩ => ?_
      subst hr
      refine wpAny_pure ?_
      subst hX
      exact hRR _ s3 H3 σ' H' s6 I3 f3 I6 qn
    · have hd := T.item XC eP ew eK hcC i [] s' σ' H' (notedBy (model X.prog X.w) X.A XC.env fun e s' => RR (.ref s2.heap.objs.size) s3.heap.objs.size (.error e) s') I5 (stat fr5) st5 go
      rw [eA] at hd
      refine thn hd fun r s6 ⟨u, hr, h6⟩ => ?_
      subst hr
      refine wpAny_bind (thn h6 fun _ s7 ⟨x, H7, I7, r7, y7, st7, fr7⟩ => ?_)
      have I7' := I7.pinned (stat fr7) (T.obj _ _ st7)
      have again : ∀ {σ8 : St} {H8 : Hp} {s8 : Shared}, Inv XC ([] ++ pinsAt fp s7.heap) σ8 H8 s8 → N σ8 H8 → ∃ m, m < n ∧ ∃ i σ' H', Inv XC [] σ' H' s8 ∧ tn i s8.heap ∧ (∀ b ∈ fp, H' b = none) ∧ W i m σ' H' := fun {σ8 H8 s8} I8 n8 => by
        obtain ⟨m', hm, w8⟩ := hN σ8 H8 n8
        refine ⟨m', hm, i + 1, σ8, H8, I8.unpinned, T.keep _ _ _ st7 fun b hb o e => (I8.pin (b, o) (List.mem_append_right _ (List.mem_append_right _ (mem_pinsAt hb e)))).1, fun b hb => ?_, w8⟩
        obtain ⟨o, e, d⟩ := T.obj _ _ st7 b hb
        exact (I8.pin (b, o) (List.mem_append_right _ (List.mem_append_right _ (mem_pinsAt hb e)))).2.1
      refine wpAny_bind (nox (thn (hgC _ s7 σ' H7 x u _ I7' r7 (step x H7 y7)) fun _ s8 ⟨σ8, H8, I8, q8⟩ => ?_))
      refine wpAny_bind (nox (thn (htC _ s8 σ8 H8 _ I8 q8) fun b s9 ⟨H9, I9, q9⟩ => ?_))
      cases b with
      | false =>
        rw [if_neg Bool.false_ne_true] at q9
        exact wpAny_pure ⟨by subst hX; rfl, again I9 q9⟩
      | true =>
        rw [if_pos rfl] at q9
        refine wpAny_bind (wpAny_bind (nox (thn (heC _ s9 σ8 H9 _ I9 q9) fun y s10 ⟨v, H10, I10, r10, ys, hD, hz, q10⟩ => ?_)))
        refine wpAny_bind (nox (thn (mt_append _ s10 σ8 H10 (.ref s2.heap.objs.size) [v] _ [y] (fun _ H' => N σ8 H') I10 rfl (.cons r10 .nil) ⟨_, ys, v, rfl, rfl, hD, hz, q10⟩) fun _ s11 ⟨_, H11, I11, _, q11⟩ => ?_))
        exact wpAny_pure (wpAny_pure ⟨by subst hX; rfl, again I11 q11⟩)
  subst hX
  exact codeAny_compStart_list loop (T.self _ 0 _ _ _ st4 loop)
theorem pe_lc (hc : X.calm = true) (c : CompOk X scope) (hsrc : SrcOk scope X.N src NC) (hi : PI X tg iter wi)
    (hg : ∀ ex s H, PG (cxC X scope NC ex s H) tg g) (ht : ∀ ex s H, PTs (cxC X scope NC ex s H) ifs tt) (he : ∀ ex s H, PE (cxC X scope NC ex s H) elt te)
    (hs : ∀ x, foldedSetIterable iter X.env x = pure x := by intro _; rfl) : PE X (.ListComp elt [⟨tg, iter, ifs, 0⟩] scope pos) (tLC wi g tt te src) := by
  intro pins s σ H Q I h
  rw [eval_ListComp]
  refine wpAny_comprehension_free (use := none) rfl hs (closureFor_clOf (c.cells I.ok)) c.kind c.names (thn (hi pins s σ H _ I h) fun v s1 h1 => thn h1 fun itv s2 h2 => ?_)
  obtain ⟨it, fp, tn, J, H2, rfl, I2, T, st2, f2, hW⟩ := h2
  refine comp_block (RR := fun acc C => compPost (model X.prog X.w) X.A X.xe none (EP X pins σ Q) acc C) (Q := Q) hc c hsrc I2 T st2 f2 (hg fp) (ht fp) (he fp) hW ?_
  intro D s3 H3 σ' H' s' I3 f3 J' q
  obtain ⟨m, hn, _⟩ := J'.loc
  exact ⟨m, hn, fun h' sb => ⟨.ref D, H', comp_back I3 f3 J' sb, rfl, q⟩⟩
/-- x = [..]: the store is done ahead of the block's names -/
def tAsgLC (wi : TI) (g : TG) (tt : TT) (te : TE) (src : List (Option Nat)) (i : Nat) : TS := fun D σ H => tLC wi g tt te src σ H fun v H' => D.nx (σ.set i (some v)) H'
theorem ps_setlc {i : Nat} {x : Str} {px spos : Pos} (hc : X.calm = true) (hN : X.N.Nodup) (hi' : X.N[i]? = some x) (hx : Loc X.env.scope x) (c : CompOk X scope) (hsrc : SrcOk scope X.N src NC) (hi : PI X tg iter wi)
    (hg : ∀ ex s H, PG (cxC X scope NC ex s H) tg g) (ht : ∀ ex s H, PTs (cxC X scope NC ex s H) ifs tt) (he : ∀ ex s H, PE (cxC X scope NC ex s H) elt te)
    (hsw : swapsWith (.ListComp elt [⟨tg, iter, ifs, 0⟩] scope pos) (some (.Name x px)) spos.line X.env = pure true)
    (hf : X.fn x = true ∨ X.env.scope.names.lookup x = some .local := by first | exact .inl rfl | exact .inr rfl | assumption)
    (hs : ∀ x, foldedSetIterable iter X.env x = pure x := by intro _; rfl) : PS X (.Assign [.Name x px] (.ListComp elt [⟨tg, iter, ifs, 0⟩] scope pos) spos) (tAsgLC wi g tt te src i) := by
  intro pins s σ H D I h
  rw [exec_Assign_Name_used _ _ _ _ hsw]
  refine wpAny_bind (wpAny_standAt (wpAny_bind ?_))
  show wpAny _ X.A (do let _ ← comprehension (.ListComp elt [⟨tg, iter, ifs, 0⟩] scope pos) scope X.env _ (newList []) false (eval iter X.env) (some (assign (.Name x px) X.env))) _ _ s
  refine wpAny_bind (wpAny_mono (wpAny_comprehension_free (use := some (assign (.Name x px) X.env)) (Q := fun _ s' => SP X pins D .next s') rfl hs (closureFor_clOf (c.cells I.ok)) c.kind c.names
    (thn (hi pins s σ H _ I h) fun v s1 h1 => thn h1 fun itv s2 h2 => ?_)) (fun _ s' hq => wpAny_pure (wpAny_pure hq)) fun _ _ e => e)
  obtain ⟨it, fp, tn, J, H2, rfl, I2, T, st2, f2, hW⟩ := h2
  refine comp_block (RR := fun acc C => compPost (model X.prog X.w) X.A X.xe (some (assign (.Name x px) X.env)) (fun _ s' => SP X pins D .next s') acc C) (Q := fun v H' => D.nx (σ.set i (some v)) H') hc c hsrc I2 T st2 f2 (hg fp) (ht fp) (he fp) hW ?_
  intro a s3 H3 σ' H' s' I3 f3 J' q
  obtain ⟨m, hn, _⟩ := J'.loc
  have IX : Inv X pins σ H' s' := comp_back I3 f3 J' (.refl ..)
  show wpAny _ X.A (assign (.Name x px) X.env (.ref a)) _ _ _
  have nL : s3.heap.objs.size ≠ X.env.locals := Nat.ne_of_gt I3.lt
  have nc : ∀ y d, X.env.cells.lookup y = some d → d ≠ s3.heap.objs.size := fun y d e z => by
    obtain ⟨v, hv⟩ := I3.cell y d e
    have := hv.lt
    rw [z] at this
    exact absurd this (Nat.lt_irrefl _)
  have np : ∀ p ∈ X.pn ++ pins, p.1 ≠ s3.heap.objs.size := fun p hp z => by
    have := Heap.lt_size (I3.pin p hp).1
    rw [z] at this
    exact absurd this (Nat.lt_irrefl _)
  obtain ⟨oC, es, ep, hoC, hdC, rC⟩ := id hn
  have hHC : H' s3.heap.objs.size = none := J'.free
  have IP : Inv X ((s3.heap.objs.size, oC) :: pins) σ H' s' := IX.pins_of fun p hp => by
    rcases List.mem_cons.mp hp with z | z
    · rw [z]
      exact ⟨hoC, hHC, nL, I3.nofs (Nat.le_refl _), fun v w => by rw [hdC] at w; cases w⟩
    · exact IX.pin p (List.mem_append_right _ z)
  refine wpAny_assign_Name (store_ok (x := x) IP hN hi' hx (v := .ref a) rfl (fun s5 I5 => ?_) hf)
  have hC5 := (I5.pin (s3.heap.objs.size, oC) (List.mem_append_right _ List.mem_cons_self)).1
  refine ⟨m, ⟨oC, es, ep, hC5, hdC, rC⟩, fun h6 sb => ?_⟩
  have I5' : Inv X pins (σ.set i (some (.ref a))) H' s5 := I5.pins_of fun p hp => I5.pin p (List.mem_append_right _ (List.mem_cons_of_mem _ hp))
  exact ⟨_, H', I5'.turned (t' := s5.toks) (it := s3.heap.objs.size) (fun b o hb e => sb.extBut b o hb e) hHC nL (.inr I3.sz) nc np, q⟩
end
/-! ### the forms one uses -/
end L2

set_option Elab.async false
set_option linter.all false
set_option maxRecDepth 100000
namespace L2
open PySem PySem.Spec PyProof.Rows
/-! ### records that turn, and a tuple laid -/
section
variable {X : Cx} {pins : List (Addr × Obj)} {σ : St} {H : Hp} {s : Shared} {h' : Heap} {fp : List Addr}
theorem Inv.turnedL {t' : Nat} (I : Inv X pins σ H s) (hf : ∀ b ∈ fp, FpOk X pins H b) (k : ∀ b o, b ∉ fp → s.heap.get? b = some o → h'.get? b = some o) : Inv X pins σ H { s with heap := h', toks := t' } := by
  refine I.step (g' := s.gens) (d' := s.drawn) (ch := fp) (fun b hb => ?_) (fun b o _ _ hc e _ => k b o hc e) (fun b o _ _ hc e _ => ⟨o.slots, k b o hc e⟩) (fun _ _ _ _ n => n)
    (fun b o hc e => ⟨o, k b o hc e⟩) (fun _ _ e => e) (fun _ _ _ e => e) (fun b ps e => ⟨#[], by rw [e]; simp⟩) (fun m hm => ?_) (fun b u e => ?_) I.bare
  · obtain ⟨_, f1, _, f3, f4, f5⟩ := hf b hb
    exact ⟨f3, f1, f4, f5⟩
  · obtain ⟨o, es, ep, ho, r⟩ := hm
    exact ⟨o, es, ep, k _ o (fun z => (hf _ z).2.1 rfl) ho, r⟩
  · have nf : ∀ b u, H b = some u → b ∉ fp := fun b u e z => by rw [(hf b z).1] at e; cases e
    refine (I.hok b u e).stay (fun c v hc q => k c v ?_ q) (fun _ q => q) fun _ _ q => q
    rcases hc with z | z
    · rw [z]; exact nf b u e
    · exact nf c _ z
theorem Inv.turnLay {t' : Nat} {t : Addr} {o : HO} (I : Inv X pins σ H s) (hf : ∀ b ∈ fp, FpOk X pins H b) (k : ∀ b o, b ∉ fp → s.heap.get? b = some o → h'.get? b = some o) (ht : s.heap.objs.size ≤ t)
    (new : ObjOk X.prog X.w (upd H t o) h' t o) : Inv X pins σ (upd H t o) { s with heap := h', toks := t' } := by
  have nt : H t = none := I.hok.fresh ht
  have up : ∀ b u, H b = some u → upd H t o b = some u := fun b u e => by rw [upd_ne (ne_of_none e nt)]; exact e
  refine I.step (g' := s.gens) (d' := s.drawn) (ch := fp) (fun b hb => ?_) (fun b o _ _ hc e _ => k b o hc e) (fun b o _ _ hc e _ => ⟨o.slots, k b o hc e⟩) (fun b o _ e n => ?_)
    (fun b o hc e => ⟨o, k b o hc e⟩) (fun b xs e => up b _ e) (fun b _ _ e => up b _ e) (fun b ps e => ⟨#[], by rw [up b _ e]; simp⟩) (fun m hm => ?_) (fun b u e => ?_) I.bare
  · obtain ⟨_, f1, _, f3, f4, f5⟩ := hf b hb
    exact ⟨f3, f1, f4, f5⟩
  · rw [upd_ne (Nat.ne_of_lt (Nat.lt_of_lt_of_le (Heap.lt_size e) ht))]; exact n
  · obtain ⟨o, es, ep, ho, r⟩ := hm
    exact ⟨o, es, ep, k _ o (fun z => (hf _ z).2.1 rfl) ho, r⟩
  · by_cases hb : b = t
    · subst hb
      rw [upd_same] at e
      cases e
      exact new
    · rw [upd_ne hb] at e
      have nf : ∀ b u, H b = some u → b ∉ fp := fun b u e z => by rw [(hf b z).1] at e; cases e
      refine (I.hok b u e).stay (fun c v hc q => k c v ?_ q) (fun b' q => up b' _ q) fun b' _ q => up b' _ q
      rcases hc with z | z
      · rw [z]; exact nf b u e
      · exact nf c _ z
end
/-! ### enumerate of a list, unpacked -/
def Ite (K : PySem.W.Frag) (a : Addr) : It :=
  ⟨fun i H => ∃ xs x, SqL K H a xs ∧ xs[i]? = some x, fun i H y H' => ∃ t x, y = .ref t ∧ H t = none ∧ H' = upd H t (.tup [.int i, x]) ∧ ∀ xs, SqL K H a xs → xs[i]? = some x, fun i H => ∃ xs, SqL K H a xs ∧ xs.length ≤ i⟩
theorem isTup_pair {h : Heap} {t : Addr} {u v : Value} (e : h.get? t = some { cls := .type "tuple", data := .seq #[u, v] }) : IsTup h t [u, v].toArray := ⟨_, e, rfl, _, rfl⟩
theorem turn_enum {P : Program} {w : World} {K : PySem.W.Frag} {es : List Expr} {k1} {tp : Pos} (a e it : Addr) (ne : e ≠ it) :
    Turn P w K (.Tuple es k1 tp) (Ite K a) [e, it] e (fun i h => (∃ old, IsEnum h e it i old) ∧ h.IsListIter it a i) where
  mem := by simp
  obj := fun i h st b hb => by
    obtain ⟨⟨old, he⟩, o, e2, c, d⟩ := st
    rcases List.mem_cons.mp hb with z | z
    · subst z
      exact ⟨_, he, fun v w => by cases w⟩
    · have z' : b = it := by simpa using z
      subst z'
      exact ⟨o, e2, fun v z => by rw [d] at z; cases z⟩
  keep := fun i h h' st k => by
    obtain ⟨⟨old, he⟩, st2⟩ := st
    exact ⟨⟨old, k e (by simp) _ he⟩, st2.at fun o q => k it (by simp) o q⟩
  item := by
    intro X hP hw hK hc i pins s σ H E I hf st hg
    subst hP hw hK
    obtain ⟨xs, x, hq, hx⟩ := hg
    obtain ⟨its, rv, p, hz⟩ := I.list hq
    obtain ⟨u, hu, ru⟩ := rv.get hx
    obtain ⟨⟨old, he⟩, hit⟩ := st
    refine wpAny_pyNext_enum_item he hit p.isList (x := u) (by simpa using hu) ne fun h' he' hit' ht' hsz' kk => ?_
    have k2 : ∀ b o, b ∉ [e, it] → s.heap.get? b = some o → h'.get? b = some o := fun b o hb q => kk b o (fun z => hb (by simp [z])) (fun z => hb (by simp [z])) q
    have I1 : Inv X pins σ (upd H s.heap.objs.size (.tup [.int i, x])) { s with heap := h', toks := s.toks + 1 } :=
      I.turnLay hf k2 (Nat.le_refl _) ⟨by show 2 ≤ sizeLine; decide, [.int i s.toks, u], .cons ⟨_, rfl⟩ (.cons ru .nil), isTup_pair ht'⟩
    refine ⟨_, rfl, wpAny_letOwnedTupleGo_enum he' fun h2 he2 sb => ?_⟩
    have lt : ∀ b ∈ [e, it], b < s.heap.objs.size := fun b hb => by
      rcases List.mem_cons.mp hb with z | z
      · rw [z]; exact Heap.lt_size he
      · obtain ⟨o, e2, _⟩ := hit
        have z' : b = it := by simpa using z
        rw [z']; exact Heap.lt_size e2
    have hf1 : ∀ b ∈ [e, it], FpOk X pins (upd H s.heap.objs.size (.tup [.int i, x])) b := fun b hb => ⟨by rw [upd_ne (Nat.ne_of_lt (lt b hb))]; exact (hf b hb).1, (hf b hb).2⟩
    refine ⟨.ref s.heap.objs.size, _, I1.turnedL (t' := s.toks + 1) hf1 (fun b o hb q => sb.extBut b o (fun z => hb (by simp [z])) q), rfl, ⟨_, x, rfl, I.hok.fresh (Nat.le_refl _), rfl, fun ys hy => by rw [I.list_inj hy hq]; exact hx⟩, ⟨⟨u, ?_⟩, hit'.extBut sb.extBut (Ne.symm ne)⟩, fun b hb => (hf1 b hb).1⟩
    have z : ((i + 1 : Nat) : Int) = (i : Int) + 1 := by omega
    rw [z]
    exact he2
  done := by
    intro X hP hw hK hc i pins s σ H E I hf st hg
    subst hP hw hK
    obtain ⟨xs, hq, hx⟩ := hg
    obtain ⟨its, rv, p, hz⟩ := I.list hq
    have hl := rv.length
    obtain ⟨⟨old, he⟩, hit⟩ := st
    exact wpAny_pyNext_enum_end (I.ok.hd hc) he hit p.isList (by simp; omega) fun h' eb => ⟨rfl, I.turnedL (t' := s.toks) hf fun b o hb q => eb b o (fun z => hb (by simp [z])) q⟩
  self := fun _ _ _ _ _ st h => by
    obtain ⟨⟨old, he⟩, _⟩ := st
    exact wpAny_pyIter_enum he h
section
variable {X : Cx}
def iEnum (K : PySem.W.Frag) (ta : TA) : TI := fun σ H R => ta σ H fun vs H1 => ∃ a, vs = [.ref a] ∧ (∃ xs, H1 a = some (.lst xs)) ∧ R (Ite K a) H1
theorem pi_enum {a : Expr} {ta : TA} {p pos : Pos} {es : List Expr} {k1} {tp : Pos} (hg : Gl X "enumerate") (hm : X.mg "enumerate" = none) (ha : PA X [a] ta) (hs : starEach [a] X.env = [(false, eval a X.env)] := by rfl) :
    PI X (.Tuple es k1 tp) (.Call (.Name "enumerate" p) [a] [] pos) (iEnum X.K ta) := by
  intro pins s σ H R I h
  refine Call_ (ld_blt I hg hm boot_enumerate (PyProof.Rows.callWith_type1 (thn (ha pos pins s σ H _ I h) fun us s1 ⟨vs, H1, I1, r1, q1⟩ => ?_) hs rfl))
  obtain ⟨l, e, ⟨xs, hl⟩, q⟩ := q1
  subst e
  obtain ⟨u, rfl, ru⟩ := r1.one
  cases ru
  obtain ⟨z, its, n, rv, hlen, e⟩ := I1.lstM hl
  refine call_enumerate_1 e fun h' he hit hsz kk => ?_
  refine wpAny_pyIter_enum he ?_
  have hne : s1.heap.objs.size + 1 ≠ s1.heap.objs.size := Nat.succ_ne_self _
  refine ⟨s1.heap.objs.size + 1, [s1.heap.objs.size + 1, s1.heap.objs.size], _, _, H1, rfl, I1.kept (t' := s1.toks) kk, turn_enum l _ _ hne, ⟨⟨_, he⟩, hit⟩, fun b hb => ?_, q⟩
  have hb' : s1.heap.objs.size ≤ b := by
    rcases List.mem_cons.mp hb with z | z
    · rw [z]; exact Nat.le_succ _
    · have z' : b = s1.heap.objs.size := by simpa using z
      rw [z']; exact Nat.le_refl _
  exact I1.fpOk hb' (I1.hok.fresh hb')
end
end L2

set_option Elab.async false
set_option linter.all false
set_option maxRecDepth 100000
namespace L2
open PySem PySem.Spec PyProof.Rows
def Itz (a b : Addr) : It :=
  ⟨fun i H => ∃ xs ys x y, H a = some (.lst xs) ∧ H b = some (.lst ys) ∧ xs[i]? = some x ∧ ys[i]? = some y,
   fun i H v H' => ∃ t x y, v = .ref t ∧ H t = none ∧ H' = upd H t (.tup [x, y]) ∧ (∀ xs, H a = some (.lst xs) → xs[i]? = some x) ∧ ∀ ys, H b = some (.lst ys) → ys[i]? = some y,
   fun i H => ∃ xs ys, H a = some (.lst xs) ∧ H b = some (.lst ys) ∧ (xs.length ≤ i ∨ ys.length ≤ i)⟩
structure ZN (z TI TO i1 i2 : Addr) : Prop where
  TIz : TI ≠ z
  TOz : TO ≠ z
  i1z : i1 ≠ z
  i2z : i2 ≠ z
  TITO : TI ≠ TO
  TIi1 : TI ≠ i1
  TIi2 : TI ≠ i2
  TOi1 : TO ≠ i1
  TOi2 : TO ≠ i2
  i12 : i1 ≠ i2
theorem turn_zip {P : Program} {w : World} {K : PySem.W.Frag} {es : List Expr} {k1} {tp : Pos} (l1 l2 z TI TO i1 i2 : Addr) (N : ZN z TI TO i1 i2) :
    Turn P w K (.Tuple es k1 tp) (Itz l1 l2) [z, TO, i1, i2, TI] z (fun i h => IsZip h z TI TO .none ∧ IsPair h TI (.ref i1) (.ref i2) ∧ (∃ a b, IsPair h TO a b) ∧ h.IsListIter i1 l1 i ∧ h.IsListIter i2 l2 i) where
  mem := by simp
  obj := fun i h st b hb => by
    obtain ⟨hz, hTI, ⟨a, c, hTO⟩, ⟨o1, e1, _, d1⟩, ⟨o2, e2, _, d2⟩⟩ := st
    simp only [List.mem_cons, List.not_mem_nil, or_false] at hb
    rcases hb with rfl | rfl | rfl | rfl | rfl
    · exact ⟨_, hz, fun v w => by cases w⟩
    · exact ⟨_, hTO, fun v w => by cases w⟩
    · exact ⟨o1, e1, fun v z => by rw [d1] at z; cases z⟩
    · exact ⟨o2, e2, fun v z => by rw [d2] at z; cases z⟩
    · exact ⟨_, hTI, fun v w => by cases w⟩
  keep := fun i h h' st k => by
    obtain ⟨hz, hTI, ⟨a, c, hTO⟩, h1, h2⟩ := st
    exact ⟨k z (by simp) _ hz, k TI (by simp) _ hTI, ⟨a, c, k TO (by simp) _ hTO⟩, h1.at fun o q => k i1 (by simp) o q, h2.at fun o q => k i2 (by simp) o q⟩
  item := by
    intro X hP hw hK hc i pins s σ H E I hf st hg
    subst hP hw hK
    obtain ⟨xs, ys, x, y, hq1, hq2, hx, hy⟩ := hg
    obtain ⟨its1, rv1, p1, hz1⟩ := I.list (SqL.of hq1)
    obtain ⟨its2, rv2, p2, hz2⟩ := I.list (SqL.of hq2)
    obtain ⟨u1, hu1, ru1⟩ := rv1.get hx
    obtain ⟨u2, hu2, ru2⟩ := rv2.get hy
    obtain ⟨hz, hTI, ⟨a, c, hTO⟩, h1, h2⟩ := st
    have hi2 := h2
    have hyy := hy
    have nf : ∀ l u, H l = some u → ∀ b ∈ [z, TO, i1, i2, TI], l ≠ b := fun l u e b hb q => by rw [q, (hf b hb).1] at e; cases e
    have D : ZipApart z TI TO i1 i2 l1 l2 := ⟨N.TIz, N.TOz, N.i1z, N.i2z, N.TITO, N.TIi1, N.TIi2, N.TOi1, N.TOi2, N.i12, nf _ _ hq1 z (by simp), nf _ _ hq1 TO (by simp), nf _ _ hq1 i1 (by simp), nf _ _ hq1 i2 (by simp),
      nf _ _ hq2 z (by simp), nf _ _ hq2 TO (by simp), nf _ _ hq2 i1 (by simp), nf _ _ hq2 i2 (by simp)⟩
    refine wpAny_pyNext_zip_item D hz hTI hTO h1 h2 p1.isList p2.isList (x := u1) (y := u2) (by simpa using hu1) (by simpa using hu2) fun h' hz' hTO' h1' h2' ht' hsz' kk => ?_
    have k2 : ∀ b o, b ∉ [z, TO, i1, i2, TI] → s.heap.get? b = some o → h'.get? b = some o := fun b o hb q => kk b o (fun z => hb (by simp [z])) (fun z => hb (by simp [z])) (fun z => hb (by simp [z])) (fun z => hb (by simp [z])) q
    have I1 : Inv X pins σ (upd H s.heap.objs.size (.tup [x, y])) { s with heap := h', toks := s.toks } :=
      I.turnLay hf k2 (Nat.le_refl _) ⟨by show 2 ≤ sizeLine; decide, [u1, u2], .cons ru1 (.cons ru2 .nil), isTup_pair ht'⟩
    refine ⟨_, rfl, wpAny_letOwnedTupleGo_zip hz' fun h2 hz2 sb => ?_⟩
    have lt : ∀ b ∈ [z, TO, i1, i2, TI], b < s.heap.objs.size := fun b hb => by
      simp only [List.mem_cons, List.not_mem_nil, or_false] at hb
      rcases hb with rfl | rfl | rfl | rfl | rfl
      · exact Heap.lt_size hz
      · exact Heap.lt_size hTO
      · obtain ⟨o, e, _⟩ := h1; exact Heap.lt_size e
      · obtain ⟨o, e, _⟩ := hi2; exact Heap.lt_size e
      · exact Heap.lt_size hTI
    have hf1 : ∀ b ∈ [z, TO, i1, i2, TI], FpOk X pins (upd H s.heap.objs.size (.tup [x, y])) b := fun b hb => ⟨by rw [upd_ne (Nat.ne_of_lt (lt b hb))]; exact (hf b hb).1, (hf b hb).2⟩
    have hTI1 : IsPair h' TI (.ref i1) (.ref i2) := kk TI _ N.TIz N.TITO N.TIi1 N.TIi2 hTI
    refine ⟨.ref s.heap.objs.size, _, I1.turnedL (t' := s.toks) hf1 (fun b o hb q => sb.extBut b o (fun z => hb (by simp [z])) q), rfl, ⟨_, x, y, rfl, I.hok.fresh (Nat.le_refl _), rfl, fun ys hy => ?_, fun ys hy => ?_⟩,
      ⟨hz2, sb.extBut _ _ N.TIz hTI1, ⟨_, _, sb.extBut _ _ N.TOz hTO'⟩, h1'.extBut sb.extBut N.i1z, h2'.extBut sb.extBut N.i2z⟩, fun b hb => (hf1 b hb).1⟩
    · rw [hq1] at hy; cases hy; exact hx
    · rw [hq2] at hy; cases hy; exact hyy
  done := by
    intro X hP hw hK hc i pins s σ H E I hf st hg
    subst hP hw hK
    obtain ⟨xs, ys, hq1, hq2, hx⟩ := hg
    obtain ⟨its1, rv1, p1, hz1⟩ := I.list (SqL.of hq1)
    obtain ⟨its2, rv2, p2, hz2⟩ := I.list (SqL.of hq2)
    have hl1 := rv1.length
    have hl2 := rv2.length
    obtain ⟨hz, hTI, ⟨a, c, hTO⟩, h1, h2⟩ := st
    have nf : ∀ l u, H l = some u → ∀ b ∈ [z, TO, i1, i2, TI], l ≠ b := fun l u e b hb q => by rw [q, (hf b hb).1] at e; cases e
    have D : ZipApart z TI TO i1 i2 l1 l2 := ⟨N.TIz, N.TOz, N.i1z, N.i2z, N.TITO, N.TIi1, N.TIi2, N.TOi1, N.TOi2, N.i12, nf _ _ hq1 z (by simp), nf _ _ hq1 TO (by simp), nf _ _ hq1 i1 (by simp), nf _ _ hq1 i2 (by simp),
      nf _ _ hq2 z (by simp), nf _ _ hq2 TO (by simp), nf _ _ hq2 i1 (by simp), nf _ _ hq2 i2 (by simp)⟩
    refine wpAny_pyNext_zip_end (I.ok.hd hc) D hz hTI hTO h1 h2 p1.isList p2.isList ?_ fun h' kk => ⟨rfl, I.turnedL (t' := s.toks) hf fun b o hb q => kk b o (fun z => hb (by simp [z])) (fun z => hb (by simp [z])) (fun z => hb (by simp [z])) (fun z => hb (by simp [z])) q⟩
    rcases hx with hx | hx
    · left; simp; omega
    · right; simp; omega
  self := fun _ _ _ _ _ st h => wpAny_pyIter_zip st.1 h
section
variable {X : Cx}
def iZip (ta : TA) : TI := fun σ H R => ta σ H fun vs H1 => ∃ a b xs ys, vs = [.ref a, .ref b] ∧ H1 a = some (.lst xs) ∧ H1 b = some (.lst ys) ∧ R (Itz a b) H1
theorem pi_zip {a b : Expr} {ta : TA} {p pos : Pos} {es : List Expr} {k1} {tp : Pos} (hg : Gl X "zip") (hm : X.mg "zip" = none) (ha : PA X [a, b] ta) (hs : starEach [a, b] X.env = [(false, eval a X.env), (false, eval b X.env)] := by rfl) (hs2 : starEach [b] X.env = [(false, eval b X.env)] := by rfl) :
    PI X (.Tuple es k1 tp) (.Call (.Name "zip" p) [a, b] [] pos) (iZip ta) := by
  intro pins s σ H R I h
  refine Call_ (ld_blt I hg hm (show bootBuiltins "zip" = some (.type "zip") by decide +kernel) (PyProof.Rows.callWith_type1 (thn (ha pos pins s σ H _ I h) fun us s1 ⟨vs, H1, I1, r1, q1⟩ => ?_) (by rw [hs, hs2]) (by rw [hs2]; rfl)))
  obtain ⟨l1, l2, xs, ys, e, hl1, hl2, q⟩ := q1
  subst e
  obtain ⟨u1, u2, rfl, ru1, ru2⟩ := r1.two
  cases ru1
  cases ru2
  obtain ⟨its1, rv1, p1, hz1⟩ := I1.list (SqL.of hl1)
  obtain ⟨its2, rv2, p2, hz2⟩ := I1.list (SqL.of hl2)
  refine call_zip_2 p1.isList p2.isList fun h' hz hTI hTO h1 h2 hsz kk => ?_
  refine wpAny_pyIter_zip hz ?_
  refine ⟨_, _, _, _, H1, rfl, I1.kept (t' := s1.toks) kk, turn_zip l1 l2 (s1.heap.objs.size + 4) (s1.heap.objs.size + 2) (s1.heap.objs.size + 3) s1.heap.objs.size (s1.heap.objs.size + 1) ?_, ⟨hz, hTI, ⟨_, _, hTO⟩, h1, h2⟩, fun b hb => ?_, q⟩
  · generalize s1.heap.objs.size = n
    exact ⟨show n + 2 ≠ n + 4 by omega, show n + 3 ≠ n + 4 by omega, show n ≠ n + 4 by omega, show n + 1 ≠ n + 4 by omega, show n + 2 ≠ n + 3 by omega, show n + 2 ≠ n by omega, show n + 2 ≠ n + 1 by omega, show n + 3 ≠ n by omega, show n + 3 ≠ n + 1 by omega, show n ≠ n + 1 by omega⟩
  · have hb' : s1.heap.objs.size ≤ b := by
      generalize s1.heap.objs.size = n at hb
      simp only [List.mem_cons, List.not_mem_nil, or_false] at hb
      rcases hb with z | z | z | z | z <;> (rw [z]; show n ≤ _; omega)
    exact I1.fpOk hb' (I1.hok.fresh hb')
end
end L2

namespace Wb
abbrev W := List (List Nat)
def row (w : W) (p : Nat) : List Nat := w.getD p []
inductive Reach (w : W) : Nat → Nat → Prop
  | refl (p) : Reach w p p
  | step {p q r} : Reach w p q → r ∈ row w q → Reach w p r
structure Good (w : W) : Prop where
  rng : ∀ p q, q ∈ row w p → q < w.length
  irr : ∀ p, p ∉ row w p
  nod : ∀ p, (row w p).Nodup
  sym : ∀ p q, q ∈ row w p → p ∈ row w q
  con : ∀ p, p < w.length → Reach w 0 p
theorem row_get {w : W} {p : Nat} (h : p < w.length) : w[p]? = some (row w p) := by
  unfold row; rw [List.getD_eq_getElem?_getD, List.getElem?_eq_getElem h]; rfl
theorem row_of {w : W} {p : Nat} {r : List Nat} (h : w[p]? = some r) : row w p = r := by
  unfold row; rw [List.getD_eq_getElem?_getD, h]; rfl
theorem Reach.trans {w : W} {p q r : Nat} (h : Reach w p q) (h' : Reach w q r) : Reach w p r := by
  induction h' with
  | refl => exact h
  | step _ hr ih => exact .step ih hr
theorem Reach.symm {w : W} (hs : ∀ p q, q ∈ row w p → p ∈ row w q) {p q : Nat} (h : Reach w p q) : Reach w q p := by
  induction h with
  | refl => exact .refl _
  | step _ hr ih => exact (Reach.step (.refl _) (hs _ _ hr)).trans ih
/-! insertion -/
/-! a row set -/
/-! darts, and the round from one of them -/
theorem len_le_of_subset {α : Type} [DecidableEq α] : ∀ {l m : List α}, l.Nodup → (∀ x ∈ l, x ∈ m) → l.length ≤ m.length
  | [], _, _, _ => Nat.zero_le _
  | a :: r, m, nd, h => by
    have nd' := List.nodup_cons.mp nd
    have am := h a List.mem_cons_self
    have ih := len_le_of_subset (l := r) (m := m.erase a) nd'.2 fun x hx => (List.mem_erase_of_ne (fun (e : x = a) => nd'.1 (by rw [← e]; exact hx))).mpr (h x (List.mem_cons_of_mem _ hx))
    rw [List.length_erase_of_mem am] at ih
    have := List.length_pos_of_mem am
    simp only [List.length_cons]; omega
/-! what is reached from 0 -/
/-- a set of points that has 0 and is closed along ties is all of them -/
theorem closed_all {w : W} (g : Good w) {S : Nat → Prop} (h0 : S 0) (hc : ∀ p q, S p → q ∈ row w p → S q) : ∀ p, p < w.length → S p := fun p hp => by
  have : ∀ {a b}, Reach w a b → S a → S b := fun {a b} h ha => by
    induction h with
    | refl => exact ha
    | step _ hr ih => exact hc _ _ ih hr
  exact this (g.con p hp) h0
/-! the ties, sorted -/
end Wb

set_option Elab.async false
set_option linter.all false
set_option maxRecDepth 100000
namespace L2
open PySem PySem.Spec PyProof.Rows
section
variable {X : Cx}
/-- xs.index(y): the first place at which it stands -/
def rIndex (K : PySem.W.Frag) : V → List V → Hp → VK → Prop := fun x vs H Q => ∃ (l : Addr) (xs : List V) (y : V) (j : Nat) (z : V), x = .ref l ∧ vs = [y] ∧ H l = some (.lst xs) ∧ flatV y = true ∧ xs.all flatV = true ∧ xs[j]? = some z ∧ eqV z y = true ∧
  (∀ (m : Nat) z, m < j → xs[m]? = some z → eqV z y = false) ∧ Q (.int j) H
theorem mt_index : MtM X "list.index" (rIndex X.K) := by
  intro pins s σ H x vs v us Q I rx rv h
  obtain ⟨l, xs, y, j, z, rfl, rfl, hH, fy, fs, hz, ez, hno, q⟩ := h
  cases rx
  obtain ⟨u, rfl, ru⟩ := rv.one
  obtain ⟨hsz, its, n, r, hl, e⟩ := I.lstM hH
  obtain ⟨w, hw, rw'⟩ := r.get hz
  have hj : j < its.toArray.size := by
    obtain ⟨h1, _⟩ := List.getElem?_eq_some_iff.mp hw
    simpa using h1
  have flat : ∀ (m : Nat) z, xs[m]? = some z → flatV z = true := fun m z h => (List.all_eq_true.mp fs) z (List.mem_of_getElem? h)
  have hwj : its.toArray[j] = w := by
    obtain ⟨h1, h2⟩ := List.getElem?_eq_some_iff.mp hw
    simpa using h2
  have hlt := line63
  have hj' : j < xs.length := by
    obtain ⟨h1, _⟩ := List.getElem?_eq_some_iff.mp hz
    exact h1
  refine call_meets F.slot_list_index ⟨_, e, rfl⟩ F.entry_list_index (F.args_list_index_2 _ _) (SeqAt.list_indexAt l its.toArray n none #[] u (eqU y) j hj (by omega) ?_ ?_) ⟨e, fun w hw => mem_eqAt ru fy r fs w (by simpa using hw), ?_⟩
  · rw [hwj, eqU_of rw' (flat j z hz)]; exact ez
  · intro m hm hmj
    have hm' : m < its.length := by simpa using hm
    obtain ⟨zm, hzm⟩ : ∃ zm, xs[m]? = some zm := ⟨_, List.getElem?_eq_getElem (by omega)⟩
    obtain ⟨wm, hwm, rwm⟩ := r.get hzm
    have ewm : its.toArray[m] = wm := by
      obtain ⟨h1, h2⟩ := List.getElem?_eq_some_iff.mp hwm
      simpa using h2
    rw [ewm, eqU_of rwm (flat m zm hzm)]
    exact hno m zm hmj hzm
  · exact ⟨.int j, H, I.tok _, ⟨_, rfl⟩, q⟩
end
end L2

set_option Elab.async false
set_option linter.all false
set_option maxRecDepth 100000
namespace L2
open PySem PySem.Spec PyProof.Rows
/-! ### == and != of data at any depth -/
mutual
inductive Dp (K : PySem.W.Frag) (H : Hp) : V → PyData → Prop
  | non : Dp K H .non .none
  | bl (b : Bool) : Dp K H (.bl b) (.bool b)
  | int (i : Int) : Dp K H (.int i) (.int i)
  | str (x : Str) (h : PyData.strOk x = true) : Dp K H (.str x) (.str x)
  | lst {a : Addr} {xs : List V} {ds : List PyData} : SqL K H a xs → DpAll K H xs ds → Dp K H (.ref a) (.list ds)
  | tup {a : Addr} {xs : List V} {ds : List PyData} : SqT K H a xs → DpAll K H xs ds → Dp K H (.ref a) (.tuple ds)
inductive DpAll (K : PySem.W.Frag) (H : Hp) : List V → List PyData → Prop
  | nil : DpAll K H [] []
  | cons {v : V} {vs : List V} {d : PyData} {ds : List PyData} : Dp K H v d → DpAll K H vs ds → DpAll K H (v :: vs) (d :: ds)
end
section
variable {X : Cx} {pins : List (Addr × Obj)} {σ : St} {H : Hp} {s : Shared}
mutual
theorem Dp.reads (I : Inv X pins σ H s) : ∀ {v : V} {d : PyData} {u : Value}, Dp X.K H v d → RelV v u → (∃ as, Reads s.heap u d as) ∧ d.canLay0 = true
  | _, _, _, .non, r => by cases r; exact ⟨⟨_, .none⟩, rfl⟩
  | _, _, _, .bl b, r => by cases r; exact ⟨⟨_, .bool b⟩, rfl⟩
  | _, _, _, .int i, r => by obtain ⟨t, rfl⟩ := r; exact ⟨⟨_, .int i t⟩, rfl⟩
  | _, _, _, .str x h, r => by obtain ⟨t, rfl⟩ := r; exact ⟨⟨_, .str x t⟩, by simpa [PyData.canLay0] using h⟩
  | _, _, _, .lst h a, r => by
    cases r
    obtain ⟨its, rv, pl, hz⟩ := I.list h
    obtain ⟨⟨as, ra⟩, c⟩ := DpAll.reads I a rv
    obtain ⟨o, ho, hc, n, hd⟩ := pl.isList
    exact ⟨⟨_, .list ho hc hd (by simpa using ra)⟩, by simpa [PyData.canLay0] using c⟩
  | _, _, _, .tup h a, r => by
    cases r
    obtain ⟨its, rv, pl, hz⟩ := I.tuple h
    obtain ⟨⟨as, ra⟩, c⟩ := DpAll.reads I a rv
    obtain ⟨o, ho, hc, n, hd⟩ := pl
    exact ⟨⟨_, .tuple ho hc hd (by simpa using ra)⟩, by simpa [PyData.canLay0] using c⟩
theorem DpAll.reads (I : Inv X pins σ H s) : ∀ {vs : List V} {ds : List PyData} {us : List Value}, DpAll X.K H vs ds → Vals vs us → (∃ as, ReadsAll s.heap us ds as) ∧ PyData.canLayAll0 ds = true
  | _, _, _, .nil, .nil => ⟨⟨_, .nil⟩, by simp [PyData.canLayAll0]⟩
  | _, _, _, .cons a as, .cons r rs => by
    obtain ⟨⟨x, h1⟩, c1⟩ := Dp.reads I a r
    obtain ⟨⟨y, h2⟩, c2⟩ := DpAll.reads I as rs
    exact ⟨⟨_, .cons h1 h2⟩, by simp [PyData.canLayAll0, c1, c2]⟩
end
end
section
variable {X : Cx}
def rEqD (K : PySem.W.Frag) : R2 := fun x y H Q => ∃ d e, Dp K H x d ∧ Dp K H y e ∧ d.depth ≤ 64 ∧ Q (.bl (PyData.eqv d e)) H
def rNeD (K : PySem.W.Frag) : R2 := fun x y H Q => ∃ d e, Dp K H x d ∧ Dp K H y e ∧ d.depth ≤ 64 ∧ Q (.bl (!PyData.eqv d e)) H
theorem op_eqD (hu : X.A.units + 64 < cLine) : OpR X (compareOp .Eq) (rEqD X.K) := by
  intro pins s σ H x y v u Q I rx ry h
  obtain ⟨d, e, hd, he, hz, q⟩ := h
  obtain ⟨⟨as, r1⟩, c1⟩ := hd.reads I rx
  obtain ⟨⟨bs, r2⟩, c2⟩ := he.reads I ry
  exact SeqAt.compareEq_reads r1 r2 c1 c2 (by have := Nat.min_le_left d.depth e.depth; omega) ⟨.bl _, H, I, rfl, q⟩
theorem op_neD (hu : X.A.units + 64 < cLine) : OpR X (compareOp .NotEq) (rNeD X.K) := by
  intro pins s σ H x y v u Q I rx ry h
  obtain ⟨d, e, hd, he, hz, q⟩ := h
  obtain ⟨⟨as, r1⟩, c1⟩ := hd.reads I rx
  obtain ⟨⟨bs, r2⟩, c2⟩ := he.reads I ry
  exact SeqAt.compareNe_reads r1 r2 c1 c2 (by have := Nat.min_le_left d.depth e.depth; omega) ⟨.bl _, H, I, rfl, q⟩
end
/-! the data of this law -/
def nD (n : Nat) : PyData := .int n
def rowD (r : List Nat) : PyData := .list (r.map nD)
def tupD (d : Nat × Nat) : PyData := .tuple [.int d.1, .int d.2]
theorem eqvAll_map {α : Type} {f : α → PyData} (hf : ∀ a b, PyData.eqv (f a) (f b) = true ↔ a = b) : ∀ xs ys : List α, PyData.eqvAll (xs.map f) (ys.map f) = true ↔ xs = ys
  | [], [] => by simp [PyData.eqvAll]
  | [], _ :: _ => by simp [PyData.eqvAll]
  | _ :: _, [] => by simp [PyData.eqvAll]
  | a :: xs, b :: ys => by
    have ih := eqvAll_map hf xs ys
    simp [PyData.eqvAll, hf, ih]
theorem eqv_tupD (a b : Nat × Nat) : PyData.eqv (tupD a) (tupD b) = true ↔ a = b := by
  unfold tupD
  obtain ⟨a1, a2⟩ := a
  obtain ⟨b1, b2⟩ := b
  simp [PyData.eqv, PyData.eqvAll]
  omega
theorem depthAll_map {α : Type} {f : α → PyData} {k : Nat} (hf : ∀ a, (f a).depth ≤ k) : ∀ xs : List α, PyData.depthAll (xs.map f) ≤ k
  | [] => by simp [PyData.depthAll]
  | a :: xs => by
    have := hf a
    have ih := depthAll_map hf xs
    simp [PyData.depthAll]
    omega
theorem depth_rowD (a : List Nat) : (rowD a).depth ≤ 2 := by
  unfold rowD
  rw [PyData.depth]
  have := depthAll_map (f := nD) (k := 1) (fun n => by simp [nD, PyData.depth]) a
  omega
theorem depth_tupD (a : Nat × Nat) : (tupD a).depth ≤ 2 := by simp [tupD, PyData.depth, PyData.depthAll]
end L2

set_option Elab.async false
set_option linter.all false
set_option maxRecDepth 100000
namespace L2
open PySem PySem.Spec PyProof.Rows
theorem Vals.of_get : ∀ {xs : List V} {us : List Value}, xs.length = us.length → (∀ (k : Nat) x u, xs[k]? = some x → us[k]? = some u → RelV x u) → Vals xs us
  | [], [], _, _ => .nil
  | [], _ :: _, h, _ => by simp at h
  | _ :: _, [], h, _ => by simp at h
  | x :: xs, u :: us, h, r => .cons (r 0 x u rfl rfl) (Vals.of_get (by simpa using h) fun k y w h1 h2 => r (k + 1) y w (by simpa using h1) (by simpa using h2))
section
variable {X : Cx}
/-- isinstance(x, int) and the like -/
theorem call_isinst : CallR X (.builtin "isinstance") (fun xs H Q => ∃ (x : V) (n : String) (t : Value) (b : Bool), xs = [x, .ty n] ∧ TyOf X.K H x t ∧ PySem.W.kitOne X.K t (.type n) = some b ∧ Q (.bl b) H) := by
  intro pins s σ H xs us Q I rv h
  obtain ⟨x, n, t, b, rfl, ty, e, q⟩ := h
  obtain ⟨u1, u2, rfl, r1, r2⟩ := rv.two
  cases r2
  exact isinst_ok I r1 ty e fun tk => ⟨.bl b, H, I.tok _, rfl, q⟩
/-- sorted(xs), at most 63 ints -/
theorem call_sortedI : CallR X (.builtin "sorted") (fun xs H Q => ∃ (p : Addr) (ns : List Int), xs = [.ref p] ∧ SqL X.K H p (ns.map V.int) ∧ ns.length < 64 ∧ ∀ (q : Addr) (ms : List Int), H q = none → ms.Perm ns → ms.Pairwise (· ≤ ·) → Q (.ref q) (upd H q (.lst (ms.map V.int)))) := by
  intro pins s σ H xs us Q I rv h
  obtain ⟨p, ns, rfl, hp, hz, q⟩ := h
  obtain ⟨u, rfl, ru⟩ := rv.one
  cases ru
  obtain ⟨its, r, pl, _⟩ := I.list hp
  have hl := r.length
  rw [List.length_map] at hl
  refine sorted_ints pl.isList (intsAre_of r) (by omega) fun out ms hI hperm hs => ?_
  obtain ⟨e, he⟩ := sortedAll_at s.heap its out
  have fr : H (s.heap.objs.size + 1) = none := I.hok.fresh (Nat.le_succ _)
  have hml := hperm.length_eq
  have hline : 64 ≤ sizeLine := by decide
  refine ⟨.ref (s.heap.objs.size + 1), _, I.laid (t' := s.toks) (fun b o hb => sortedAll_old hb) (Nat.le_succ _) (o := .lst (ms.map V.int)) ⟨by rw [List.length_map]; omega, out.toList, e, vals_ints hI, by simpa using he⟩, rfl, q _ ms fr hperm hs⟩
/-- list(range(a, b)) -/
def rangeV (i : Int) (n : Nat) : List V := (List.range n).map fun (k : Nat) => V.int (i + (k : Int))
theorem call_list_rng (hc : X.calm = true) : CallR X (.type "list") (fun xs H Q => ∃ (p : Addr) (i j : Int), xs = [.ref p] ∧ H p = some (.rng i j) ∧ -(2 ^ 62) ≤ i ∧ i < 2 ^ 62 ∧ -(2 ^ 62) ≤ j ∧ j < 2 ^ 62 ∧ (j - i).toNat ≤ 1000 ∧
    ∀ q, H q = none → Q (.ref q) (upd H q (.lst (rangeV i (j - i).toNat)))) := by
  intro pins s σ H xs us Q I rv h
  obtain ⟨p, i, j, rfl, hp, h1, h2, h3, h4, hz, q⟩ := h
  obtain ⟨u, rfl, ru⟩ := rv.one
  cases ru
  obtain ⟨t, u, v, e⟩ := (show ObjOk X.prog X.w H s.heap p (.rng i j) from I.hok p _ hp)
  refine call_list_range (n := (j - i).toNat) (I.ok.hd hc) e (small_one h1 h2 h3 h4) ?_ (by omega) fun h' tk acc c kk hS hacc => ?_
  · rw [rangeSize_one]; split <;> omega
  · have hline : 1000 ≤ sizeLine := by decide
    refine ⟨.ref s.heap.objs.size, _, I.laid kk (Nat.le_refl _) (o := .lst (rangeV i (j - i).toNat)) ⟨by unfold rangeV; simp; omega, acc.toList, c, ?_, by simpa using hS⟩, rfl, q _ (I.hok.fresh (Nat.le_refl _))⟩
    refine Vals.of_get (by unfold rangeV; simp [hacc.1]) fun k x w hx hw => ?_
    unfold rangeV at hx
    rw [List.getElem?_map] at hx
    obtain ⟨t', ht'⟩ := hacc.2 k w (by rw [← Array.getElem?_toList]; exact hw)
    have hk : (List.range (j - i).toNat)[k]? = some k := by
      cases q : (List.range (j - i).toNat)[k]? with
      | none => rw [q] at hx; cases hx
      | some z =>
        obtain ⟨a, b⟩ := List.getElem?_eq_some_iff.mp q
        rw [List.getElem_range] at b
        rw [b]
    rw [hk] at hx
    cases hx
    exact ⟨t', by rw [ht', Int.mul_one]⟩
end
end L2

set_option Elab.async false
set_option linter.all false
set_option maxRecDepth 100000
namespace L2
open PySem PySem.Spec PyProof.Rows
theorem compTurn_two0 (elt t0 i0 t1 i1 : Expr) (f0 f1 : List Expr) (scope : Scope) (pos : Pos) (it acc : Value) (env : Env) :
    compTurn (.ListComp elt [⟨t0, i0, f0, 0⟩, ⟨t1, i1, f1, 0⟩] scope pos) 0 it acc env = (do
      standAt i0.pos
      match ← pyNext it with
      | none => pure (.done .next)
      | some v =>
        letOwnedTupleGo t0 it v
        assign t0 env v
        let ok ← forIn f0 true fun c r => if r = true then do let ok ← isTrue c env (eval c env); pure (ForInStep.yield ok) else pure (ForInStep.yield r)
        if ok = true then
          let x ← eval i1 env
          standAt i1.pos
          let x ← foldedSetIterable i1 env x
          let it1 ← holding [x] (pyIter x)
          let _ ← runOwn (.compStart (.ListComp elt [⟨t0, i0, f0, 0⟩, ⟨t1, i1, f1, 0⟩] scope pos) 1 it1 acc env) env
          again (.compLoop (.ListComp elt [⟨t0, i0, f0, 0⟩, ⟨t1, i1, f1, 0⟩] scope pos) 0 it acc env)
        else again (.compLoop (.ListComp elt [⟨t0, i0, f0, 0⟩, ⟨t1, i1, f1, 0⟩] scope pos) 0 it acc env)) := by rfl
theorem compTurn_two1 (elt t0 i0 t1 i1 : Expr) (f0 f1 : List Expr) (scope : Scope) (pos : Pos) (it acc : Value) (env : Env) :
    compTurn (.ListComp elt [⟨t0, i0, f0, 0⟩, ⟨t1, i1, f1, 0⟩] scope pos) 1 it acc env = (do
      standAt i1.pos
      match ← pyNext it with
      | none => pure (.done .next)
      | some v =>
        letOwnedTupleGo t1 it v
        assign t1 env v
        let ok ← forIn f1 true fun c r => if r = true then do let ok ← isTrue c env (eval c env); pure (ForInStep.yield ok) else pure (ForInStep.yield r)
        if ok = true then
          (do let _ ← call (.builtin "list.append") [acc, ← eval elt env])
          again (.compLoop (.ListComp elt [⟨t0, i0, f0, 0⟩, ⟨t1, i1, f1, 0⟩] scope pos) 1 it acc env)
        else again (.compLoop (.ListComp elt [⟨t0, i0, f0, 0⟩, ⟨t1, i1, f1, 0⟩] scope pos) 1 it acc env)) := by rfl

section
variable {X XC : Cx} {elt i0 t0 i1 t1 : Expr} {f0 f1 : List Expr} {scope : Scope} {pos : Pos} {wi wi1 : TI} {g g1 : TG} {tt tt1 : TT} {te : TE} {src : List (Option Nat)} {NC : List Str}
theorem compStart_two1 {it acc : Value} {env : Env} {R : Result → Shared → Prop} {s : Shared} {A : Around}
    (h0 : codeAny (model X.prog X.w) A (.compLoop (.ListComp elt [⟨t0, i0, f0, 0⟩, ⟨t1, i1, f1, 0⟩] scope pos) 1 it acc env) R s)
    (hp : ∀ (Q : Value → Shared → Prop) (E : Value → Shared → Prop), Q it s → wpAny (model X.prog X.w) A (pyIter it) Q E s) :
    codeAny (model X.prog X.w) A (.compStart (.ListComp elt [⟨t0, i0, f0, 0⟩, ⟨t1, i1, f1, 0⟩] scope pos) 1 it acc env) R s := by
  refine codeAny_of_tree ?_
  show wpAny _ _ ((compStart (.ListComp elt [⟨t0, i0, f0, 0⟩, ⟨t1, i1, f1, 0⟩] scope pos) 1 it acc env).onRaise (fun x => do noteFrame x env; standAt theWindowsPlace)) _ _ s
  refine wpAny_notedAt ?_
  unfold compStart
  show wpAny _ _ (ask >>= _) _ _ s
  refine wpAny_bind (wpAny_askSetting (wpAny_ite ?_))
  split
  · first
      | exact wpAny_bind (wpAny_pure (wpAny_pure ⟨rfl, h0⟩))
      | exact wpAny_pure ⟨rfl, h0⟩
  · refine wpAny_bind (wpAny_rule ?_)
    show wpAny _ _ (standAt i1.pos >>= _) _ _ s
    exact wpAny_bind (wpAny_standAt (wpAny_bind (hp _ _ (wpAny_pure ⟨rfl, h0⟩))))
/-- the inner loop, in a context out of which no exception comes -/
theorem comp_inner {pins : List (Addr × Obj)} {s : Shared} {σ : St} {H : Hp} {it D : Addr} {fp : List Addr} {tn : Nat → Heap → Prop} {J : It} {R : Result → Shared → Prop} {N : St → Hp → Prop}
    (hxe : XC.xe = fun _ _ => False) (hc : XC.calm = true) (I : Inv XC pins σ H s) (T : Turn XC.prog XC.w XC.K t1 J fp it tn) (st : tn 0 s.heap) (f2 : ∀ b ∈ fp, FpOk XC pins H b)
    (hg : PG XC t1 g1) (ht : PTs XC f1 tt1) (he : PE XC elt te)
    (hW : ∃ W : Nat → Nat → St → Hp → Prop, (∃ m, W 0 m σ H) ∧ ∀ i m σ2 H2, W i m σ2 H2 → (J.stop i H2 ∧ N σ2 H2) ∨
      (J.go i H2 ∧ ∃ N1 : St → Hp → Prop, (∀ σ' H', N1 σ' H' → ∃ m', m' < m ∧ W (i + 1) m' σ' H') ∧ ∀ x H3, J.yld i H2 x H3 → g1 x σ2 H3 fun σ4 H4 => tt1 σ4 H4 fun b H5 =>
        if b = true then te σ4 H5 fun v H6 => ∃ ys, H6 D = some (.lst ys) ∧ ys.length < sizeLine ∧ N1 σ4 (upd H6 D (.lst (ys ++ [v]))) else N1 σ4 H5))
    (hR : ∀ σ' H' s', Inv XC pins σ' H' s' → N σ' H' → R (.ok .next) s') :
    codeAny (model XC.prog XC.w) XC.A (.compStart (.ListComp elt [⟨t0, i0, f0, 0⟩, ⟨t1, i1, f1, 0⟩] scope pos) 1 (.ref it) (.ref D) XC.env) R s := by
  obtain ⟨W, ⟨m0, w0⟩, turn⟩ := hW
  have nox : ∀ {α : Type} {t : Sem α} {Q : α → Shared → Prop} {E : Value → Shared → Prop} {s : Shared}, wpAny (model XC.prog XC.w) XC.A t Q XC.xe s → wpAny (model XC.prog XC.w) XC.A t Q E s := fun {α t Q E s} h =>
    wpAny_mono h (fun _ _ q => q) fun _ _ f => by rw [hxe] at f; exact f.elim
  have stat : ∀ {H' : Hp}, (∀ b ∈ fp, H' b = none) → ∀ b ∈ fp, FpOk XC pins H' b := fun hn b hb => ⟨hn b hb, (f2 b hb).2⟩
  have loop : codeAny (model XC.prog XC.w) XC.A (.compLoop (.ListComp elt [⟨t0, i0, f0, 0⟩, ⟨t1, i1, f1, 0⟩] scope pos) 1 (.ref it) (.ref D) XC.env) R s := by
    refine codeAny_loop rfl (fun n s' => ∃ i σ' H', Inv XC pins σ' H' s' ∧ tn i s'.heap ∧ (∀ b ∈ fp, H' b = none) ∧ W i n σ' H') (fun n s' hI => ?_) m0 ⟨0, σ, H, I, st, fun b hb => (f2 b hb).1, w0⟩
    obtain ⟨i, σ', H', I5, st5, fr5, w5⟩ := hI
    show wpAny _ XC.A ((compTurn (.ListComp elt [⟨t0, i0, f0, 0⟩, ⟨t1, i1, f1, 0⟩] scope pos) 1 (.ref it) (.ref D) XC.env).onRaise (fun x => do noteFrame x XC.env; theTreesLotGoes x)) _ _ s'
    refine wpAny_noted ?_
    rw [compTurn_two1]
    refine wpAny_bind (wpAny_standAt (wpAny_bind ?_))
    rcases turn i n σ' H' w5 with ⟨stop, qn⟩ | ⟨go, N1, hN, step⟩
    · refine thn (T.done XC rfl rfl rfl hc i pins s' σ' H' _ I5 (stat fr5) st5 stop) fun r s6 ⟨hr, I6⟩ => ?_
      subst hr
      exact wpAny_pure (hR σ' H' s6 I6 qn)
    · refine thn (T.item XC rfl rfl rfl hc i pins s' σ' H' _ I5 (stat fr5) st5 go) fun r s6 ⟨u, hr, h6⟩ => ?_
      subst hr
      refine wpAny_bind (thn h6 fun _ s7 ⟨x, H7, I7, r7, y7, st7, fr7⟩ => ?_)
      have I7' := I7.pinned (stat fr7) (T.obj _ _ st7)
      have nextT : ∀ {σ8 : St} {H8 : Hp} {s8 : Shared}, Inv XC (pins ++ pinsAt fp s7.heap) σ8 H8 s8 → N1 σ8 H8 → ∃ m, m < n ∧ ∃ i σ' H', Inv XC pins σ' H' s8 ∧ tn i s8.heap ∧ (∀ b ∈ fp, H' b = none) ∧ W i m σ' H' := fun {σ8 H8 s8} I8 n8 => by
        obtain ⟨m', hm, w8⟩ := hN σ8 H8 n8
        refine ⟨m', hm, i + 1, σ8, H8, I8.unpinned, T.keep _ _ _ st7 fun b hb o e => (I8.pin (b, o) (List.mem_append_right _ (List.mem_append_right _ (mem_pinsAt hb e)))).1, fun b hb => ?_, w8⟩
        obtain ⟨o, e, d⟩ := T.obj _ _ st7 b hb
        exact (I8.pin (b, o) (List.mem_append_right _ (List.mem_append_right _ (mem_pinsAt hb e)))).2.1
      refine wpAny_bind (nox (thn (hg _ s7 σ' H7 x u _ I7' r7 (step x H7 y7)) fun _ s8 ⟨σ8, H8, I8, q8⟩ => ?_))
      refine wpAny_bind (nox (thn (ht _ s8 σ8 H8 _ I8 q8) fun b s9 ⟨H9, I9, q9⟩ => ?_))
      cases b with
      | false =>
        rw [if_neg Bool.false_ne_true] at q9
        exact wpAny_pure ⟨rfl, nextT I9 q9⟩
      | true =>
        rw [if_pos rfl] at q9
        refine wpAny_bind (wpAny_bind (nox (thn (he _ s9 σ8 H9 _ I9 q9) fun y s10 ⟨v, H10, I10, r10, ys, hD, hz, q10⟩ => ?_)))
        refine wpAny_bind (nox (thn (mt_append _ s10 σ8 H10 (.ref D) [v] _ [y] (fun _ H' => N1 σ8 H') I10 rfl (.cons r10 .nil) ⟨_, ys, v, rfl, rfl, hD, hz, q10⟩) fun _ s11 ⟨_, H11, I11, _, q11⟩ => ?_))
        exact wpAny_pure (wpAny_pure ⟨rfl, nextT I11 q11⟩)
  exact compStart_two1 (X := XC) loop fun Q E q => T.self _ 0 _ _ _ st q
/-! ### a list comprehension of two clauses -/
def tIn (g1 : TG) (tt1 : TT) (te : TE) (D : Addr) (J : It) (N : St → Hp → Prop) : St → Hp → Prop := fun σ H =>
  ∃ W : Nat → Nat → St → Hp → Prop, (∃ m, W 0 m σ H) ∧ ∀ i m σ2 H2, W i m σ2 H2 → (J.stop i H2 ∧ N σ2 H2) ∨
    (J.go i H2 ∧ ∃ N1 : St → Hp → Prop, (∀ σ' H', N1 σ' H' → ∃ m', m' < m ∧ W (i + 1) m' σ' H') ∧ ∀ x H3, J.yld i H2 x H3 → g1 x σ2 H3 fun σ4 H4 => tt1 σ4 H4 fun b H5 =>
      if b = true then te σ4 H5 fun v H6 => ∃ ys, H6 D = some (.lst ys) ∧ ys.length < sizeLine ∧ N1 σ4 (upd H6 D (.lst (ys ++ [v]))) else N1 σ4 H5)
def tOut (g : TG) (tt : TT) (wi1 : TI) (g1 : TG) (tt1 : TT) (te : TE) (D : Addr) (J : It) (Q : VK) (σ : St) (H : Hp) : Prop :=
  ∃ W : Nat → Nat → St → Hp → Prop, (∃ m, W 0 m σ H) ∧ ∀ i m σ2 H2, W i m σ2 H2 →
    (J.stop i H2 ∧ Q (.ref D) H2) ∨
    (J.go i H2 ∧ ∃ N : St → Hp → Prop, (∀ σ' H', N σ' H' → ∃ m', m' < m ∧ W (i + 1) m' σ' H') ∧ ∀ x H3, J.yld i H2 x H3 → g x σ2 H3 fun σ4 H4 => tt σ4 H4 fun b H5 =>
      if b = true then wi1 σ4 H5 fun J1 H6 => tIn g1 tt1 te D J1 N σ4 H6 else N σ4 H5)
def tLC2 (wi : TI) (g : TG) (tt : TT) (wi1 : TI) (g1 : TG) (tt1 : TT) (te : TE) (src : List (Option Nat)) : TE := fun σ H Q => wi σ H fun J H1 => ∀ D, H1 D = none → tOut g tt wi1 g1 tt1 te D J Q (srcS src σ) (upd H1 D (.lst []))
end
end L2









set_option Elab.async false
set_option linter.all false
set_option maxRecDepth 100000
set_option maxHeartbeats 4000000
namespace L2
open PySem
theorem CompOk.of {X : Cx} {scope : Scope} (sc : Scope) (e : X.env.scope = sc) (k : scope.kind = .function) (a : ∀ x ∈ scope.names, x.2 = .local → scope.names.lookup x.1 = some .local) (b : ∀ x ∈ scope.names, x.2 ≠ .cell)
    (c : ∀ x ∈ scope.names, x.2 = .free → sc.names.lookup x.1 = some .cell ∨ sc.names.lookup x.1 = some .free) : CompOk X scope := ⟨k, a, b, fun x hx hf => by rw [← e] at c; exact c x hx hf⟩
/-- a def of the text -/
structure Dfn (K : PySem.W.Frag) (mg : Str → Option Value) (x : Str) (st : Stmt) (ps : List Str) where
  f : Addr
  fd : FuncData
  F : Fun K x x st f fd
  b : Binds K fd ps []
  m : mg x = some (.ref f)
theorem same_new {H : Hp} {p : Addr} (h : H p = none) (o : HO) : Same H (upd H p o) := fun b u q => by rw [upd_ne (ne_of_none q h)]; exact q
theorem small {n : Nat} (h : n ≤ 1000) : n ≤ sizeLine := Nat.le_of_lt (small1000 h)
end L2













set_option Elab.async false
set_option linter.all false
set_option maxRecDepth 100000
namespace L2
open PySem PySem.Spec PyProof.Rows
theorem perm_map_ex {α β : Type} [DecidableEq α] (f : α → β) : ∀ (l : List β) (L : List α), l.Perm (L.map f) → ∃ M : List α, M.Perm L ∧ l = M.map f
  | [], L, h => by
    have := h.length_eq
    rw [List.length_map] at this
    have : L = [] := List.length_eq_zero_iff.mp this.symm
    subst this
    exact ⟨[], .refl _, rfl⟩
  | x :: r, L, h => by
    obtain ⟨e, he, rfl⟩ := List.mem_map.mp (h.mem_iff.mp List.mem_cons_self)
    have p1 := List.perm_cons_erase he
    have p2 : (f e :: r).Perm (f e :: (L.erase e).map f) := h.trans (p1.map f)
    obtain ⟨M, m1, rfl⟩ := perm_map_ex f r (L.erase e) ((List.perm_cons _).mp p2)
    exact ⟨e :: M, (m1.cons e).trans p1.symm, rfl⟩
section
variable {X : Cx}
end
end L2




set_option Elab.async false
set_option linter.all false
set_option maxRecDepth 100000
set_option maxHeartbeats 4000000
namespace L2
open PySem PySem.Spec PyProof.Rows
/-! ### data: a value with all that it holds, without the heap -/
inductive D where
  | non | bl (b : Bool) | int (i : Int) | str (x : Str) | lst (l : List D) | tup (l : List D) | scr (ns : List Int) | rng (lo hi : Int) | obj (a : Addr) | web (w : List (List Nat))
/-- the module's objects, the class Web -/
structure DC where
  K : PySem.W.Frag
  C : Addr
def natD (n : Nat) : D := .int n
def rowW (r : List Nat) : D := .lst (r.map natD)
def webW (w : List (List Nat)) : D := .lst (w.map rowW)
mutual
inductive Dv (Z : DC) (H : Hp) : V → D → Prop
  | non : Dv Z H .non .non
  | bl (b : Bool) : Dv Z H (.bl b) (.bl b)
  | int (i : Int) : Dv Z H (.int i) (.int i)
  | str (x : Str) (h : PyData.strOk x = true) : Dv Z H (.str x) (.str x)
  | lst {a : Addr} {xs : List V} {ds : List D} : H a = some (.lst xs) → DvAll Z H xs ds → Dv Z H (.ref a) (.lst ds)
  | tup {a : Addr} {xs : List V} {ds : List D} : H a = some (.tup xs) → DvAll Z H xs ds → Dv Z H (.ref a) (.tup ds)
  | obj (a : Addr) : Dv Z H (.ref a) (.obj a)
  | rng {a : Addr} {lo hi : Int} : H a = some (.rng lo hi) → Dv Z H (.ref a) (.rng lo hi)
  | scr {a : Addr} {ns : List Int} : SqL Z.K H a (ns.map V.int) → ns.length ≤ 63 → Dv Z H (.ref a) (.scr ns)
  | web {p dx R : Addr} {w : List (List Nat)} : H p = some (.ins Z.C dx [("rows", .ref R)]) → Dv Z H (.ref R) (webW w) → Wb.Good w → 1 ≤ w.length → w.length ≤ 14 → Dv Z H (.ref p) (.web w)
inductive DvAll (Z : DC) (H : Hp) : List V → List D → Prop
  | nil : DvAll Z H [] []
  | cons {v : V} {vs : List V} {d : D} {ds : List D} : Dv Z H v d → DvAll Z H vs ds → DvAll Z H (v :: vs) (d :: ds)
end
theorem SqL.mono {K : PySem.W.Frag} {H H' : Hp} {a : Addr} {xs : List V} (s : Same H H') (h : SqL K H a xs) : SqL K H' a xs := by
  rcases h with (h | ⟨o, h⟩) | h
  · exact .inl (.inl (s _ _ h))
  · exact .inl (.inr ⟨o, s _ _ h⟩)
  · exact .inr h
section
variable {Z : DC} {H H' G G' : Hp}
theorem Dv.ofInt {v : V} {i : Int} (h : Dv Z H v (.int i)) : v = .int i := by cases h; rfl
theorem Dv.ofBl {v : V} {b : Bool} (h : Dv Z H v (.bl b)) : v = .bl b := by cases h; rfl
theorem Dv.ofLst {v : V} {ds : List D} (h : Dv Z H v (.lst ds)) : ∃ a xs, v = .ref a ∧ H a = some (.lst xs) ∧ DvAll Z H xs ds := by cases h with | lst h e => exact ⟨_, _, rfl, h, e⟩
theorem Dv.ofTup {v : V} {ds : List D} (h : Dv Z H v (.tup ds)) : ∃ a xs, v = .ref a ∧ H a = some (.tup xs) ∧ DvAll Z H xs ds := by cases h with | tup h e => exact ⟨_, _, rfl, h, e⟩
theorem Dv.ofScr {v : V} {ns : List Int} (h : Dv Z H v (.scr ns)) : ∃ a, v = .ref a ∧ SqL Z.K H a (ns.map V.int) ∧ ns.length ≤ 63 := by cases h with | scr h z => exact ⟨_, rfl, h, z⟩
theorem DvAll.ofNil {vs : List V} (h : DvAll Z H vs []) : vs = [] := by cases h; rfl
theorem DvAll.ofCons {vs : List V} {d : D} {ds : List D} (h : DvAll Z H vs (d :: ds)) : ∃ v us, vs = v :: us ∧ Dv Z H v d ∧ DvAll Z H us ds := by cases h with | cons a b => exact ⟨_, _, rfl, a, b⟩
theorem DvAll.ofOne {vs : List V} {d : D} (h : DvAll Z H vs [d]) : ∃ v, vs = [v] ∧ Dv Z H v d := by
  obtain ⟨v, us, rfl, a, b⟩ := h.ofCons
  rw [b.ofNil]; exact ⟨v, rfl, a⟩
theorem DvAll.ofTwo {vs : List V} {d e : D} (h : DvAll Z H vs [d, e]) : ∃ v u, vs = [v, u] ∧ Dv Z H v d ∧ Dv Z H u e := by
  obtain ⟨v, us, rfl, a, b⟩ := h.ofCons
  obtain ⟨u, rfl, c⟩ := b.ofOne
  exact ⟨v, u, rfl, a, c⟩
mutual
theorem Dv.mono (s : Same H H') : ∀ {v : V} {d : D}, Dv Z H v d → Dv Z H' v d
  | _, _, .non => .non
  | _, _, .bl b => .bl b
  | _, _, .int i => .int i
  | _, _, .str x h => .str x h
  | _, _, .lst h a => .lst (s _ _ h) (DvAll.mono s a)
  | _, _, .tup h a => .tup (s _ _ h) (DvAll.mono s a)
  | _, _, .obj a => .obj a
  | _, _, .rng h => .rng (s _ _ h)
  | _, _, .scr h z => .scr (h.mono s) z
  | _, _, .web h r g a b => .web (s _ _ h) (Dv.mono s r) g a b
theorem DvAll.mono (s : Same H H') : ∀ {vs : List V} {ds : List D}, DvAll Z H vs ds → DvAll Z H' vs ds
  | _, _, .nil => .nil
  | _, _, .cons a as => .cons (Dv.mono s a) (DvAll.mono s as)
end
theorem DvAll.length : ∀ {vs : List V} {ds : List D}, DvAll Z H vs ds → vs.length = ds.length
  | _, _, .nil => rfl
  | _, _, .cons _ as => congrArg (· + 1) as.length
theorem DvAll.get : ∀ {vs : List V} {ds : List D} {i : Nat} {d : D}, DvAll Z H vs ds → ds[i]? = some d → ∃ v, vs[i]? = some v ∧ Dv Z H v d
  | _, _, _, _, .nil, e => by simp at e
  | _, _, 0, _, .cons a as, e => by simp at e; subst e; exact ⟨_, rfl, a⟩
  | _, _, i + 1, d, .cons a as, e => by
    obtain ⟨v, h1, h2⟩ := DvAll.get (i := i) (d := d) as (by simpa using e)
    exact ⟨v, by simpa using h1, h2⟩
theorem DvAll.getV : ∀ {vs : List V} {ds : List D} {i : Nat} {v : V}, DvAll Z H vs ds → vs[i]? = some v → ∃ d, ds[i]? = some d ∧ Dv Z H v d
  | _, _, _, _, .nil, e => by simp at e
  | _, _, 0, _, .cons a as, e => by simp at e; subst e; exact ⟨_, rfl, a⟩
  | _, _, i + 1, d, .cons a as, e => by
    obtain ⟨v, h1, h2⟩ := DvAll.getV (i := i) (v := d) as (by simpa using e)
    exact ⟨v, by simpa using h1, h2⟩
theorem DvAll.append : ∀ {vs us : List V} {ds es : List D}, DvAll Z H vs ds → DvAll Z H us es → DvAll Z H (vs ++ us) (ds ++ es)
  | _, _, _, _, .nil, b => b
  | _, _, _, _, .cons a as, b => .cons a (as.append b)
theorem DvAll.take : ∀ {vs : List V} {ds : List D} (n : Nat), DvAll Z H vs ds → DvAll Z H (vs.take n) (ds.take n)
  | _, _, 0, _ => by simpa using DvAll.nil
  | _, _, n + 1, .nil => by simpa using DvAll.nil
  | _, _, n + 1, .cons a as => by simpa using DvAll.cons a (as.take n)
theorem DvAll.drop : ∀ {vs : List V} {ds : List D} (n : Nat), DvAll Z H vs ds → DvAll Z H (vs.drop n) (ds.drop n)
  | _, _, 0, h => h
  | _, _, n + 1, .nil => by simpa using DvAll.nil
  | _, _, n + 1, .cons a as => by simpa using as.drop n
theorem DvAll.set {v : V} {d : D} (h : Dv Z H v d) : ∀ {vs : List V} {ds : List D} (n : Nat), DvAll Z H vs ds → DvAll Z H (vs.set n v) (ds.set n d)
  | _, _, _, .nil => .nil
  | _, _, 0, .cons a as => .cons h as
  | _, _, n + 1, .cons a as => .cons a (DvAll.set h n as)
theorem DvAll.ints : ∀ (ns : List Int), DvAll Z H (ns.map V.int) (ns.map D.int)
  | [] => .nil
  | n :: ns => .cons (.int n) (DvAll.ints ns)
theorem DvAll.snoc {vs : List V} {ds : List D} {v : V} {d : D} (a : DvAll Z H vs ds) (b : Dv Z H v d) : DvAll Z H (vs ++ [v]) (ds ++ [d]) := a.append (.cons b .nil)
/-! ### the pure part of a heap, and how it grows -/
structure Ext (G H G' H' : Hp) : Prop where
  gg : Same G G'
  sub : Same G' H'
  hh : Same H H'
  off : ∀ b, H b ≠ none → G b = none → G' b = none
theorem Ext.refl (s : Same G H) : Ext G H G H := ⟨.refl _, s, .refl _, fun _ _ h => h⟩
theorem Ext.trans {G1 H1 G2 H2 : Hp} (a : Ext G H G1 H1) (b : Ext G1 H1 G2 H2) : Ext G H G2 H2 :=
  ⟨a.gg.trans b.gg, b.sub, a.hh.trans b.hh, fun x h g => b.off x (fun z => by
    cases e : H x with
    | none => exact h e
    | some o => rw [a.hh x o e] at z; cases z) (a.off x h g)⟩
theorem Ext.new {p : Addr} {o : HO} (s : Same G H) (h : H p = none) : Ext G H (upd G p o) (upd H p o) := by
  have hg : G p = none := s.free h
  refine ⟨same_new hg o, fun b u e => ?_, same_new h o, fun b hb hg => ?_⟩
  · by_cases z : b = p
    · subst z; rw [upd_same] at e ⊢; exact e
    · rw [upd_ne z] at e ⊢; exact s b u e
  · have : b ≠ p := fun z => hb (by rw [z]; exact h)
    rw [upd_ne this]; exact hg
end
/-! ### the judgements -/
abbrev DN := List (Option D)
structure EnvD (Z : DC) (G : Hp) (σ : St) (ρ : DN) : Prop where
  len : ρ.length = σ.length
  at_ : ∀ (i : Nat) (d : D), ρ[i]? = some (some d) → ∃ v, σ[i]? = some (some v) ∧ Dv Z G v d
section
variable {Z : DC} {G G' H H' : Hp} {σ : St} {ρ : DN}
theorem EnvD.mono (e : EnvD Z G σ ρ) (s : Same G G') : EnvD Z G' σ ρ := ⟨e.len, fun i d h => let ⟨v, a, b⟩ := e.at_ i d h; ⟨v, a, b.mono s⟩⟩
theorem EnvD.set {i : Nat} {v : V} {d : D} (e : EnvD Z G σ ρ) (h : Dv Z G v d) : EnvD Z G (σ.set i (some v)) (ρ.set i (some d)) := by
  refine ⟨by rw [List.length_set, List.length_set]; exact e.len, fun j c hj => ?_⟩
  by_cases z : i = j
  · subst z
    by_cases hi : i < ρ.length
    · rw [List.getElem?_set_self hi] at hj
      cases hj
      exact ⟨v, by rw [List.getElem?_set_self (by rw [← e.len]; exact hi)], h⟩
    · rw [List.set_eq_of_length_le (Nat.le_of_not_lt hi)] at hj
      rw [List.getElem?_eq_none (Nat.le_of_not_lt hi)] at hj; cases hj
  · rw [List.getElem?_set_ne z] at hj ⊢
    exact e.at_ j c hj
end
abbrev DTE := DN → (D → Prop) → Prop
abbrev DTT := DN → (Bool → Prop) → Prop
abbrev DTA := DN → (List D → Prop) → Prop
abbrev DR2 := D → D → (D → Prop) → Prop
abbrev DTG := D → DN → (DN → Prop) → Prop
abbrev DTI := DN → (List D → Prop) → Prop
def liftE (Z : DC) (t : DTE) : TE := fun σ H Q => ∃ (G : Hp) (ρ : DN) (P : D → Prop), Same G H ∧ EnvD Z G σ ρ ∧ t ρ P ∧ ∀ d, P d → ∀ v G' H', Ext G H G' H' → Dv Z G' v d → Q v H'
def liftT (Z : DC) (t : DTT) : TT := fun σ H Q => ∃ (G : Hp) (ρ : DN) (P : Bool → Prop), Same G H ∧ EnvD Z G σ ρ ∧ t ρ P ∧ ∀ b, P b → ∀ G' H', Ext G H G' H' → Q b H'
def liftA (Z : DC) (t : DTA) : TA := fun σ H Q => ∃ (G : Hp) (ρ : DN) (P : List D → Prop), Same G H ∧ EnvD Z G σ ρ ∧ t ρ P ∧ ∀ ds, P ds → ∀ vs G' H', Ext G H G' H' → DvAll Z G' vs ds → Q vs H'
def liftR (Z : DC) (r : DR2) : R2 := fun x y H Q => ∃ (G : Hp) (a b : D) (P : D → Prop), Same G H ∧ Dv Z G x a ∧ Dv Z G y b ∧ r a b P ∧ ∀ d, P d → ∀ v G' H', Ext G H G' H' → Dv Z G' v d → Q v H'
def liftC (Z : DC) (r : List D → (D → Prop) → Prop) : List V → Hp → VK → Prop := fun vs H Q => ∃ (G : Hp) (ds : List D) (P : D → Prop), Same G H ∧ DvAll Z G vs ds ∧ r ds P ∧ ∀ d, P d → ∀ v G' H', Ext G H G' H' → Dv Z G' v d → Q v H'
/-- a def's promise, over data -/
abbrev DSp := List D → (D → Prop) → Prop
def liftSp (Z : DC) (sd : DSp) : Sp := fun vs H Q _ => liftC Z sd vs H Q
def DE (Z : DC) (X : Cx) (e : Expr) (t : DTE) : Prop := PE X e (liftE Z t)
def DT (Z : DC) (X : Cx) (e : Expr) (t : DTT) : Prop := PT X e (liftT Z t)
def DA (Z : DC) (X : Cx) (es : List Expr) (t : DTA) : Prop := PA X es (liftA Z t)
theorem PE.imp {X : Cx} {e : Expr} {t t' : TE} (h : PE X e t) (f : ∀ σ H Q, t' σ H Q → t σ H Q) : PE X e t' := fun pins s σ H Q I q => h pins s σ H Q I (f _ _ _ q)
theorem PT.imp {X : Cx} {e : Expr} {t t' : TT} (h : PT X e t) (f : ∀ σ H Q, t' σ H Q → t σ H Q) : PT X e t' := fun pins s σ H Q I q => h pins s σ H Q I (f _ _ _ q)
theorem PW.imp {X : Cx} {e : Expr} {t t' : TT} (h : PW X e t) (f : ∀ σ H Q, t' σ H Q → t σ H Q) : PW X e t' := fun wh pins s σ H Q I q => h wh pins s σ H Q I (f _ _ _ q)
theorem PA.imp {X : Cx} {es : List Expr} {t t' : TA} (h : PA X es t) (f : ∀ σ H Q, t' σ H Q → t σ H Q) : PA X es t' := fun pos pins s σ H Q I q => h pos pins s σ H Q I (f _ _ _ q)
theorem OpR.imp {X : Cx} {f : Value → Value → Sem Value} {r r' : R2} (h : OpR X f r) (g : ∀ x y H Q, r' x y H Q → r x y H Q) : OpR X f r' := fun pins s σ H x y v u Q I a b q => h pins s σ H x y v u Q I a b (g _ _ _ _ q)
theorem CallR.imp {X : Cx} {f : Value} {r r' : List V → Hp → VK → Prop} (h : CallR X f r) (g : ∀ xs H Q, r' xs H Q → r xs H Q) : CallR X f r' := fun pins s σ H xs us Q I a q => h pins s σ H xs us Q I a (g _ _ _ q)
/-! ### names, constants -/
def dVar (i : Nat) : DTE := fun ρ P => ∃ d, ρ[i]? = some (some d) ∧ P d
def dC (d : D) : DTE := fun _ P => P d
section
variable {Z : DC} {X : Cx}
theorem de_var (i : Nat) {x : Str} {pos : Pos} (hN : X.N[i]? = some x := by rfl) (hv : Vis X.env.scope x := by first | exact Or.inl rfl | exact Or.inr (Or.inl rfl) | exact Or.inr (Or.inr rfl)) (hd : (x == ("__debug__" : Str)) = false := by decide)
    (hcd : (x == ("__classdict__" : Str)) = false := by decide) : DE Z X (.Name x pos) (dVar i) :=
  (pe_var hN hv hd hcd).imp fun σ H Q ⟨G, ρ, P, s, e, ⟨d, hd, p⟩, q⟩ => let ⟨v, hv, dv⟩ := e.at_ i d hd; ⟨v, hv, q d p v G H (.refl s) dv⟩
theorem de_int {i j pos} : DE Z X (.Constant (.int i) j pos) (dC (.int i)) := pe_int.imp fun σ H Q ⟨G, ρ, P, s, e, p, q⟩ => q _ p _ G H (.refl s) (.int i)
theorem de_bl {b j pos} : DE Z X (.Constant (.bool b) j pos) (dC (.bl b)) := pe_bl.imp fun σ H Q ⟨G, ρ, P, s, e, p, q⟩ => q _ p _ G H (.refl s) (.bl b)
theorem de_non {j pos} : DE Z X (.Constant .none j pos) (dC .non) := pe_non.imp fun σ H Q ⟨G, ρ, P, s, e, p, q⟩ => q _ p _ G H (.refl s) .non
theorem de_str {x j pos} (h : PyData.strOk x = true := by decide +kernel) : DE Z X (.Constant (.str x) j pos) (dC (.str x)) := pe_str.imp fun σ H Q ⟨G, ρ, P, s, e, p, q⟩ => q _ p _ G H (.refl s) (.str x h)
theorem de_globI {x : Str} {i : Int} {pos : Pos} (hg : Gl X x) (hm : ∃ tk, X.mg x = some (.int i tk)) (hd : (x == ("__debug__" : Str)) = false := by decide) : DE Z X (.Name x pos) (dC (.int i)) := by
  obtain ⟨tk, hm⟩ := hm
  exact (pe_glob hg hm (v := .int i) ⟨tk, rfl⟩ hd).imp fun σ H Q ⟨G, ρ, P, s, e, p, q⟩ => q _ p _ G H (.refl s) (.int i)
/-! ### operators -/
def dOp (r : DR2) (ta tb : DTE) : DTE := fun ρ P => ta ρ fun a => tb ρ fun b => r a b P
variable {a b c : Expr} {ta tb tc : DTE} {pos : Pos}
theorem lift2 {r : DR2} : ∀ σ H Q, liftE Z (dOp r ta tb) σ H Q → tOp (liftR Z r) (liftE Z ta) (liftE Z tb) σ H Q := by
  rintro σ H Q ⟨G, ρ, P, s, e, h, q⟩
  refine ⟨G, ρ, _, s, e, h, fun a ha v G1 H1 x1 dv => ?_⟩
  refine ⟨G1, ρ, _, x1.sub, e.mono x1.gg, ha, fun b hb u G2 H2 x2 du => ?_⟩
  exact ⟨G2, a, b, P, x2.sub, dv.mono x2.gg, du, hb, fun d hd v' G' H' x3 dv' => q d hd v' G' H' ((x1.trans x2).trans x3) dv'⟩
theorem de_op {op : Operator} {r : DR2} (ho : OpR X (binaryOp op) (liftR Z r)) (ha : DE Z X a ta) (hb : DE Z X b tb) : DE Z X (.BinOp a op b pos) (dOp r ta tb) := (pe_op ho ha hb).imp lift2
theorem de_cmp {op : CmpOp} {r : DR2} (ho : OpR X (compareOp op) (liftR Z r)) (ha : DE Z X a ta) (hb : DE Z X b tb) (hm : behindInMarks op b = false) : DE Z X (.Compare a [op] [b] pos) (dOp r ta tb) := (pe_cmpR ho ha hb hm).imp lift2
def dTest (t : DTE) : DTT := fun ρ P => t ρ fun d => ∃ k, d = .bl k ∧ P k
theorem liftTest {t : DTE} : ∀ σ H Q, liftT Z (dTest t) σ H Q → tTest (liftE Z t) σ H Q := by
  rintro σ H Q ⟨G, ρ, P, s, e, h, q⟩
  refine ⟨G, ρ, _, s, e, h, ?_⟩
  rintro _ ⟨k, rfl, p⟩ v G1 H1 x1 dv
  cases dv
  exact ⟨k, rfl, q k p G1 H1 x1⟩
theorem dt_cmp {op : CmpOp} {r : DR2} (ho : OpR X (compareOp op) (liftR Z r)) (ha : DE Z X a ta) (hb : DE Z X b tb) (hm : behindInMarks op b = false) : DT Z X (.Compare a [op] [b] pos) (dTest (dOp r ta tb)) :=
  (pt_cmpR ho ha hb hm).imp fun σ H Q h => by
    obtain h := liftTest σ H Q h
    exact lift2 σ H _ h
/-- two comparisons in a row -/
def dChain (r r' : DR2) (ta tb tc : DTE) : DTE := fun ρ P => ta ρ fun x => tb ρ fun y => r x y fun z => ∃ k, z = .bl k ∧ (if k = true then tc ρ fun w' => r' y w' P else P (.bl false))
theorem liftChain {r r' : DR2} : ∀ σ H Q, liftE Z (dChain r r' ta tb tc) σ H Q → tChain (liftR Z r) (liftR Z r') (liftE Z ta) (liftE Z tb) (liftE Z tc) σ H Q := by
  rintro σ H Q ⟨G, ρ, P, s, e, h, q⟩
  refine ⟨G, ρ, _, s, e, h, fun a ha v G1 H1 x1 dv => ?_⟩
  refine ⟨G1, ρ, _, x1.sub, e.mono x1.gg, ha, fun b hb u G2 H2 x2 du => ?_⟩
  refine ⟨G2, a, b, _, x2.sub, dv.mono x2.gg, du, hb, ?_⟩
  rintro _ ⟨k, rfl, hk⟩ v' G3 H3 x3 dv'
  cases dv'
  refine ⟨k, rfl, ?_⟩
  have x := (x1.trans x2).trans x3
  cases k with
  | false => exact iteF (q _ hk _ G3 H3 x (.bl false))
  | true =>
    refine iteT ⟨G3, ρ, _, x3.sub, e.mono x.gg, hk, fun c hc w' G4 H4 x4 dw => ?_⟩
    exact ⟨G4, b, c, P, x4.sub, (du.mono x3.gg).mono x4.gg, dw, hc, fun d hd v'' G' H' x5 d5 => q d hd v'' G' H' ((x.trans x4).trans x5) d5⟩
theorem de_chain {op op' : CmpOp} {r r' : DR2} (ho : OpR X (compareOp op) (liftR Z r)) (ho' : OpR X (compareOp op') (liftR Z r')) (ha : DE Z X a ta) (hb : DE Z X b tb) (hc : DE Z X c tc)
    (hm : lastMarks [op, op'] [b, c] = false := by with_unfolding_all rfl) : DE Z X (.Compare a [op, op'] [b, c] pos) (dChain r r' ta tb tc) := (pe_chain ho ho' ha hb hc hm).imp liftChain
theorem dt_chain {op op' : CmpOp} {r r' : DR2} (ho : OpR X (compareOp op) (liftR Z r)) (ho' : OpR X (compareOp op') (liftR Z r')) (ha : DE Z X a ta) (hb : DE Z X b tb) (hc : DE Z X c tc)
    (hm : lastMarks [op, op'] [b, c] = false := by with_unfolding_all rfl) : DT Z X (.Compare a [op, op'] [b, c] pos) (dTest (dChain r r' ta tb tc)) :=
  (pt_chain ho ho' ha hb hc hm).imp fun σ H Q h => by
    obtain h := liftTest σ H Q h
    exact liftChain σ H _ h
/-! ### tests -/
def truD : D → Bool
  | .non => false
  | .bl b => b
  | .int i => i != 0
  | .str x => x.length != 0
  | .lst l => !l.isEmpty
  | .tup l => !l.isEmpty
  | .scr l => !l.isEmpty
  | .rng lo hi => decide (lo < hi)
  | .obj _ => true
  | .web _ => true
def isSq : D → Bool
  | .bl _ => true
  | .int _ => true
  | .lst _ => true
  | .tup _ => true
  | .non => true
  | _ => false
def dTru (t : DTE) : DTT := fun ρ P => t ρ fun d => isSq d = true ∧ P (truD d)
theorem isEmpty_dv {G : Hp} {vs : List V} {ds : List D} (h : DvAll Z G vs ds) : vs.isEmpty = ds.isEmpty := by cases h <;> rfl
theorem dt_tru (ha : DE Z X a ta) (he : ∀ whole, isTrue a X.env whole = (do let v ← whole; standAt a.pos; holding [v] (truthy v)) := by intro _; rfl) : DT Z X a (dTru ta) := by
  refine (pt_truth ha he).imp ?_
  rintro σ H Q ⟨G, ρ, P, s, e, h, q⟩
  refine ⟨G, ρ, _, s, e, h, ?_⟩
  rintro d ⟨hd, p⟩ v G1 H1 x1 dv
  refine ⟨truD d, ?_, q _ p G1 H1 x1⟩
  cases dv with
  | non => rfl
  | bl b => rfl
  | int i => rfl
  | lst h a => exact .inl ⟨_, SqL.of (x1.sub _ _ h), by rw [isEmpty_dv a]; rfl⟩
  | tup h a => exact .inr (.inl ⟨_, SqT.of (x1.sub _ _ h), by rw [isEmpty_dv a]; rfl⟩)
  | _ => cases hd
def dAnd (t u : DTT) : DTT := fun ρ P => t ρ fun c => if c = true then u ρ P else P false
def dOr (t u : DTT) : DTT := fun ρ P => t ρ fun c => if c = true then P true else u ρ P
def dNot (t : DTT) : DTT := fun ρ P => t ρ fun c => P (!c)
variable {tA tB' : DTT} {rest : List Expr}
def DW (Z : DC) (X : Cx) (e : Expr) (t : DTT) : Prop := PW X e (liftT Z t)
theorem DW.dt {e : Expr} {t : DTT} (h : DW Z X e t) : DT Z X e t := PW.pt h
theorem dw_and1 (ha : DT Z X a tA) : DW Z X (.BoolOp .And [a] pos) tA := pw_and1 ha
theorem dw_or1 (ha : DT Z X a tA) : DW Z X (.BoolOp .Or [a] pos) tA := pw_or1 ha
theorem dw_and (ha : DT Z X a tA) (hb : DW Z X (.BoolOp .And (b :: rest) pos) tB') : DW Z X (.BoolOp .And (a :: b :: rest) pos) (dAnd tA tB') := by
  refine (pw_and ha hb).imp ?_
  rintro σ H Q ⟨G, ρ, P, s, e, h, q⟩
  refine ⟨G, ρ, _, s, e, h, fun c hc G1 H1 x1 => ?_⟩
  cases c with
  | true => exact iteT ⟨G1, ρ, P, x1.sub, e.mono x1.gg, hc, fun b hb G2 H2 x2 => q b hb G2 H2 (x1.trans x2)⟩
  | false => exact iteF (q _ hc G1 H1 x1)
theorem dw_or (ha : DT Z X a tA) (hb : DW Z X (.BoolOp .Or (b :: rest) pos) tB') : DW Z X (.BoolOp .Or (a :: b :: rest) pos) (dOr tA tB') := by
  refine (pw_or ha hb).imp ?_
  rintro σ H Q ⟨G, ρ, P, s, e, h, q⟩
  refine ⟨G, ρ, _, s, e, h, fun c hc G1 H1 x1 => ?_⟩
  cases c with
  | false => exact iteF ⟨G1, ρ, P, x1.sub, e.mono x1.gg, hc, fun b hb G2 H2 x2 => q b hb G2 H2 (x1.trans x2)⟩
  | true => exact iteT (q _ hc G1 H1 x1)
theorem dt_not (ha : DT Z X a tA) : DT Z X (.UnaryOp .Not a pos) (dNot tA) := by
  refine (pt_not ha).imp ?_
  rintro σ H Q ⟨G, ρ, P, s, e, h, q⟩
  exact ⟨G, ρ, _, s, e, h, fun c hc G1 H1 x1 => q _ hc G1 H1 x1⟩
/-- as values -/
def dAndV (ta tb : DTE) : DTE := fun ρ P => ta ρ fun x => ∃ c, x = .bl c ∧ if c = true then tb ρ P else P (.bl false)
def dNotV (ta : DTE) : DTE := fun ρ P => ta ρ fun x => ∃ c, x = .bl c ∧ P (.bl (!c))
theorem de_one {op} (h : DE Z X a ta) : DE Z X (.BoolOp op [a] pos) ta := pe_one h
theorem de_and (ha : DE Z X a ta) (hb : DE Z X (.BoolOp .And (b :: rest) pos) tb) : DE Z X (.BoolOp .And (a :: b :: rest) pos) (dAndV ta tb) := by
  refine (pe_and ha hb).imp ?_
  rintro σ H Q ⟨G, ρ, P, s, e, h, q⟩
  refine ⟨G, ρ, _, s, e, h, ?_⟩
  rintro _ ⟨c, rfl, hc⟩ v G1 H1 x1 dv
  cases dv
  refine ⟨c, rfl, ?_⟩
  cases c with
  | true => exact iteT ⟨G1, ρ, P, x1.sub, e.mono x1.gg, hc, fun b hb v G2 H2 x2 d2 => q b hb v G2 H2 (x1.trans x2) d2⟩
  | false => exact iteF (q _ hc _ G1 H1 x1 (.bl false))
theorem de_not (ha : DE Z X a ta) : DE Z X (.UnaryOp .Not a pos) (dNotV ta) := by
  refine (pe_not ha).imp ?_
  rintro σ H Q ⟨G, ρ, P, s, e, h, q⟩
  refine ⟨G, ρ, _, s, e, h, ?_⟩
  rintro _ ⟨c, rfl, hc⟩ v G1 H1 x1 dv
  cases dv
  exact ⟨c, rfl, q _ hc _ G1 H1 x1 (.bl _)⟩
/-! ### argument lists, displays -/
def dNil : DTA := fun _ P => P []
def dCons (ta : DTE) (t : DTA) : DTA := fun ρ P => ta ρ fun x => t ρ fun xs => P (x :: xs)
variable {es : List Expr} {t : DTA} {e : Expr}
theorem da_nil : DA Z X [] dNil := pa_nil.imp fun σ H Q ⟨G, ρ, P, s, e, p, q⟩ => q _ p _ G H (.refl s) .nil
theorem da_cons (ha : DE Z X e ta) (hr : DA Z X es t) (hs : starEach (e :: es) X.env = (false, eval e X.env) :: starEach es X.env := by rfl) : DA Z X (e :: es) (dCons ta t) := by
  refine (pa_cons ha hr hs).imp ?_
  rintro σ H Q ⟨G, ρ, P, s, e, h, q⟩
  refine ⟨G, ρ, _, s, e, h, fun a ha v G1 H1 x1 dv => ?_⟩
  exact ⟨G1, ρ, _, x1.sub, e.mono x1.gg, ha, fun ds hd vs G2 H2 x2 dvs => q _ hd _ G2 H2 (x1.trans x2) (.cons (dv.mono x2.gg) dvs)⟩
def dTup (t : DTA) : DTE := fun ρ P => t ρ fun xs => xs.length ≤ sizeLine ∧ P (.tup xs)
def dLst (t : DTA) : DTE := fun ρ P => t ρ fun xs => xs.length ≤ sizeLine ∧ P (.lst xs)
theorem de_tup {x1} (h : DA Z X es t) : DE Z X (.Tuple es x1 pos) (dTup t) := by
  refine (pe_tup h).imp ?_
  rintro σ H Q ⟨G, ρ, P, s, e, h, q⟩
  refine ⟨G, ρ, _, s, e, h, ?_⟩
  rintro ds ⟨hl, hp⟩ vs G1 H1 x1 dvs
  exact ⟨by rw [dvs.length]; exact hl, fun p hp' => q _ hp _ _ _ (x1.trans (.new x1.sub hp')) (.tup upd_same (dvs.mono (same_new (x1.sub.free hp') _)))⟩
theorem de_lst (h : DA Z X es t) : DE Z X (.List es pos) (dLst t) := by
  refine (pe_lst h).imp ?_
  rintro σ H Q ⟨G, ρ, P, s, e, h, q⟩
  refine ⟨G, ρ, _, s, e, h, ?_⟩
  rintro ds ⟨hl, hp⟩ vs G1 H1 x1 dvs
  exact ⟨by rw [dvs.length]; exact hl, fun p hp' => q _ hp _ _ _ (x1.trans (.new x1.sub hp')) (.lst upd_same (dvs.mono (same_new (x1.sub.free hp') _)))⟩
/-! ### calls -/
def dCall (r : List D → (D → Prop) → Prop) (t : DTA) : DTE := fun ρ P => t ρ fun ds => r ds P
theorem liftCall {r : List D → (D → Prop) → Prop} : ∀ σ H Q, liftE Z (dCall r t) σ H Q → liftA Z t σ H fun vs H1 => liftC Z r vs H1 Q := by
  rintro σ H Q ⟨G, ρ, P, s, e, h, q⟩
  exact ⟨G, ρ, _, s, e, h, fun ds hd vs G1 H1 x1 dvs => ⟨G1, ds, P, x1.sub, dvs, hd, fun d hp v G2 H2 x2 dv => q d hp v G2 H2 (x1.trans x2) dv⟩⟩
theorem de_call {sd : DSp} {k : Nat} {f : Addr} {fd : FuncData} {ps : List Str} {x : Str} {p : Pos} (F : FnOk X.prog X.w X.K X.mg X.base CX0 k f fd ps (liftSp Z sd)) (hr : Room k X.A) (hg : Gl X x) (hm : X.mg x = some (.ref f)) (hk : PySem.W.keepIn X.K (.ref f) = true) (hb : Binds X.K fd ps [])
    (ha : DA Z X (e :: es) t) (hdb : (x == ("__debug__" : Str)) = false := by decide) (he : starEach (e :: es) X.env = (false, eval e X.env) :: starEach es X.env := by rfl) (hpl : (backTo pos (starEach es X.env)).any (·.1) = false := by rfl) :
    DE Z X (.Call (.Name x p) (e :: es) [] pos) (dCall sd t) :=
  (pe_call F hr hg hm hk hb .nil pass0 ha hdb he hpl).imp fun σ H Q h => by
    have h := liftCall σ H Q h
    obtain ⟨G, ρ, P, s, e, h, q⟩ := h
    exact ⟨G, ρ, P, s, e, h, fun ds hd vs G1 H1 x1 dvs => by show liftSp Z sd (vs ++ []) H1 Q E0; rw [List.append_nil]; exact q ds hd vs G1 H1 x1 dvs⟩
theorem de_callB {id : String} {x : Str} {p : Pos} {r : List D → (D → Prop) → Prop} (hc : CallR X (.builtin id) (liftC Z r)) (hg : Gl X x) (hm : X.mg x = none) (hv : bootBuiltins x = some (.builtin id)) (ha : DA Z X (e :: es) t) (hn : x ≠ "__name__" := by decide) (hdb : (x == ("__debug__" : Str)) = false := by decide)
    (he : starEach (e :: es) X.env = (false, eval e X.env) :: starEach es X.env := by rfl) (hpl : (backTo pos (starEach es X.env)).any (·.1) = false := by rfl) :
    DE Z X (.Call (.Name x p) (e :: es) [] pos) (dCall r t) := (pe_callB hc hg hm hv ha hn hdb he hpl).imp liftCall
theorem de_callTy {T : String} {x : Str} {p : Pos} {r : List D → (D → Prop) → Prop} (hc : CallR X (.type T) (liftC Z r)) (hg : Gl X x) (hm : X.mg x = none) (hv : bootBuiltins x = some (.type T)) (ha : DA Z X (e :: es) t) (hn : x ≠ "__name__" := by decide) (hdb : (x == ("__debug__" : Str)) = false := by decide)
    (he : starEach (e :: es) X.env = (false, eval e X.env) :: starEach es X.env := by rfl) (hpl : (backTo pos (starEach es X.env)).any (·.1) = false := by rfl) :
    DE Z X (.Call (.Name x p) (e :: es) [] pos) (dCall r t) := (pe_callTy hc hg hm hv ha hn hdb he hpl).imp liftCall
end
end L2

set_option Elab.async false
set_option linter.all false
set_option maxRecDepth 100000
set_option maxHeartbeats 4000000
namespace L2
open PySem PySem.Spec PyProof.Rows
section
variable {Z : DC} {X : Cx}
/-! ### + - * // % ** of data -/
def dAdd : DR2 := fun x y P => match x, y with
  | .int i, .int j => P (.int (i + j))
  | .lst a, .lst b => a.length + b.length ≤ sizeLine ∧ P (.lst (a ++ b))
  | .tup a, .tup b => a ≠ [] ∧ a.length + b.length ≤ sizeLine ∧ b ≠ [] ∧ P (.tup (a ++ b))
  | _, _ => False
def dI (c : Int → Int → Prop) (g : Int → Int → Int) : DR2 := fun x y P => match x, y with
  | .int i, .int j => c i j ∧ P (.int (g i j))
  | _, _ => False
def dI0 (g : Int → Int → Int) : DR2 := fun x y P => match x, y with
  | .int i, .int j => P (.int (g i j))
  | _, _ => False
def dSub : DR2 := dI0 fun i j => i - j
def dMul : DR2 := fun x y P => match x, y with
  | .int i, .int j => CMul i j ∧ P (.int (i * j))
  | .lst a, .int k => -(2 ^ 63) ≤ k ∧ k < 2 ^ 63 ∧ a.length * k.toNat ≤ sizeLine ∧ P (.lst (List.replicate k.toNat a).flatten)
  | _, _ => False
def dDiv : DR2 := dI CDiv fun i j => i / j
def dMod : DR2 := dI (fun _ j => 0 < j) fun i j => i % j
def dPow : DR2 := dI CPow fun i j => i ^ j.toNat
theorem liftI2 {f : Value → Value → Sem Value} {c : Int → Int → Prop} {g : Int → Int → Int} (h : OpR X f (rI c fun i j => .int (g i j))) : OpR X f (liftR Z (dI c g)) := by
  refine h.imp ?_
  rintro x y H Q ⟨G, a, b, P, s, da, db, hr, q⟩
  unfold dI at hr
  split at hr
  · exact ⟨_, _, da.ofInt, db.ofInt, hr.1, q _ hr.2 _ G H (.refl s) (.int _)⟩
  · exact hr.elim
theorem liftI0 {f : Value → Value → Sem Value} {g : Int → Int → Int} (h : OpR X f (rI0 fun i j => .int (g i j))) : OpR X f (liftR Z (dI0 g)) := by
  refine h.imp ?_
  rintro x y H Q ⟨G, a, b, P, s, da, db, hr, q⟩
  unfold dI0 at hr
  split at hr
  · exact ⟨_, _, da.ofInt, db.ofInt, q _ hr _ G H (.refl s) (.int _)⟩
  · exact hr.elim
theorem od_sub : OpR X (binaryOp .Sub) (liftR Z dSub) := liftI0 op_sub
theorem od_div : OpR X (binaryOp .FloorDiv) (liftR Z dDiv) := liftI2 op_fdiv
theorem od_mod : OpR X (binaryOp .Mod) (liftR Z dMod) := liftI2 op_mod
theorem od_pow : OpR X (binaryOp .Pow) (liftR Z dPow) := liftI2 op_pow
theorem od_add (e : X.K = Z.K := by rfl) : OpR X (binaryOp .Add) (liftR Z dAdd) := by
  refine (op_add.or (op_cat.or (op_catT))).imp ?_
  rintro x y H Q ⟨G, a, b, P, s, da, db, hr, q⟩
  unfold dAdd at hr
  split at hr
  · exact .inl ⟨_, _, da.ofInt, db.ofInt, q _ hr _ G H (.refl s) (.int _)⟩
  · obtain ⟨a1, xs1, rfl, h1, e1⟩ := da.ofLst
    obtain ⟨a2, xs2, rfl, h2, e2⟩ := db.ofLst
    obtain ⟨hz, hp⟩ := hr
    refine .inr (.inl ⟨_, _, _, _, rfl, rfl, s _ _ h1, s _ _ h2, by rw [e1.length, e2.length]; exact hz, fun p hn => ?_⟩)
    exact q _ hp _ _ _ (.new s hn) (.lst upd_same ((e1.append e2).mono (same_new (s.free hn) _)))
  · obtain ⟨a1, xs1, rfl, h1, e1⟩ := da.ofTup
    obtain ⟨a2, xs2, rfl, h2, e2⟩ := db.ofTup
    obtain ⟨h0, hz, h0', hp⟩ := hr
    refine .inr (.inr ⟨_, _, _, _, rfl, rfl, SqT.of (s _ _ h1), SqT.of (s _ _ h2), ?_, by rw [e1.length, e2.length]; exact hz, ?_⟩)
    · rintro rfl; cases e1; exact h0 rfl
    · refine ⟨?_, fun _ p hn => q _ hp _ _ _ (.new s hn) (.tup upd_same ((e1.append e2).mono (same_new (s.free hn) _)))⟩
      rintro rfl; cases e2; exact (h0' rfl).elim
  · exact hr.elim
theorem DvAll.rep {G : Hp} {vs : List V} {ds : List D} (h : DvAll Z G vs ds) : ∀ k : Nat, DvAll Z G (List.replicate k vs).flatten (List.replicate k ds).flatten
  | 0 => .nil
  | k + 1 => by rw [List.replicate_succ, List.replicate_succ, List.flatten_cons, List.flatten_cons]; exact h.append (DvAll.rep h k)
theorem od_mul : OpR X (binaryOp .Mult) (liftR Z dMul) := by
  refine (op_mul.or op_rep).imp ?_
  rintro x y H Q ⟨G, a, b, P, s, da, db, hr, q⟩
  unfold dMul at hr
  split at hr
  · exact .inl ⟨_, _, da.ofInt, db.ofInt, hr.1, q _ hr.2 _ G H (.refl s) (.int _)⟩
  · obtain ⟨a1, xs1, rfl, h1, e1⟩ := da.ofLst
    obtain ⟨h0, h9, hz, hp⟩ := hr
    refine .inr ⟨_, _, _, rfl, db.ofInt, s _ _ h1, h0, h9, by rw [e1.length]; exact hz, fun p hn => ?_⟩
    exact q _ hp _ _ _ (.new s hn) (.lst upd_same ((e1.rep _).mono (same_new (s.free hn) _)))
  · exact hr.elim
/-! ### == of data -/
mutual
def D.py : D → Option PyData
  | .non => some .none
  | .bl b => some (.bool b)
  | .int i => some (.int i)
  | .str x => some (.str x)
  | .lst l => (pyAll l).map PyData.list
  | .tup l => (pyAll l).map PyData.tuple
  | .scr _ => none
  | .rng _ _ => none
  | .obj _ => none
  | .web _ => none
def pyAll : List D → Option (List PyData)
  | [] => some []
  | d :: ds => (D.py d).bind fun a => (pyAll ds).map fun as => a :: as
end
mutual
theorem Dv.dp {K : PySem.W.Frag} {G : Hp} : ∀ {v : V} {d : D} {e : PyData}, Dv Z G v d → d.py = some e → Dp K G v e
  | _, _, _, .non, h => by simp [D.py] at h; subst h; exact .non
  | _, _, _, .bl b, h => by simp [D.py] at h; subst h; exact .bl b
  | _, _, _, .int i, h => by simp [D.py] at h; subst h; exact .int i
  | _, _, _, .str x k, h => by simp [D.py] at h; subst h; exact .str x k
  | _, _, _, .lst a as, h => by
    simp [D.py] at h
    obtain ⟨l, h1, rfl⟩ := h
    exact .lst (SqL.of a) (DvAll.dp as h1)
  | _, _, _, .tup a as, h => by
    simp [D.py] at h
    obtain ⟨l, h1, rfl⟩ := h
    exact .tup (SqT.of a) (DvAll.dp as h1)
  | _, _, _, .scr _ _, h => by simp [D.py] at h
  | _, _, _, .rng _, h => by simp [D.py] at h
  | _, _, _, .obj _, h => by simp [D.py] at h
  | _, _, _, .web _ _ _ _ _, h => by simp [D.py] at h
theorem DvAll.dp {K : PySem.W.Frag} {G : Hp} : ∀ {vs : List V} {ds : List D} {es : List PyData}, DvAll Z G vs ds → pyAll ds = some es → DpAll K G vs es
  | _, _, _, .nil, h => by simp [pyAll] at h; subst h; exact .nil
  | _, _, _, .cons (d := d) (ds := ds) a as, h => by
    rw [pyAll] at h
    cases h1 : d.py with
    | none => rw [h1] at h; cases h
    | some x =>
      rw [h1] at h
      cases h2 : pyAll ds with
      | none => rw [h2] at h; cases h
      | some y => rw [h2] at h; cases h; exact .cons (Dv.dp a h1) (DvAll.dp as h2)
end
theorem SqT.mono {K : PySem.W.Frag} {H H' : Hp} {a : Addr} {xs : List V} (s : Same H H') (h : SqT K H a xs) : SqT K H' a xs := by
  rcases h with (h | ⟨o, h⟩) | h
  · exact .inl (.inl (s _ _ h))
  · exact .inl (.inr ⟨o, s _ _ h⟩)
  · exact .inr h
mutual
theorem Dp.mono {K : PySem.W.Frag} {G H : Hp} (s : Same G H) : ∀ {v : V} {d : PyData}, Dp K G v d → Dp K H v d
  | _, _, .non => .non
  | _, _, .bl b => .bl b
  | _, _, .int i => .int i
  | _, _, .str x h => .str x h
  | _, _, .lst h a => .lst (h.mono s) (DpAll.mono s a)
  | _, _, .tup h a => .tup (h.mono s) (DpAll.mono s a)
theorem DpAll.mono {K : PySem.W.Frag} {G H : Hp} (s : Same G H) : ∀ {vs : List V} {ds : List PyData}, DpAll K G vs ds → DpAll K H vs ds
  | _, _, .nil => .nil
  | _, _, .cons a as => .cons (Dp.mono s a) (DpAll.mono s as)
end
def dEqN (neg : Bool) : DR2 := fun x y P => ∃ a b, x.py = some a ∧ y.py = some b ∧ a.depth ≤ 64 ∧ P (.bl (if neg then !PyData.eqv a b else PyData.eqv a b))
abbrev dEq : DR2 := dEqN false
abbrev dNe : DR2 := dEqN true
theorem od_eq (hu : X.A.units + 64 < cLine) : OpR X (compareOp .Eq) (liftR Z dEq) := by
  refine (op_eqD hu).imp ?_
  rintro x y H Q ⟨G, a, b, P, s, da, db, ⟨c, d, h1, h2, h3, hp⟩, q⟩
  exact ⟨c, d, (da.dp h1).mono s, (db.dp h2).mono s, h3, q _ hp _ G H (.refl s) (.bl _)⟩
theorem od_ne (hu : X.A.units + 64 < cLine) : OpR X (compareOp .NotEq) (liftR Z dNe) := by
  refine (op_neD hu).imp ?_
  rintro x y H Q ⟨G, a, b, P, s, da, db, ⟨c, d, h1, h2, h3, hp⟩, q⟩
  exact ⟨c, d, (da.dp h1).mono s, (db.dp h2).mono s, h3, q _ hp _ G H (.refl s) (.bl _)⟩
theorem dEq_int {i j : Int} {P : D → Prop} (h : P (.bl (decide (i = j)))) : dEq (.int i) (.int j) P := ⟨.int i, .int j, rfl, rfl, by simp [PyData.depth], by
  have : PyData.eqv (.int i) (.int j) = decide (i = j) := by
    rw [PyData.eqv]
    by_cases z : i = j <;> simp [z]
  simpa [this] using h⟩
theorem dNe_int {i j : Int} {P : D → Prop} (h : P (.bl (!decide (i = j)))) : dNe (.int i) (.int j) P := ⟨.int i, .int j, rfl, rfl, by simp [PyData.depth], by
  have : PyData.eqv (.int i) (.int j) = decide (i = j) := by
    rw [PyData.eqv]
    by_cases z : i = j <;> simp [z]
  simpa [this] using h⟩
/-! ### < <= > >= of ints -/
def dCmp (p : Int → Int → Bool) : DR2 := fun x y P => match x, y with
  | .int i, .int j => P (.bl (p i j))
  | _, _ => False
theorem liftCmp {f : Value → Value → Sem Value} {p : Int → Int → Bool} (h : OpR X f (rI0 fun i j => .bl (p i j))) : OpR X f (liftR Z (dCmp p)) := by
  refine h.imp ?_
  rintro x y H Q ⟨G, a, b, P, s, da, db, hr, q⟩
  unfold dCmp at hr
  split at hr
  · exact ⟨_, _, da.ofInt, db.ofInt, q _ hr _ G H (.refl s) (.bl _)⟩
  · exact hr.elim
end
end L2

set_option Elab.async false
set_option linter.all false
set_option maxRecDepth 100000
set_option maxHeartbeats 4000000
namespace L2
open PySem PySem.Spec PyProof.Rows
section
variable {Z : DC} {X : Cx}
abbrev dLt : DR2 := dCmp fun i j => decide (i < j)
abbrev dLe : DR2 := dCmp fun i j => decide (i ≤ j)
abbrev dGt : DR2 := dCmp fun i j => decide (j < i)
theorem od_lt : OpR X (compareOp .Lt) (liftR Z dLt) := liftCmp op_lt
theorem od_le : OpR X (compareOp .LtE) (liftR Z dLe) := liftCmp op_le
theorem od_gt : OpR X (compareOp .Gt) (liftR Z dGt) := liftCmp op_gt
/-! ### is None -/
def isNon : D → Bool
  | .non => true
  | _ => false
def dIsN (neg : Bool) : DR2 := fun x y P => match y with
  | .non => P (.bl (if neg then !isNon x else isNon x))
  | _ => False
theorem isNon_dv {G : Hp} {v : V} {d : D} (h : Dv Z G v d) : decide (v = .non) = isNon d := by cases h <;> rfl
theorem od_is : OpR X (compareOp .Is) (liftR Z (dIsN false)) := by
  refine op_isN.imp ?_
  rintro x y H Q ⟨G, a, b, P, s, da, db, hr, q⟩
  cases db <;> first | exact hr.elim | skip
  exact ⟨rfl, by rw [isNon_dv da]; exact q _ hr _ G H (.refl s) (.bl _)⟩
theorem od_isnot : OpR X (compareOp .IsNot) (liftR Z (dIsN true)) := by
  refine op_notN.imp ?_
  rintro x y H Q ⟨G, a, b, P, s, da, db, hr, q⟩
  cases db <;> first | exact hr.elim | skip
  exact ⟨rfl, by rw [isNon_dv da]; exact q _ hr _ G H (.refl s) (.bl _)⟩
/-! ### in, not in -/
def flatD : D → Bool
  | .non => true
  | .bl _ => true
  | .int _ => true
  | .str _ => true
  | _ => false
def eqFD : D → D → Bool
  | .non, .non => true
  | .bl a, .bl b => a == b
  | .bl a, .int b => (if a then 1 else 0) == b
  | .int a, .bl b => a == (if b then 1 else 0)
  | .int a, .int b => a == b
  | .str a, .str b => a == b
  | _, _ => false
def inD (x : D) (l : List D) : Bool := l.any fun y => eqFD y x
theorem flat_dv {G : Hp} {v : V} {d : D} (h : Dv Z G v d) : flatV v = flatD d := by cases h <;> rfl
theorem flatAll_dv {G : Hp} : ∀ {vs : List V} {ds : List D}, DvAll Z G vs ds → vs.all flatV = ds.all flatD
  | _, _, .nil => rfl
  | _, _, .cons a as => by rw [List.all_cons, List.all_cons, flat_dv a, flatAll_dv as]
theorem eqF_dv {G : Hp} {v u : V} {d e : D} (h : Dv Z G v d) (k : Dv Z G u e) : eqV v u = eqFD d e := by cases h <;> cases k <;> rfl
theorem in_dv {G : Hp} {v : V} {d : D} (h : Dv Z G v d) : ∀ {vs : List V} {ds : List D}, DvAll Z G vs ds → inV v vs = inD d ds
  | _, _, .nil => rfl
  | _, _, .cons a as => by
    unfold inV inD
    rw [List.any_cons, List.any_cons, eqF_dv a h]
    exact congrArg _ (in_dv h as)
def dIn (neg : Bool) : DR2 := fun x y P => match y with
  | .lst l => flatD x = true ∧ l.all flatD = true ∧ P (.bl (if neg then !inD x l else inD x l))
  | .tup l => flatD x = true ∧ l.all flatD = true ∧ P (.bl (if neg then !inD x l else inD x l))
  | _ => False
theorem rd_in {neg : Bool} : ∀ x y H Q, liftR Z (dIn neg) x y H Q → rIn X.K neg x y H Q := by
  rintro x y H Q ⟨G, a, b, P, s, da, db, hr, q⟩
  cases db <;> first | exact hr.elim | skip
  · rename_i p xs ds h e
    obtain ⟨h1, h2, hp⟩ := hr
    refine ⟨p, xs, rfl, .inl (SqL.of (s _ _ h)), by rw [flat_dv da]; exact h1, by rw [flatAll_dv e]; exact h2, ?_⟩
    rw [in_dv da e]
    exact q _ hp _ G H (.refl s) (.bl _)
  · rename_i p xs ds h e
    obtain ⟨h1, h2, hp⟩ := hr
    refine ⟨p, xs, rfl, .inr (SqT.of (s _ _ h)), by rw [flat_dv da]; exact h1, by rw [flatAll_dv e]; exact h2, ?_⟩
    rw [in_dv da e]
    exact q _ hp _ G H (.refl s) (.bl _)
theorem od_in : OpR X (compareOp .In) (liftR Z (dIn false)) := op_in_seq.imp rd_in
theorem od_notin : OpR X (compareOp .NotIn) (liftR Z (dIn true)) := op_notIn_seq.imp rd_in
/-! ### places and slices -/
def dIx : DR2 := fun x y P => match x, y with
  | .lst l, .int i => ∃ d, atI l i = some d ∧ P d
  | .tup l, .int i => ∃ d, atI l i = some d ∧ P d
  | .scr l, .int i => ∃ n, atI l i = some n ∧ P (.int n)
  | _, _ => False
theorem atI_dv {G : Hp} {vs : List V} {ds : List D} {i : Int} {d : D} (h : DvAll Z G vs ds) (e : atI ds i = some d) : ∃ v, atI vs i = some v ∧ Dv Z G v d := by
  unfold atI at e ⊢
  rw [h.length]
  cases z : ixN ds.length i with
  | none => rw [z] at e; cases e
  | some j => rw [z] at e; exact h.get e
theorem atI_map {α β : Type} (f : α → β) (l : List α) (i : Int) : atI (l.map f) i = (atI l i).map f := by
  unfold atI
  rw [List.length_map]
  cases ixN l.length i with
  | none => rfl
  | some j => show (l.map f)[j]? = _; rw [List.getElem?_map]; rfl
variable {a b c e : Expr} {ta tb tc te : DTE} {pos : Pos}
theorem de_ix (ha : DE Z X a ta) (hb : DE Z X b tb) (eK : X.K = Z.K := by rfl) (hs : PlainIx b := by exact fun _ _ => rfl) : DE Z X (.Subscript a b pos) (dOp dIx ta tb) := by
  refine (pe_ix (ix_list.or ix_tup) ha hb hs).imp fun σ H Q h => ?_
  obtain ⟨G, ρ, P, s, e, h, q⟩ := lift2 σ H Q h
  refine ⟨G, ρ, P, s, e, h, fun d hd v G1 H1 x1 dv => ?_⟩
  obtain ⟨G', ρ', P', s', e', h', q'⟩ := q d hd v G1 H1 x1 dv
  refine ⟨G', ρ', P', s', e', h', fun d2 hd2 v2 G2 H2 x2 dv2 => ?_⟩
  obtain ⟨G, a, b, P, s, da, db, hr, q⟩ := q' d2 hd2 v2 G2 H2 x2 dv2
  unfold dIx at hr
  split at hr
  · obtain ⟨d, h1, hp⟩ := hr
    obtain ⟨_, _, rfl, h, e⟩ := da.ofLst
    obtain ⟨v, hv, dv⟩ := atI_dv e h1
    exact .inl ⟨_, _, _, v, rfl, db.ofInt, SqL.of (s _ _ h), hv, q _ hp _ G _ (.refl s) dv⟩
  · obtain ⟨d, h1, hp⟩ := hr
    obtain ⟨_, _, rfl, h, e⟩ := da.ofTup
    obtain ⟨v, hv, dv⟩ := atI_dv e h1
    exact .inr ⟨_, _, _, v, rfl, db.ofInt, SqT.of (s _ _ h), hv, q _ hp _ G _ (.refl s) dv⟩
  rotate_left
  · exact hr.elim
  · obtain ⟨d, h1, hp⟩ := hr
    obtain ⟨_, rfl, h, _⟩ := da.ofScr
    refine .inl ⟨_, _, _, .int d, rfl, db.ofInt, by rw [eK]; exact h.mono s, by rw [atI_map, h1]; rfl, q _ hp _ G _ (.refl s) (.int d)⟩
def cutD {α : Type} (xs : List α) (lo hi : Option Int) : List α := (xs.drop (HT.sIx xs.length 0 lo)).take (HT.sIx xs.length xs.length hi - HT.sIx xs.length 0 lo)
theorem cut_dv {G : Hp} {vs : List V} {ds : List D} (h : DvAll Z G vs ds) (lo hi : Option Int) : DvAll Z G (cutV vs lo hi) (cutD ds lo hi) := by
  unfold cutV cutD
  rw [h.length]
  exact (h.drop _).take _
theorem cutD_map {α β : Type} (f : α → β) (l : List α) (lo hi : Option Int) : cutD (l.map f) lo hi = (cutD l lo hi).map f := by
  unfold cutD
  rw [List.length_map, List.map_take, List.map_drop]
abbrev DTO := DN → (Option Int → Prop) → Prop
def dNoPart : DTO := fun _ P => P none
def dPart (t : DTE) : DTO := fun ρ P => t ρ fun d => match d with
  | .int i => P (some i)
  | _ => False
def liftO (Z : DC) (t : DTO) : TO := fun σ H Q => ∃ (G : Hp) (ρ : DN) (P : Option Int → Prop), Same G H ∧ EnvD Z G σ ρ ∧ t ρ P ∧ ∀ o, P o → ∀ G' H', Ext G H G' H' → Q o H'
def DO (Z : DC) (X : Cx) (e : Option Expr) (t : DTO) : Prop := PO X e (liftO Z t)
theorem PO.imp {e : Option Expr} {t t' : TO} (h : PO X e t) (f : ∀ σ H Q, t' σ H Q → t σ H Q) : PO X e t' := fun pins s σ H Q I q => h pins s σ H Q I (f _ _ _ q)
theorem do_none : DO Z X none dNoPart := po_none.imp fun σ H Q ⟨G, ρ, P, s, e, p, q⟩ => q _ p G H (.refl s)
theorem do_some (h : DE Z X e te) : DO Z X (some e) (dPart te) := by
  refine (po_some h).imp ?_
  rintro σ H Q ⟨G, ρ, P, s, e, h, q⟩
  refine ⟨G, ρ, _, s, e, h, fun d hd v G1 H1 x1 dv => ?_⟩
  cases dv <;> first | exact hd.elim | skip
  exact ⟨_, rfl, q _ hd G1 H1 x1⟩
def dSl (te : DTE) (tl th : DTO) : DTE := fun ρ P => te ρ fun x => tl ρ fun lo => th ρ fun hi => match x with
  | .lst l => P (.lst (cutD l lo hi))
  | .tup l => ¬ (HT.sIx l.length 0 lo = 0 ∧ HT.sIx l.length l.length hi = l.length) ∧ P (.tup (cutD l lo hi))
  | .scr l => P (.lst ((cutD l lo hi).map D.int))
  | _ => False
variable {lo hi : Option Expr} {tl th : DTO} {p2 : Pos}
theorem de_slice (he : DE Z X e te) (hl : DO Z X lo tl) (hu : DO Z X hi th) (eK : X.K = Z.K := by rfl) : DE Z X (.Subscript e (.Slice lo hi none p2) pos) (dSl te tl th) := by
  refine (pe_slice (sl_list.or sl_tup) he hl hu).imp ?_
  rintro σ H Q ⟨G, ρ, P, s, en, h, q⟩
  refine ⟨G, ρ, _, s, en, h, fun d hd v G1 H1 x1 dv => ?_⟩
  refine ⟨G1, ρ, _, x1.sub, en.mono x1.gg, hd, fun l hl G2 H2 x2 => ?_⟩
  refine ⟨G2, ρ, _, x2.sub, (en.mono x1.gg).mono x2.gg, hl, fun u hu G3 H3 x3 => ?_⟩
  have x := (x1.trans x2).trans x3
  have dv := (dv.mono x2.gg).mono x3.gg
  cases dv <;> first | exact hu.elim | skip
  · rename_i h e
    exact .inl ⟨_, _, rfl, SqL.of (x3.sub _ _ h), fun p hn => q _ hu _ _ _ (x.trans (.new x3.sub hn)) (.lst upd_same ((cut_dv e l u).mono (same_new (x3.sub.free hn) _)))⟩
  · rename_i h e
    refine .inr ⟨_, _, rfl, SqT.of (x3.sub _ _ h), by rw [e.length]; exact hu.1, fun p hn => q _ hu.2 _ _ _ (x.trans (.new x3.sub hn)) (.tup upd_same ((cut_dv e l u).mono (same_new (x3.sub.free hn) _)))⟩
  · rename_i h _
    refine .inl ⟨_, _, rfl, by rw [eK]; exact h.mono x3.sub, fun p hn => q _ hu _ _ _ (x.trans (.new x3.sub hn)) (.lst upd_same ?_)⟩
    show DvAll Z _ (cutD _ l u) _
    rw [cutD_map]
    exact .ints _
/-! ### builtins -/
def bLen : DSp := fun ds P => match ds with
  | [.lst l] => P (.int l.length)
  | [.tup l] => P (.int l.length)
  | [.scr l] => P (.int l.length)
  | _ => False
theorem cd_len (eK : X.K = Z.K := by rfl) : CallR X (.builtin "len") (liftC Z bLen) := by
  refine call_len_seq.imp ?_
  rintro xs H Q ⟨G, ds, P, s, dv, hr, q⟩
  unfold bLen at hr
  split at hr
  · obtain ⟨_, rfl, a⟩ := dv.ofOne
    obtain ⟨_, _, rfl, h, e⟩ := a.ofLst
    exact ⟨_, _, rfl, .inl (SqL.of (s _ _ h)), by rw [e.length]; exact q _ hr _ G H (.refl s) (.int _)⟩
  · obtain ⟨_, rfl, a⟩ := dv.ofOne
    obtain ⟨_, _, rfl, h, e⟩ := a.ofTup
    exact ⟨_, _, rfl, .inr (SqT.of (s _ _ h)), by rw [e.length]; exact q _ hr _ G H (.refl s) (.int _)⟩
  · obtain ⟨_, rfl, a⟩ := dv.ofOne
    obtain ⟨_, rfl, h, _⟩ := a.ofScr
    exact ⟨_, _, rfl, .inl (by rw [eK]; exact h.mono s), by rw [List.length_map]; exact q _ hr _ G H (.refl s) (.int _)⟩
  · exact hr.elim
def bList : DSp := fun ds P => match ds with
  | [.lst l] => P (.lst l)
  | [.tup l] => P (.lst l)
  | _ => False
theorem cd_list : CallR X (.type "list") (liftC Z bList) := by
  refine call_list_of.imp ?_
  rintro xs H Q ⟨G, ds, P, s, dv, hr, q⟩
  unfold bList at hr
  split at hr
  · obtain ⟨_, rfl, a⟩ := dv.ofOne
    obtain ⟨_, _, rfl, h, e⟩ := a.ofLst
    exact ⟨_, _, rfl, .inl (SqL.of (s _ _ h)), fun p hn => q _ hr _ _ _ (.new s hn) (.lst upd_same (e.mono (same_new (s.free hn) _)))⟩
  · obtain ⟨_, rfl, a⟩ := dv.ofOne
    obtain ⟨_, _, rfl, h, e⟩ := a.ofTup
    exact ⟨_, _, rfl, .inr (SqT.of (s _ _ h)), fun p hn => q _ hr _ _ _ (.new s hn) (.lst upd_same (e.mono (same_new (s.free hn) _)))⟩
  · exact hr.elim
def bInt : DSp := fun ds P => match ds with
  | [.int i] => P (.int i)
  | [.bl b] => P (.int (if b then 1 else 0))
  | _ => False
theorem cd_int : CallR X (.type "int") (liftC Z bInt) := by
  refine call_int1.imp ?_
  rintro xs H Q ⟨G, ds, P, s, dv, hr, q⟩
  unfold bInt at hr
  split at hr
  · obtain ⟨_, rfl, a⟩ := dv.ofOne
    exact .inl ⟨_, by rw [a.ofInt], q _ hr _ G H (.refl s) (.int _)⟩
  · obtain ⟨_, rfl, a⟩ := dv.ofOne
    exact .inr ⟨_, by rw [a.ofBl], q _ hr _ G H (.refl s) (.int _)⟩
  · exact hr.elim
/-! ### isinstance of a built-in type -/
def isI : String → D → Bool
  | "int", .int _ => true
  | "int", .bl _ => true
  | "bool", .bl _ => true
  | "list", .lst _ => true
  | "tuple", .tup _ => true
  | _, _ => false
def okI (n : String) : Bool := n == "int" || n == "bool" || n == "list" || n == "tuple"
def okID : D → Bool
  | .non => true
  | .bl _ => true
  | .int _ => true
  | .str _ => true
  | .lst _ => true
  | .tup _ => true
  | _ => false
def dIsI (n : String) (t : DTE) : DTE := fun ρ P => t ρ fun d => okID d = true ∧ P (.bl (isI n d))
theorem kit_is {K : PySem.W.Frag} {H : Hp} {v : V} {d : D} {n : String} (hn : okI n = true) (hd : okID d = true) (h : Dv Z H v d) : ∃ t, TyOf K H v t ∧ PySem.W.kitOne K t (.type n) = some (isI n d) := by
  unfold okI at hn
  rw [Bool.or_eq_true, Bool.or_eq_true, Bool.or_eq_true, beq_iff_eq, beq_iff_eq, beq_iff_eq, beq_iff_eq] at hn
  cases h with
  | non => refine ⟨_, .non, ?_⟩; rcases hn with ((rfl | rfl) | rfl) | rfl <;> kernel_rfl
  | bl b => refine ⟨_, .bl b, ?_⟩; rcases hn with ((rfl | rfl) | rfl) | rfl <;> kernel_rfl
  | int b => refine ⟨_, .int b, ?_⟩; rcases hn with ((rfl | rfl) | rfl) | rfl <;> kernel_rfl
  | str b => refine ⟨_, .str b, ?_⟩; rcases hn with ((rfl | rfl) | rfl) | rfl <;> kernel_rfl
  | lst h a => refine ⟨_, .lst h, ?_⟩; rcases hn with ((rfl | rfl) | rfl) | rfl <;> kernel_rfl
  | tup h a => refine ⟨_, .tup h, ?_⟩; rcases hn with ((rfl | rfl) | rfl) | rfl <;> kernel_rfl
  | _ => cases hd
end
end L2

set_option Elab.async false
set_option linter.all false
set_option maxRecDepth 100000
set_option maxHeartbeats 4000000
namespace L2
open PySem PySem.Spec PyProof.Rows
section
variable {Z : DC} {X : Cx} {a b c e : Expr} {ta tb tc te : DTE} {pos : Pos}
theorem de_isI (n : String) {x : Str} {p p' : Pos} (ha : DE Z X a ta) (hg : Gl X "isinstance") (hm : X.mg "isinstance" = none) (hg' : Gl X x) (hm' : X.mg x = none) (hv : bootBuiltins x = some (.type n)) (ok : okI n = true := by decide)
    (hn : x ≠ "__name__" := by decide) (hd : (x == ("__debug__" : Str)) = false := by decide) (hs : starEach [a, .Name x p'] X.env = (false, eval a X.env) :: starEach [.Name x p'] X.env := by rfl)
    (hpl : (backTo pos (starEach [.Name x p'] X.env)).any (·.1) = false := by rfl) (hs2 : starEach [.Name x p'] X.env = (false, eval (.Name x p') X.env) :: starEach [] X.env := by rfl) :
    DE Z X (.Call (.Name "isinstance" p) [a, .Name x p'] [] pos) (dIsI n ta) := by
  have hb : PE X (.Name x p') (tC (.ty n)) := pe_bltn hg' hm' hv rfl hn hd
  refine (pe_callB call_isinst hg hm (by decide +kernel) (pa_cons ha (pa_cons hb pa_nil hs2) hs) (by decide) (by decide) hs hpl).imp ?_
  rintro σ H Q ⟨G, ρ, P, s, e, h, q⟩
  refine ⟨G, ρ, _, s, e, h, ?_⟩
  rintro d ⟨hk, hp⟩ v G1 H1 x1 dv
  obtain ⟨t, ht, hk'⟩ := kit_is (K := X.K) (H := H1) ok hk (dv.mono x1.sub)
  exact ⟨v, n, t, _, rfl, ht, hk', q _ hp _ G1 H1 x1 (.bl _)⟩
/-! ### targets -/
def liftG (Z : DC) (g : DTG) : TG := fun v σ H Q => ∃ (G : Hp) (ρ : DN) (d : D) (P : DN → Prop), Same G H ∧ EnvD Z G σ ρ ∧ Dv Z G v d ∧ g d ρ P ∧ ∀ ρ', P ρ' → ∀ σ', EnvD Z G σ' ρ' → Q σ' H
def DG (Z : DC) (X : Cx) (e : Expr) (g : DTG) : Prop := PG X e (liftG Z g)
theorem PG.imp {e : Expr} {t t' : TG} (h : PG X e t) (f : ∀ v σ H Q, t' v σ H Q → t v σ H Q) : PG X e t' := fun pins s σ H v u Q I r q => h pins s σ H v u Q I r (f _ _ _ _ q)
def dgName (i : Nat) : DTG := fun d ρ P => P (ρ.set i (some d))
theorem dg_name (i : Nat) {x : Str} (hN : X.N.Nodup) (hi : X.N[i]? = some x := by rfl) (hx : Loc X.env.scope x := by exact Or.inl rfl) (hf : X.fn x = true ∨ X.env.scope.names.lookup x = some .local := by first | exact .inl rfl | exact .inr rfl | assumption) : DG Z X (.Name x pos) (dgName i) :=
  (pg_name hN hi hx hf).imp fun v σ H Q ⟨G, ρ, d, P, s, e, dv, h, q⟩ => q _ h _ (e.set dv)
abbrev DTGs := List D → DN → (DN → Prop) → Prop
def liftGs (Z : DC) (g : DTGs) : TGs := fun vs σ H Q => ∃ (G : Hp) (ρ : DN) (ds : List D) (P : DN → Prop), Same G H ∧ EnvD Z G σ ρ ∧ DvAll Z G vs ds ∧ g ds ρ P ∧ ∀ ρ', P ρ' → ∀ σ', EnvD Z G σ' ρ' → Q σ' H
def DGs (Z : DC) (X : Cx) (es : List Expr) (g : DTGs) : Prop := PGs X es (liftGs Z g)
theorem PGs.imp {es : List Expr} {t t' : TGs} (h : PGs X es t) (f : ∀ v σ H Q, t' v σ H Q → t v σ H Q) : PGs X es t' := fun pins s σ H v u Q I r q => h pins s σ H v u Q I r (f _ _ _ _ q)
def dgNil : DTGs := fun ds ρ P => ds = [] ∧ P ρ
def dgCons (g : DTG) (gs : DTGs) : DTGs := fun ds ρ P => match ds with
  | d :: r => g d ρ fun ρ' => gs r ρ' P
  | [] => False
theorem dgs_nil : DGs Z X [] dgNil := pgs_nil.imp fun v σ H Q ⟨G, ρ, ds, P, s, e, dv, ⟨h, p⟩, q⟩ => by
  subst h
  cases dv
  exact ⟨rfl, q _ p _ e⟩
theorem dgs_cons {es : List Expr} {g : DTG} {gs : DTGs} (h1 : DG Z X e g) (h2 : DGs Z X es gs) (hs : (assignEach (e :: es) X.env).map (·.2) = assign e X.env :: (assignEach es X.env).map (·.2) := by rfl) : DGs Z X (e :: es) (dgCons g gs) := by
  refine (pgs_cons h1 h2 hs).imp ?_
  rintro v σ H Q ⟨G, ρ, ds, P, s, e, dv, h, q⟩
  cases dv with
  | nil => exact h.elim
  | cons a as =>
    refine ⟨_, _, rfl, G, ρ, _, _, s, e, a, h, fun ρ' hp σ' e' => ?_⟩
    exact ⟨G, ρ', _, P, s, e', as, hp, q⟩
def dgTup (n : Nat) (gs : DTGs) : DTG := fun d ρ P => match d with
  | .tup l => l.length = n ∧ gs l ρ P
  | _ => False
theorem dg_tup (n : Nat) {es : List Expr} {k : Nat} {gs : DTGs} (hc : X.calm = true) (h : DGs Z X es gs) (hn : (assignEach es X.env).length = n := by rfl) (hst : (assignEach es X.env).findIdx? (·.1) = none := by rfl) : DG Z X (.Tuple es k pos) (dgTup n gs) := by
  refine (pg_tup hc h hn hst).imp ?_
  rintro v σ H Q ⟨G, ρ, d, P, s, e, dv, h, q⟩
  cases dv <;> first | exact h.elim | skip
  rename_i a xs ds ha es
  exact ⟨a, xs, rfl, SqT.of (s _ _ ha), by rw [es.length]; exact h.1, G, ρ, _, P, s, e, es, h.2, q⟩
/-! ### what is walked -/
def ItOk (Z : DC) (G : Hp) (J : It) (ds : List D) : Prop := ∀ G2 H2, Same G G2 → Same G2 H2 → ∀ i : Nat, (i < ds.length → J.go i H2) ∧ (ds.length ≤ i → J.stop i H2) ∧
  ∀ x H', i < ds.length → J.yld i H2 x H' → ∃ G3 d, Ext G2 H2 G3 H' ∧ ds[i]? = some d ∧ Dv Z G3 x d
def liftI (Z : DC) (wi : DTI) : TI := fun σ H R => ∃ (G : Hp) (ρ : DN) (P : List D → Prop), Same G H ∧ EnvD Z G σ ρ ∧ wi ρ P ∧ ∀ ds, P ds → ∀ J G' H', Ext G H G' H' → ItOk Z G' J ds → R J H'
def DI (Z : DC) (X : Cx) (tg e : Expr) (wi : DTI) : Prop := PI X tg e (liftI Z wi)
theorem PI.imp {tg e : Expr} {t t' : TI} (h : PI X tg e t) (f : ∀ σ H Q, t' σ H Q → t σ H Q) : PI X tg e t' := fun pins s σ H Q I q => h pins s σ H Q I (f _ _ _ q)
def diLst (t : DTE) : DTI := fun ρ P => t ρ fun d => match d with
  | .lst l => P l
  | _ => False
theorem it_list {K : PySem.W.Frag} {G : Hp} {a : Addr} {xs : List V} {ds : List D} (h : G a = some (.lst xs)) (e : DvAll Z G xs ds) : ItOk Z G (Itl K a) ds := by
  intro G2 H2 s1 s2 i
  have h2 := SqL.of (K := K) (s2 _ _ (s1 _ _ h))
  have l := e.length
  refine ⟨fun hi => ⟨xs, xs[i], h2, List.getElem?_eq_getElem (by omega)⟩, fun hi => ⟨xs, h2, by omega⟩, ?_⟩
  rintro x H' hi ⟨rfl, hx⟩
  obtain ⟨d, hd, dv⟩ := e.getV (hx _ h2)
  exact ⟨G2, d, .refl s2, hd, dv.mono s1⟩
theorem di_list {tg : Expr} (h : DE Z X e te) : DI Z X tg e (diLst te) := by
  refine (pi_list h).imp ?_
  rintro σ H Q ⟨G, ρ, P, s, en, h, q⟩
  refine ⟨G, ρ, _, s, en, h, fun d hd v G1 H1 x1 dv => ?_⟩
  cases dv <;> first | exact hd.elim | skip
  rename_i ha e
  exact ⟨_, rfl, ⟨_, SqL.of (x1.sub _ _ ha)⟩, q _ hd _ G1 H1 x1 (it_list ha e)⟩
def rangeD (lo : Int) (n : Nat) : List D := (List.range n).map fun (k : Nat) => D.int (lo + (k : Int))
theorem rangeD_get {lo : Int} {n i : Nat} (h : i < n) : (rangeD lo n)[i]? = some (.int (lo + i)) := by
  unfold rangeD
  rw [List.getElem?_map, List.getElem?_range h]; rfl
theorem it_range {G : Hp} (lo : Int) (n : Nat) : ItOk Z G (Itr lo n) (rangeD lo n) := by
  intro G2 H2 s1 s2 i
  have l : (rangeD lo n).length = n := by unfold rangeD; simp
  rw [l]
  refine ⟨fun hi => hi, fun hi => hi, ?_⟩
  rintro x H' hi ⟨rfl, rfl⟩
  exact ⟨G2, _, .refl s2, rangeD_get hi, .int _⟩
def diR1 (t : DTA) : DTI := fun ρ P => t ρ fun ds => match ds with
  | [.int j] => (-(2 ^ 62) ≤ j ∧ j < 2 ^ 62) ∧ P (rangeD 0 j.toNat)
  | _ => False
def diR2 (t : DTA) : DTI := fun ρ P => t ρ fun ds => match ds with
  | [.int i, .int j] => (-(2 ^ 62) ≤ i ∧ i < 2 ^ 62 ∧ -(2 ^ 62) ≤ j ∧ j < 2 ^ 62) ∧ P (rangeD i (j - i).toNat)
  | _ => False
variable {t : DTA}
theorem di_range1 {tg : Expr} {p : Pos} (hg : Gl X "range") (hm : X.mg "range" = none) (ha : DA Z X [a] t) (hs : starEach [a] X.env = [(false, eval a X.env)] := by rfl) : DI Z X tg (.Call (.Name "range" p) [a] [] pos) (diR1 t) := by
  refine (pi_range1 hg hm ha hs).imp ?_
  rintro σ H Q ⟨G, ρ, P, s, en, h, q⟩
  refine ⟨G, ρ, _, s, en, h, fun ds hd vs G1 H1 x1 dv => ?_⟩
  split at hd
  · obtain ⟨_, rfl, a⟩ := dv.ofOne
    exact ⟨_, by rw [a.ofInt], hd.1.1, hd.1.2, q _ hd.2 _ G1 H1 x1 (it_range 0 _)⟩
  · exact hd.elim
def enumD (l : List D) : List D := l.mapIdx fun i x => .tup [.int (i : Int), x]
def diEnum (t : DTA) : DTI := fun ρ P => t ρ fun ds => match ds with
  | [.lst l] => P (enumD l)
  | _ => False
theorem it_enum {K : PySem.W.Frag} {G : Hp} {a : Addr} {xs : List V} {ds : List D} (h : G a = some (.lst xs)) (e : DvAll Z G xs ds) : ItOk Z G (Ite K a) (enumD ds) := by
  intro G2 H2 s1 s2 i
  have h2 := SqL.of (K := K) (s2 _ _ (s1 _ _ h))
  have l := e.length
  rw [show (enumD ds).length = ds.length by unfold enumD; simp]
  refine ⟨fun hi => ⟨xs, xs[i], h2, List.getElem?_eq_getElem (by omega)⟩, fun hi => ⟨xs, h2, by omega⟩, ?_⟩
  rintro x H' hi ⟨t, y, rfl, ht, rfl, hx⟩
  obtain ⟨d, hd, dv⟩ := e.getV (hx _ h2)
  refine ⟨_, _, .new s2 ht, by unfold enumD; rw [List.getElem?_mapIdx, hd]; rfl, ?_⟩
  exact .tup upd_same (.cons (.int _) (.cons ((dv.mono s1).mono (same_new (s2.free ht) _)) .nil))
theorem di_enum {p : Pos} {es : List Expr} {k1} {tp : Pos} (hg : Gl X "enumerate") (hm : X.mg "enumerate" = none) (ha : DA Z X [a] t) (hs : starEach [a] X.env = [(false, eval a X.env)] := by rfl) : DI Z X (.Tuple es k1 tp) (.Call (.Name "enumerate" p) [a] [] pos) (diEnum t) := by
  refine (pi_enum hg hm ha hs).imp ?_
  rintro σ H Q ⟨G, ρ, P, s, en, h, q⟩
  refine ⟨G, ρ, _, s, en, h, fun ds hd vs G1 H1 x1 dv => ?_⟩
  split at hd
  · obtain ⟨_, rfl, a⟩ := dv.ofOne
    obtain ⟨_, _, rfl, h, e⟩ := a.ofLst
    exact ⟨_, rfl, ⟨_, x1.sub _ _ h⟩, q _ hd _ G1 H1 x1 (it_enum h e)⟩
  · exact hd.elim
def zipD (l m : List D) : List D := List.zipWith (fun x y => .tup [x, y]) l m
def diZip (t : DTA) : DTI := fun ρ P => t ρ fun ds => match ds with
  | [.lst l, .lst m] => P (zipD l m)
  | _ => False
theorem it_zip {G : Hp} {a b : Addr} {xs ys : List V} {ds es : List D} (h : G a = some (.lst xs)) (e : DvAll Z G xs ds) (h' : G b = some (.lst ys)) (e' : DvAll Z G ys es) : ItOk Z G (Itz a b) (zipD ds es) := by
  intro G2 H2 s1 s2 i
  have h2 := s2 _ _ (s1 _ _ h)
  have h3 := s2 _ _ (s1 _ _ h')
  have l := e.length
  have l' := e'.length
  rw [show (zipD ds es).length = min ds.length es.length by unfold zipD; simp]
  refine ⟨fun hi => ⟨xs, ys, xs[i]'(by omega), ys[i]'(by omega), h2, h3, List.getElem?_eq_getElem (by omega), List.getElem?_eq_getElem (by omega)⟩, fun hi => ⟨xs, ys, h2, h3, by omega⟩, ?_⟩
  rintro x H' hi ⟨t, y, z, rfl, ht, rfl, hx, hy⟩
  obtain ⟨d, hd, dv⟩ := e.getV (hx _ h2)
  obtain ⟨d', hd', dv'⟩ := e'.getV (hy _ h3)
  refine ⟨_, _, .new s2 ht, by unfold zipD; rw [List.getElem?_zipWith, hd, hd'], ?_⟩
  have sn := same_new (s2.free ht) (.tup [y, z])
  exact .tup upd_same (.cons ((dv.mono s1).mono sn) (.cons ((dv'.mono s1).mono sn) .nil))
theorem di_zip {p : Pos} {es : List Expr} {k1} {tp : Pos} (hg : Gl X "zip") (hm : X.mg "zip" = none) (ha : DA Z X [a, b] t) (hs : starEach [a, b] X.env = [(false, eval a X.env), (false, eval b X.env)] := by rfl) (hs2 : starEach [b] X.env = [(false, eval b X.env)] := by rfl) : DI Z X (.Tuple es k1 tp) (.Call (.Name "zip" p) [a, b] [] pos) (diZip t) := by
  refine (pi_zip hg hm ha hs hs2).imp ?_
  rintro σ H Q ⟨G, ρ, P, s, en, h, q⟩
  refine ⟨G, ρ, _, s, en, h, fun ds hd vs G1 H1 x1 dv => ?_⟩
  split at hd
  · obtain ⟨u1, u2, rfl, da, db⟩ := dv.ofTwo
    obtain ⟨_, _, rfl, ha, e⟩ := da.ofLst
    obtain ⟨_, _, rfl, hb, e'⟩ := db.ofLst
    exact ⟨_, _, _, _, rfl, x1.sub _ _ ha, x1.sub _ _ hb, q _ hd _ G1 H1 x1 (it_zip ha e hb e')⟩
  · exact hd.elim
/-! ### comprehensions -/
def srcD (src : List (Option Nat)) (ρ : DN) : DN := src.map fun o => o.bind fun i => (ρ[i]?).bind id
theorem EnvD.src {G : Hp} {σ : St} {ρ : DN} (e : EnvD Z G σ ρ) (src : List (Option Nat)) : EnvD Z G (srcS src σ) (srcD src ρ) := by
  refine ⟨by unfold srcS srcD; simp, fun i d h => ?_⟩
  unfold srcD at h
  unfold srcS
  rw [List.getElem?_map] at h ⊢
  cases k : src[i]? with
  | none => rw [k] at h; cases h
  | some o =>
    rw [k] at h
    cases o with
    | none => cases h
    | some j =>
      have h' : (ρ[j]?).bind id = some d := Option.some.inj h
      cases m : ρ[j]? with
      | none => rw [m] at h'; cases h'
      | some z =>
        rw [m] at h'
        have h2 : z = some d := h'
        subst h2
        obtain ⟨v, hv, dv⟩ := e.at_ j d m
        exact ⟨v, by show some ((σ[j]?).bind id) = _; rw [hv]; rfl, dv⟩
/-- the turns of a clause; N: what is wanted behind the last -/
def lcW (g : DTG) (tt : DTT) (te : DTE) : List D → DN → List D → (DN → List D → Prop) → Prop
  | [], ρ, acc, N => N ρ acc
  | x :: xs, ρ, acc, N => g x ρ fun ρ1 => tt ρ1 fun b => if b = true then te ρ1 fun d => acc.length < sizeLine ∧ lcW g tt te xs ρ1 (acc ++ [d]) N else lcW g tt te xs ρ1 acc N
def dLC (wi : DTI) (g : DTG) (tt : DTT) (te : DTE) (src : List (Option Nat)) : DTE := fun ρ P => wi ρ fun ds => lcW g tt te ds (srcD src ρ) [] fun _ out => P (.lst out)
def lcW2 (g : DTG) (tt : DTT) (wi1 : DTI) (g1 : DTG) (tt1 : DTT) (te : DTE) : List D → DN → List D → (List D → Prop) → Prop
  | [], _, acc, P => P acc
  | x :: xs, ρ, acc, P => g x ρ fun ρ1 => tt ρ1 fun b => if b = true then wi1 ρ1 fun es => lcW g1 tt1 te es ρ1 acc fun ρ2 acc2 => lcW2 g tt wi1 g1 tt1 te xs ρ2 acc2 P else lcW2 g tt wi1 g1 tt1 te xs ρ1 acc P
def dLC2 (wi : DTI) (g : DTG) (tt : DTT) (wi1 : DTI) (g1 : DTG) (tt1 : DTT) (te : DTE) (src : List (Option Nat)) : DTE := fun ρ P => wi ρ fun ds => lcW2 g tt wi1 g1 tt1 te ds (srcD src ρ) [] fun out => P (.lst out)
def dYes : DTT := fun _ P => P true
def DTs (Z : DC) (X : Cx) (ifs : List Expr) (t : DTT) : Prop := PTs X ifs (liftT Z t)
theorem PTs.imp {ifs : List Expr} {t t' : TT} (h : PTs X ifs t) (f : ∀ σ H Q, t' σ H Q → t σ H Q) : PTs X ifs t' := fun pins s σ H Q I q => h pins s σ H Q I (f _ _ _ q)
theorem dts_nil : DTs Z X [] dYes := pts_nil.imp fun σ H Q ⟨G, ρ, P, s, e, p, q⟩ => q _ p G H (.refl s)
theorem dts_one {tA : DTT} (h : DT Z X c tA) : DTs Z X [c] tA := pts_one h
/-- the state of a comprehension's block: the pure part, the list that is made, the names -/
def CS (Z : DC) (G1 H1 : Hp) (Ad : Addr) (ρ : DN) (acc : List D) (σ : St) (H : Hp) : Prop :=
  ∃ (G : Hp) (ys : List V), Same G1 G ∧ Same G H ∧ Same H1 H ∧ (∀ b, H1 b ≠ none → G1 b = none → G b = none) ∧ G Ad = none ∧ H Ad = some (.lst ys) ∧ DvAll Z G ys acc ∧ EnvD Z G σ ρ
theorem some_ne {H H' : Hp} (s : Same H H') {b : Addr} (h : H b ≠ none) : H' b ≠ none := fun z => by
  cases e : H b with
  | none => exact h e
  | some o => rw [s b o e] at z; cases z
theorem drop_at {α : Type} {l : List α} {i : Nat} {x : α} (h : l[i]? = some x) : l.drop i = x :: l.drop (i + 1) := by
  obtain ⟨hi, e⟩ := List.getElem?_eq_some_iff.mp h
  rw [List.drop_eq_getElem_cons hi, e]
/-- one clause's turns, over the heap -/
theorem lc_turns {G1 H1 : Hp} {Ad : Addr} {J : It} {ds : List D} {g : DTG} {tt : DTT} {te : DTE} {N : DN → List D → Prop} (hA : H1 Ad = none) (G0 : Hp) (it : ItOk Z G0 J ds) (i : Nat) (ρ : DN) (acc : List D) (σ : St) (H : Hp)
    (c : CS Z G1 H1 Ad ρ acc σ H) (hG : ∀ G, Same G1 G → Same G0 G) (hi : i < ds.length) (h : lcW g tt te (ds.drop i) ρ acc N) :
    J.go i H ∧ ∀ x H3, J.yld i H x H3 → liftG Z g x σ H3 fun σ4 H4 => liftT Z tt σ4 H4 fun b H5 =>
      if b = true then liftE Z te σ4 H5 fun v H6 => ∃ ys, H6 Ad = some (.lst ys) ∧ ys.length < sizeLine ∧ (∃ ρ' acc', CS Z G1 H1 Ad ρ' acc' σ4 (upd H6 Ad (.lst (ys ++ [v]))) ∧ lcW g tt te (ds.drop (i + 1)) ρ' acc' N)
      else ∃ ρ' acc', CS Z G1 H1 Ad ρ' acc' σ4 H5 ∧ lcW g tt te (ds.drop (i + 1)) ρ' acc' N := by
  obtain ⟨G2, ys, s1, s2, s3, off, gA, hAd, dvs, en⟩ := c
  obtain ⟨go, _, yld⟩ := it G2 H (hG _ s1) s2 i
  refine ⟨go hi, fun x H3 y => ?_⟩
  obtain ⟨G3, d, x3, hd, dv⟩ := yld x H3 hi y
  rw [drop_at hd] at h
  refine ⟨G3, ρ, d, _, x3.sub, en.mono x3.gg, dv, h, fun ρ1 h1 σ4 en4 => ?_⟩
  refine ⟨G3, ρ1, _, x3.sub, en4, h1, fun b hb G5 H5 x5 => ?_⟩
  have x35 := x3.trans x5
  have offA : ∀ {G H'' : Hp}, Ext G2 H G H'' → G Ad = none := fun x => x.off Ad (by rw [hAd]; exact fun z => nomatch z) gA
  have offB : ∀ {G H'' : Hp}, Ext G2 H G H'' → ∀ b, H1 b ≠ none → G1 b = none → G b = none := fun x b h1 h2 => x.off b (some_ne s3 h1) (off b h1 h2)
  cases b with
  | false =>
    refine iteF ⟨ρ1, acc, ⟨G5, ys, s1.trans x35.gg, x35.sub, s3.trans x35.hh, offB x35, offA x35, x35.hh _ _ hAd, dvs.mono x35.gg, en4.mono x5.gg⟩, ?_⟩
    simpa using hb
  | true =>
    refine iteT ⟨G5, ρ1, _, x5.sub, en4.mono x5.gg, (by simpa using hb), fun d' hd' v G6 H6 x6 dv6 => ?_⟩
    have x := x35.trans x6
    refine ⟨ys, x.hh _ _ hAd, by rw [dvs.length]; exact hd'.1, ρ1, _, ⟨G6, ys ++ [v], s1.trans x.gg, fun b o e => ?_, fun b o e => ?_, offB x, offA x, upd_same, (dvs.mono x.gg).snoc dv6, (en4.mono x5.gg).mono x6.gg⟩, hd'.2⟩
    · rw [upd_ne (ne_of_none e (offA x))]; exact x.sub _ _ e
    · rw [upd_ne (ne_of_none e hA)]; exact (s3.trans x.hh) _ _ e
theorem CS.done {G H G1 H1 H2 : Hp} {Ad : Addr} {ρ : DN} {acc : List D} {σ : St} (c : CS Z G1 H1 Ad ρ acc σ H2) (x1 : Ext G H G1 H1) (hA : H1 Ad = none) : ∃ G', Ext G H G' H2 ∧ Dv Z G' (.ref Ad) (.lst acc) := by
  obtain ⟨G2, ys, s1, s2, s3, off, gA, hAd, dvs, en⟩ := c
  refine ⟨upd G2 Ad (.lst ys), ⟨(x1.gg.trans s1).trans (same_new gA _), fun b o e => ?_, x1.hh.trans s3, fun b hb hg => ?_⟩, .lst upd_same (dvs.mono (same_new gA _))⟩
  · by_cases z : b = Ad
    · subst z; rw [upd_same] at e; cases e; exact hAd
    · rw [upd_ne z] at e; exact s2 _ _ e
  · have h1 := some_ne x1.hh hb
    rw [upd_ne (fun z => h1 (by rw [z]; exact hA))]
    exact off b h1 (x1.off b hb hg)
theorem CS.begin {G1 H1 : Hp} {Ad : Addr} {ρ : DN} {σ : St} (s : Same G1 H1) (hA : H1 Ad = none) (en : EnvD Z G1 σ ρ) : CS Z G1 H1 Ad ρ [] σ (upd H1 Ad (.lst [])) :=
  ⟨G1, [], .refl _, fun b o e => by rw [upd_ne (ne_of_none e (s.free hA))]; exact s _ _ e, same_new hA _, fun _ _ h => h, s.free hA, upd_same, .nil, en⟩
variable {tg iter elt : Expr} {ifs : List Expr} {scope : Scope} {NC : List Str} {src : List (Option Nat)} {wi : DTI} {g : DTG} {tt : DTT}
theorem liftLC : ∀ σ H Q, liftE Z (dLC wi g tt te src) σ H Q → tLC (liftI Z wi) (liftG Z g) (liftT Z tt) (liftE Z te) src σ H Q := by
  rintro σ H Q ⟨G, ρ, P, s, en, h, q⟩
  refine ⟨G, ρ, _, s, en, h, fun ds hd J G1 H1 x1 it Ad hA => ?_⟩
  refine ⟨fun i m σ2 H2 => m = ds.length - i ∧ i ≤ ds.length ∧ ∃ ρ2 acc, CS Z G1 H1 Ad ρ2 acc σ2 H2 ∧ lcW g tt te (ds.drop i) ρ2 acc fun _ out => P (.lst out), ⟨_, rfl, Nat.zero_le _, _, [], .begin x1.sub hA ((en.mono x1.gg).src src), hd⟩, ?_⟩
  rintro i m σ2 H2 ⟨rfl, hi, ρ2, acc, c, hl⟩
  by_cases hlt : i < ds.length
  · obtain ⟨go, turn⟩ := lc_turns hA G1 it i ρ2 acc σ2 H2 c (fun _ s => s) hlt hl
    exact .inr ⟨go, _, fun σ' H' n => ⟨ds.length - (i + 1), by omega, rfl, hlt, n⟩, turn⟩
  · have e : ds.drop i = [] := List.drop_eq_nil_of_le (by omega)
    rw [e] at hl
    obtain ⟨G', x, dv⟩ := c.done x1 hA
    obtain ⟨G2, ys, s1, s2, _⟩ := c
    exact .inl ⟨(it G2 H2 s1 s2 i).2.1 (by omega), q _ hl _ G' H2 x dv⟩
theorem de_lc (hc : X.calm = true) (c : CompOk X scope) (hsrc : SrcOk scope X.N src NC) (hi : DI Z X tg iter wi)
    (hg : ∀ ex s H, DG Z (cxC X scope NC ex s H) tg g) (ht : ∀ ex s H, DTs Z (cxC X scope NC ex s H) ifs tt) (he : ∀ ex s H, DE Z (cxC X scope NC ex s H) elt te)
    (hs : ∀ x, foldedSetIterable iter X.env x = pure x := by intro _; rfl) : DE Z X (.ListComp elt [⟨tg, iter, ifs, 0⟩] scope pos) (dLC wi g tt te src) := (pe_lc hc c hsrc hi hg ht he hs).imp liftLC
variable {t0 i0 t1 i1 : Expr} {f0 f1 : List Expr} {wi1 : DTI} {g1 : DTG} {tt1 : DTT}
theorem liftLC2 : ∀ σ H Q, liftE Z (dLC2 wi g tt wi1 g1 tt1 te src) σ H Q → tLC2 (liftI Z wi) (liftG Z g) (liftT Z tt) (liftI Z wi1) (liftG Z g1) (liftT Z tt1) (liftE Z te) src σ H Q := by
  rintro σ H Q ⟨G, ρ, P, s, en, h, q⟩
  refine ⟨G, ρ, _, s, en, h, fun ds hd J G1 H1 x1 it Ad hA => ?_⟩
  refine ⟨fun i m σ2 H2 => m = ds.length - i ∧ i ≤ ds.length ∧ ∃ ρ2 acc, CS Z G1 H1 Ad ρ2 acc σ2 H2 ∧ lcW2 g tt wi1 g1 tt1 te (ds.drop i) ρ2 acc fun out => P (.lst out), ⟨_, rfl, Nat.zero_le _, _, [], .begin x1.sub hA ((en.mono x1.gg).src src), hd⟩, ?_⟩
  rintro i m σ2 H2 ⟨rfl, hi, ρ2, acc, c, hl⟩
  by_cases hlt : i < ds.length
  · have c0 := c
    obtain ⟨G2, ys, s1, s2, s3, off, gA, hAd, dvs, en2⟩ := c
    obtain ⟨go, _, yld⟩ := it G2 H2 s1 s2 i
    refine .inr ⟨go hlt, fun σ' H' => ∃ ρ' acc', CS Z G1 H1 Ad ρ' acc' σ' H' ∧ lcW2 g tt wi1 g1 tt1 te (ds.drop (i + 1)) ρ' acc' fun out => P (.lst out), fun σ' H' n => ⟨ds.length - (i + 1), by omega, rfl, hlt, n⟩, fun x H3 y => ?_⟩
    obtain ⟨G3, d, x3, hdd, dv⟩ := yld x H3 hlt y
    rw [drop_at hdd] at hl
    refine ⟨G3, ρ2, d, _, x3.sub, en2.mono x3.gg, dv, hl, fun ρ1 h1 σ4 en4 => ?_⟩
    refine ⟨G3, ρ1, _, x3.sub, en4, h1, fun b hb G5 H5 x5 => ?_⟩
    have x35 := x3.trans x5
    have offA : ∀ {G H'' : Hp}, Ext G2 H2 G H'' → G Ad = none := fun x => x.off Ad (by rw [hAd]; exact fun z => nomatch z) gA
    have offB : ∀ {G H'' : Hp}, Ext G2 H2 G H'' → ∀ b, H1 b ≠ none → G1 b = none → G b = none := fun x b h1 h2 => x.off b (some_ne s3 h1) (off b h1 h2)
    cases b with
    | false => exact iteF ⟨ρ1, acc, ⟨G5, ys, s1.trans x35.gg, x35.sub, s3.trans x35.hh, offB x35, offA x35, x35.hh _ _ hAd, dvs.mono x35.gg, en4.mono x5.gg⟩, by simpa using hb⟩
    | true =>
      refine iteT ⟨G5, ρ1, _, x5.sub, en4.mono x5.gg, (by simpa using hb), fun es hes J1 G6 H6 x6 it1 => ?_⟩
      have x := x35.trans x6
      have c6 : CS Z G6 H6 Ad ρ1 acc σ4 H6 → True := fun _ => trivial
      refine ⟨fun k m σ7 H7 => m = es.length - k ∧ k ≤ es.length ∧ ∃ (ρ7 : DN) (acc7 : List D), (∃ (G : Hp) (ys : List V), Same G6 G ∧ Same G H7 ∧ Same H1 H7 ∧ (∀ b, H1 b ≠ none → G1 b = none → G b = none) ∧ G Ad = none ∧ H7 Ad = some (.lst ys) ∧ DvAll Z G ys acc7 ∧ EnvD Z G σ7 ρ7) ∧
        lcW g1 tt1 te (es.drop k) ρ7 acc7 fun ρ2 acc2 => lcW2 g tt wi1 g1 tt1 te (ds.drop (i + 1)) ρ2 acc2 fun out => P (.lst out),
        ⟨_, rfl, Nat.zero_le _, ρ1, acc, ⟨G6, ys, .refl _, x.sub, s3.trans x.hh, offB x, offA x, x.hh _ _ hAd, dvs.mono x.gg, (en4.mono x5.gg).mono x6.gg⟩, hes⟩, ?_⟩
      rintro k m σ7 H7 ⟨rfl, hk, ρ7, acc7, ⟨G7, ys7, a1, a2, a3, a4, a5, a6, a7, a8⟩, hl7⟩
      have g16 : Same G1 G6 := s1.trans x.gg
      by_cases hklt : k < es.length
      · obtain ⟨go1, _, yld1⟩ := it1 G7 H7 a1 a2 k
        refine .inr ⟨go1 hklt, fun σ' H' => ∃ (ρ' : DN) (acc' : List D), (∃ (G : Hp) (ys : List V), Same G6 G ∧ Same G H' ∧ Same H1 H' ∧ (∀ b, H1 b ≠ none → G1 b = none → G b = none) ∧ G Ad = none ∧ H' Ad = some (.lst ys) ∧ DvAll Z G ys acc' ∧ EnvD Z G σ' ρ') ∧
          lcW g1 tt1 te (es.drop (k + 1)) ρ' acc' fun ρ2 acc2 => lcW2 g tt wi1 g1 tt1 te (ds.drop (i + 1)) ρ2 acc2 fun out => P (.lst out), fun σ' H' n => ⟨es.length - (k + 1), by omega, rfl, hklt, n⟩, fun y H8 hy => ?_⟩
        obtain ⟨G8, d8, x8, hd8, dv8⟩ := yld1 y H8 hklt hy
        rw [drop_at hd8] at hl7
        refine ⟨G8, ρ7, d8, _, x8.sub, a8.mono x8.gg, dv8, hl7, fun ρ9 h9 σ9 en9 => ?_⟩
        refine ⟨G8, ρ9, _, x8.sub, en9, h9, fun b hb G10 H10 x10 => ?_⟩
        have xx := x8.trans x10
        have oA : ∀ {G H'' : Hp}, Ext G7 H7 G H'' → G Ad = none := fun x => x.off Ad (by rw [a6]; exact fun z => nomatch z) a5
        have oB : ∀ {G H'' : Hp}, Ext G7 H7 G H'' → ∀ b, H1 b ≠ none → G1 b = none → G b = none := fun x b h1 h2 => x.off b (some_ne a3 h1) (a4 b h1 h2)
        cases b with
        | false => exact iteF ⟨ρ9, acc7, ⟨G10, ys7, a1.trans xx.gg, xx.sub, a3.trans xx.hh, oB xx, oA xx, xx.hh _ _ a6, a7.mono xx.gg, en9.mono x10.gg⟩, by simpa using hb⟩
        | true =>
          refine iteT ⟨G10, ρ9, _, x10.sub, en9.mono x10.gg, (by simpa using hb), fun d' hd' v G11 H11 x11 dv11 => ?_⟩
          have xz := xx.trans x11
          refine ⟨ys7, xz.hh _ _ a6, by rw [a7.length]; exact hd'.1, ρ9, _, ⟨G11, ys7 ++ [v], a1.trans xz.gg, fun b o e => ?_, fun b o e => ?_, oB xz, oA xz, upd_same, (a7.mono xz.gg).snoc dv11, (en9.mono x10.gg).mono x11.gg⟩, hd'.2⟩
          · rw [upd_ne (ne_of_none e (oA xz))]; exact xz.sub _ _ e
          · rw [upd_ne (ne_of_none e hA)]; exact (a3.trans xz.hh) _ _ e
      · have e : es.drop k = [] := List.drop_eq_nil_of_le (by omega)
        rw [e] at hl7
        exact .inl ⟨(it1 G7 H7 a1 a2 k).2.1 (by omega), ρ7, acc7, ⟨G7, ys7, g16.trans a1, a2, a3, a4, a5, a6, a7, a8⟩, hl7⟩
  · have e : ds.drop i = [] := List.drop_eq_nil_of_le (by omega)
    rw [e] at hl
    obtain ⟨G', x, dv⟩ := c.done x1 hA
    obtain ⟨G2, ys, s1, s2, _⟩ := c
    exact .inl ⟨(it G2 H2 s1 s2 i).2.1 (by omega), q _ hl _ G' H2 x dv⟩
end
end L2

set_option Elab.async false
set_option linter.all false
set_option maxRecDepth 100000
set_option maxHeartbeats 4000000
namespace L2
open PySem PySem.Spec PyProof.Rows
/-! ### owned lists: lists that a def made and changes -/
inductive OwnL (R : V → D → List Addr → Prop) : List V → List D → List Addr → Prop
  | nil : OwnL R [] [] []
  | cons {v : V} {vs : List V} {d : D} {ds : List D} {f fs : List Addr} : R v d f → OwnL R vs ds fs → OwnL R (v :: vs) (d :: ds) (f ++ fs)
def Own (Z : DC) (G H : Hp) : Nat → V → D → List Addr → Prop
  | 0, v, d, fp => Dv Z G v d ∧ fp = []
  | n + 1, v, d, fp => ∃ a xs ds fps, v = .ref a ∧ d = .lst ds ∧ H a = some (.lst xs) ∧ fp = a :: fps ∧ OwnL (Own Z G H n) xs ds fps
theorem OwnL.imp {R R' : V → D → List Addr → Prop} : ∀ {vs : List V} {ds : List D} {fp : List Addr}, OwnL R vs ds fp → (∀ v d f, (∀ b ∈ f, b ∈ fp) → R v d f → R' v d f) → OwnL R' vs ds fp
  | _, _, _, .nil, _ => .nil
  | _, _, _, .cons a as, h => .cons (h _ _ _ (fun b hb => List.mem_append_left _ hb) a) (as.imp fun v d f hf r => h v d f (fun b hb => List.mem_append_right _ (hf b hb)) r)
theorem OwnL.length {R : V → D → List Addr → Prop} : ∀ {vs : List V} {ds : List D} {fp : List Addr}, OwnL R vs ds fp → vs.length = ds.length
  | _, _, _, .nil => rfl
  | _, _, _, .cons _ as => congrArg (· + 1) as.length
section
variable {Z : DC} {G G' H H' : Hp}
theorem Own.keep : ∀ {n : Nat} {v : V} {d : D} {fp : List Addr}, Own Z G H n v d fp → Same G G' → (∀ b ∈ fp, H' b = H b) → Own Z G' H' n v d fp
  | 0, _, _, _, ⟨a, b⟩, s, _ => ⟨a.mono s, b⟩
  | n + 1, _, _, _, ⟨a, xs, ds, fps, hv, hd, ha, hf, ho⟩, s, k => by
    subst hf
    exact ⟨a, xs, ds, fps, hv, hd, by rw [k a (List.mem_cons_self ..)]; exact ha, rfl, ho.imp fun v d f hb r => Own.keep r s fun b q => k b (List.mem_cons_of_mem _ (hb b q))⟩
mutual
theorem Own.dv : ∀ {n : Nat} {v : V} {d : D} {fp : List Addr}, Own Z G H n v d fp → Same G G' → (∀ b ∈ fp, ∀ o, H b = some o → G' b = some o) → Dv Z G' v d
  | 0, _, _, _, ⟨a, _⟩, s, _ => a.mono s
  | n + 1, _, _, _, ⟨a, xs, ds, fps, hv, hd, ha, hf, ho⟩, s, k => by
    subst hf hv hd
    exact .lst (k a (List.mem_cons_self ..) _ ha) (OwnL.dv ho s fun b hb => k b (List.mem_cons_of_mem _ hb))
theorem OwnL.dv : ∀ {n : Nat} {vs : List V} {ds : List D} {fp : List Addr}, OwnL (Own Z G H n) vs ds fp → Same G G' → (∀ b ∈ fp, ∀ o, H b = some o → G' b = some o) → DvAll Z G' vs ds
  | _, _, _, _, .nil, _, _ => .nil
  | n, _, _, _, .cons a as, s, k => .cons (Own.dv a s fun b hb => k b (List.mem_append_left _ hb)) (OwnL.dv as s fun b hb => k b (List.mem_append_right _ hb))
end
theorem OwnL.flat : ∀ {vs : List V} {ds : List D} {fp : List Addr}, OwnL (Own Z G H 0) vs ds fp → DvAll Z G vs ds ∧ fp = []
  | _, _, _, .nil => ⟨.nil, rfl⟩
  | _, _, _, .cons a as => by
    obtain ⟨h1, h2⟩ := as.flat
    obtain ⟨a1, a2⟩ := a
    exact ⟨.cons a1 h1, by rw [a2, h2]; rfl⟩
theorem DvAll.own : ∀ {vs : List V} {ds : List D}, DvAll Z G vs ds → OwnL (Own Z G H 0) vs ds []
  | _, _, .nil => .nil
  | _, _, .cons a as => .cons (f := []) (fs := []) ⟨a, rfl⟩ as.own
end
/-! ### data without lists -/
mutual
def noL : D → Bool
  | .non => true
  | .bl _ => true
  | .int _ => true
  | .str _ => true
  | .tup l => noLs l
  | _ => false
def noLs : List D → Bool
  | [] => true
  | d :: ds => noL d && noLs ds
end
mutual
theorem Dv.noL {Z : DC} {G G' : Hp} (k : ∀ b xs, G b = some (.tup xs) → G' b = some (.tup xs)) : ∀ {v : V} {d : D}, Dv Z G v d → L2.noL d = true → Dv Z G' v d
  | _, _, .non, _ => .non
  | _, _, .bl b, _ => .bl b
  | _, _, .int i, _ => .int i
  | _, _, .str x h, _ => .str x h
  | _, _, .tup h a, f => .tup (k _ _ h) (DvAll.noL k a (by rw [L2.noL] at f; exact f))
  | _, _, .lst _ _, f => by simp [L2.noL] at f
  | _, _, .obj _, f => by simp [L2.noL] at f
  | _, _, .rng _, f => by simp [L2.noL] at f
  | _, _, .scr _ _, f => by simp [L2.noL] at f
  | _, _, .web _ _ _ _ _, f => by simp [L2.noL] at f
theorem DvAll.noL {Z : DC} {G G' : Hp} (k : ∀ b xs, G b = some (.tup xs) → G' b = some (.tup xs)) : ∀ {vs : List V} {ds : List D}, DvAll Z G vs ds → noLs ds = true → DvAll Z G' vs ds
  | _, _, .nil, _ => .nil
  | _, _, .cons a as, f => by
    rw [noLs, Bool.and_eq_true] at f
    exact .cons (Dv.noL k a f.1) (DvAll.noL k as f.2)
end
mutual
theorem Own.dvL {Z : DC} {G G' H : Hp} : ∀ {n : Nat} {v : V} {d : D} {fp : List Addr}, Own Z G H n v d fp → Same G G' → (∀ b ∈ fp, ∀ xs, H b = some (.lst xs) → G' b = some (.lst xs)) → Dv Z G' v d
  | 0, _, _, _, ⟨a, _⟩, s, _ => a.mono s
  | n + 1, _, _, _, ⟨a, xs, ds, fps, hv, hd, ha, hf, ho⟩, s, k => by
    subst hf hv hd
    exact .lst (k a (List.mem_cons_self ..) _ ha) (OwnL.dvL ho s fun b hb => k b (List.mem_cons_of_mem _ hb))
theorem OwnL.dvL {Z : DC} {G G' H : Hp} : ∀ {n : Nat} {vs : List V} {ds : List D} {fp : List Addr}, OwnL (Own Z G H n) vs ds fp → Same G G' → (∀ b ∈ fp, ∀ xs, H b = some (.lst xs) → G' b = some (.lst xs)) → DvAll Z G' vs ds
  | _, _, _, _, .nil, _, _ => .nil
  | n, _, _, _, .cons a as, s, k => .cons (Own.dvL a s fun b hb => k b (List.mem_append_left _ hb)) (OwnL.dvL as s fun b hb => k b (List.mem_append_right _ hb))
end
/-! ### the state of a def's body -/
structure Bs where
  G₀ : Hp
  H₀ : Hp
  Gf : Hp
structure SIx (Z : DC) (B : Bs) (md : List Nat) (ρ : DN) (σ : St) (H G : Hp) (fp : Nat → List Addr) : Prop where
  ex : Ext B.G₀ B.H₀ G H
  fl : Same B.Gf G
  len : ρ.length = σ.length
  at_ : ∀ (i : Nat) (d : D), ρ[i]? = some (some d) → ∃ v, σ[i]? = some (some v) ∧ Own Z G H (md.getD i 0) v d (fp i)
  nd : ∀ i, (fp i).Nodup
  ap : ∀ i j b, i ≠ j → b ∈ fp i → b ∉ fp j
  nw : ∀ i b, b ∈ fp i → B.H₀ b = none ∧ H b ≠ none ∧ G b = none
def SI (Z : DC) (B : Bs) (md : List Nat) (ρ : DN) (σ : St) (H : Hp) : Prop := ∃ G fp, SIx Z B md ρ σ H G fp
/-- the names that hold pure data -/
def pureN : List Nat → DN → DN
  | _, [] => []
  | [], o :: ρ => o :: ρ
  | 0 :: md, o :: ρ => o :: pureN md ρ
  | (_ + 1) :: md, _ :: ρ => none :: pureN md ρ
theorem pureN_len : ∀ (md : List Nat) (ρ : DN), (pureN md ρ).length = ρ.length
  | md, [] => by cases md <;> rfl
  | [], o :: ρ => rfl
  | 0 :: md, o :: ρ => by rw [pureN, List.length_cons, pureN_len md ρ, List.length_cons]
  | (_ + 1) :: md, _ :: ρ => by rw [pureN, List.length_cons, pureN_len md ρ, List.length_cons]
theorem pureN_at {d : D} : ∀ (md : List Nat) (ρ : DN) (i : Nat), (pureN md ρ)[i]? = some (some d) → md.getD i 0 = 0 ∧ ρ[i]? = some (some d)
  | md, [], i, h => by cases md <;> simp [pureN] at h
  | [], o :: ρ, i, h => ⟨by simp, h⟩
  | 0 :: md, o :: ρ, 0, h => ⟨rfl, by simpa [pureN] using h⟩
  | 0 :: md, o :: ρ, i + 1, h => by
    rw [pureN, List.getElem?_cons_succ] at h
    obtain ⟨a, b⟩ := pureN_at md ρ i h
    exact ⟨by rw [List.getD_cons_succ]; exact a, by rw [List.getElem?_cons_succ]; exact b⟩
  | (_ + 1) :: md, _ :: ρ, 0, h => by simp [pureN] at h
  | (_ + 1) :: md, _ :: ρ, i + 1, h => by
    rw [pureN, List.getElem?_cons_succ] at h
    obtain ⟨a, b⟩ := pureN_at md ρ i h
    exact ⟨by rw [List.getD_cons_succ]; exact a, by rw [List.getElem?_cons_succ]; exact b⟩
def vis (md : List Nat) : Bool → DN → DN
  | true, ρ => ρ
  | false, ρ => pureN md ρ
def flatIf : Bool → D → Prop
  | true, d => noL d = true
  | false, _ => True
section
variable {Z : DC} {B : Bs} {md : List Nat} {ρ : DN} {σ : St} {H G : Hp} {fp : Nat → List Addr}
theorem pureN_get {i : Nat} {d : D} (h : (pureN md ρ)[i]? = some (some d)) : md.getD i 0 = 0 ∧ ρ[i]? = some (some d) := pureN_at md ρ i h
theorem SIx.envP (S : SIx Z B md ρ σ H G fp) : EnvD Z G σ (pureN md ρ) := by
  refine ⟨by rw [pureN_len]; exact S.len, fun i d h => ?_⟩
  obtain ⟨z, h⟩ := pureN_get h
  obtain ⟨v, hv, o⟩ := S.at_ i d h
  rw [z] at o
  exact ⟨v, hv, o.1⟩
theorem SIx.envA (S : SIx Z B md ρ σ H G fp) : EnvD Z H σ ρ := by
  refine ⟨S.len, fun i d h => ?_⟩
  obtain ⟨v, hv, o⟩ := S.at_ i d h
  exact ⟨v, hv, o.dv S.ex.sub fun b _ u e => e⟩
/-- the heap grows by pure data -/
theorem SIx.grow {G' H' : Hp} (S : SIx Z B md ρ σ H G fp) (x : Ext G H G' H') : SIx Z B md ρ σ H' G' fp where
  ex := S.ex.trans x
  fl := S.fl.trans x.gg
  len := S.len
  at_ := fun i d h => by
    obtain ⟨v, hv, o⟩ := S.at_ i d h
    refine ⟨v, hv, o.keep x.gg fun b hb => ?_⟩
    cases e : H b with
    | none => exact absurd e (S.nw i b hb).2.1
    | some u => exact x.hh _ _ e
  nd := S.nd
  ap := S.ap
  nw := fun i b hb => let ⟨h1, h2, h3⟩ := S.nw i b hb; ⟨h1, some_ne x.hh h2, x.off b h2 h3⟩
theorem Ext.all {G' H' : Hp} (s : Same G H) (x : Ext H H G' H') : Ext G H G H' := ⟨.refl _, s.trans x.hh, x.hh, fun _ _ h => h⟩
open Classical in
/-- the pure part and the lists of one's own -/
noncomputable def withO (G H : Hp) (fp : Nat → List Addr) : Hp := fun b => if ∃ i, b ∈ fp i then (match H b with | some (.lst xs) => some (.lst xs) | _ => none) else G b
open Classical in
noncomputable def lessO (G : Hp) (fp : Nat → List Addr) : Hp := fun b => if ∃ i, b ∈ fp i then none else G b
theorem withO_in {b : Addr} {xs : List V} (i : Nat) (h : b ∈ fp i) (e : H b = some (.lst xs)) : withO G H fp b = some (.lst xs) := by
  unfold withO
  rw [if_pos ⟨i, h⟩, e]
theorem withO_out {b : Addr} (h : ¬ ∃ i, b ∈ fp i) : withO G H fp b = G b := if_neg h
theorem SIx.envO (S : SIx Z B md ρ σ H G fp) : Same G (withO G H fp) ∧ Same (withO G H fp) H ∧ EnvD Z (withO G H fp) σ ρ := by
  have s1 : Same G (withO G H fp) := fun b o e => by
    by_cases h : ∃ i, b ∈ fp i
    · obtain ⟨i, hi⟩ := h
      rw [(S.nw i b hi).2.2] at e; cases e
    · rw [withO_out h]; exact e
  refine ⟨s1, fun b o e => ?_, S.len, fun i d h => ?_⟩
  · by_cases h : ∃ i, b ∈ fp i
    · unfold withO at e
      rw [if_pos h] at e
      split at e
      · next xs hx => rw [hx]; exact e
      · cases e
    · rw [withO_out h] at e; exact S.ex.sub _ _ e
  · obtain ⟨v, hv, o⟩ := S.at_ i d h
    exact ⟨v, hv, o.dvL s1 fun b hb xs hx => withO_in i hb hx⟩
theorem SIx.offO {G' H' : Hp} (S : SIx Z B md ρ σ H G fp) (x : Ext (withO G H fp) H G' H') : Ext G H (lessO G' fp) H' ∧ ∀ b xs, G' b = some (.tup xs) → lessO G' fp b = some (.tup xs) := by
  obtain ⟨s1, s2, _⟩ := S.envO
  refine ⟨⟨fun b o e => ?_, fun b o e => ?_, x.hh, fun b hb hg => ?_⟩, fun b xs e => ?_⟩
  · have h : ¬ ∃ i, b ∈ fp i := by
      rintro ⟨i, hi⟩
      rw [(S.nw i b hi).2.2] at e; cases e
    unfold lessO
    rw [if_neg h]
    exact x.gg _ _ (s1 _ _ e)
  · unfold lessO at e
    split at e
    · cases e
    · exact x.sub _ _ e
  · unfold lessO
    split
    · rfl
    · next h => exact x.off b hb (by rw [withO_out h]; exact hg)
  · have h : ¬ ∃ i, b ∈ fp i := by
      rintro ⟨i, hi⟩
      have hb := (S.nw i b hi).2.1
      cases hw : withO G H fp b with
      | none => rw [x.off b hb hw] at e; cases e
      | some o =>
        have := x.gg _ _ hw
        rw [e] at this
        cases this
        unfold withO at hw
        rw [if_pos ⟨i, hi⟩] at hw
        split at hw <;> cases hw
    unfold lessO
    rw [if_neg h]; exact e
/-- an expression at a state -/
theorem SIx.ev {t : DTE} {P : D → Prop} {Q : VK} (S : SIx Z B md ρ σ H G fp) (m : Bool) (h : t (vis md m ρ) P)
    (hq : ∀ d, P d → flatIf m d ∧ ∀ v G' H', SIx Z B md ρ σ H' G' fp → Ext G H G' H' → Dv Z G' v d → Q v H') : liftE Z t σ H Q := by
  cases m with
  | false => exact ⟨G, _, P, S.ex.sub, S.envP, h, fun d hd v G' H' x dv => (hq d hd).2 v G' H' (S.grow x) x dv⟩
  | true =>
    obtain ⟨s1, s2, e⟩ := S.envO
    refine ⟨withO G H fp, _, P, s2, e, h, fun d hd v G' H' x dv => ?_⟩
    obtain ⟨x', k⟩ := S.offO x
    exact (hq d hd).2 v _ H' (S.grow x') x' (dv.noL k (hq d hd).1)
theorem SIx.evT {t : DTT} {P : Bool → Prop} {Q : Bool → Hp → Prop} (S : SIx Z B md ρ σ H G fp) (h : t ρ P) (hq : ∀ b, P b → ∀ H', SIx Z B md ρ σ H' G fp → Q b H') : liftT Z t σ H Q :=
  ⟨H, ρ, P, .refl _, S.envA, h, fun b hb G' H' x => hq b hb H' (S.grow (Ext.all S.ex.sub x))⟩
/-- a name gets pure data -/
theorem SIx.setP {i : Nat} {v : V} {d : D} (S : SIx Z B md ρ σ H G fp) (hm : md.getD i 0 = 0) (dv : Dv Z G v d) : SIx Z B md (ρ.set i (some d)) (σ.set i (some v)) H G (fun j => if j = i then [] else fp j) where
  ex := S.ex
  fl := S.fl
  len := by rw [List.length_set, List.length_set]; exact S.len
  at_ := fun j c h => by
    by_cases z : i = j
    · subst z
      by_cases hi : i < ρ.length
      · rw [List.getElem?_set_self hi] at h
        cases h
        exact ⟨v, List.getElem?_set_self (by rw [← S.len]; exact hi), by rw [hm, if_pos rfl]; exact ⟨dv, rfl⟩⟩
      · rw [List.set_eq_of_length_le (Nat.le_of_not_lt hi), List.getElem?_eq_none (Nat.le_of_not_lt hi)] at h; cases h
    · rw [List.getElem?_set_ne z] at h ⊢
      rw [if_neg (Ne.symm z)]
      exact S.at_ j c h
  nd := fun j => by split; exact List.nodup_nil; exact S.nd j
  ap := fun j k b ne hj hk => by
    split at hj
    · cases hj
    · split at hk
      · cases hk
      · exact S.ap j k b ne hj hk
  nw := fun j b hb => by
    split at hb
    · cases hb
    · exact S.nw j b hb
/-- a name gets an owned list -/
theorem SIx.setO {i n : Nat} {v : V} {d : D} {f : List Addr} (S : SIx Z B md ρ σ H G fp) (hm : md.getD i 0 = n) (o : Own Z G H n v d f) (nd : f.Nodup) (nw : ∀ b ∈ f, B.H₀ b = none ∧ H b ≠ none ∧ G b = none) (ap : ∀ b ∈ f, ∀ j, j ≠ i → b ∉ fp j) :
    SIx Z B md (ρ.set i (some d)) (σ.set i (some v)) H G (fun j => if j = i then f else fp j) where
  ex := S.ex
  fl := S.fl
  len := by rw [List.length_set, List.length_set]; exact S.len
  at_ := fun j c h => by
    by_cases z : i = j
    · subst z
      by_cases hi : i < ρ.length
      · rw [List.getElem?_set_self hi] at h
        cases h
        exact ⟨v, List.getElem?_set_self (by rw [← S.len]; exact hi), by rw [hm, if_pos rfl]; exact o⟩
      · rw [List.set_eq_of_length_le (Nat.le_of_not_lt hi), List.getElem?_eq_none (Nat.le_of_not_lt hi)] at h; cases h
    · rw [List.getElem?_set_ne z] at h ⊢
      rw [if_neg (Ne.symm z)]
      exact S.at_ j c h
  nd := fun j => by split; exact nd; exact S.nd j
  ap := fun j k b ne hj hk => by
    split at hj
    · next z =>
      rw [if_neg (fun w => ne (z.trans w.symm))] at hk
      exact ap b hj k (fun w => ne (z.trans w.symm)) hk
    · next z =>
      split at hk
      · exact ap b hk j z hj
      · exact S.ap j k b ne hj hk
  nw := fun j b hb => by
    split at hb
    · exact nw b hb
    · exact S.nw j b hb
/-- owned cells become pure -/
noncomputable def plus (G H : Hp) (F : Addr → Prop) : Hp := fun b => open Classical in if F b then H b else G b
theorem plus_in {F : Addr → Prop} {b : Addr} (h : F b) : plus G H F b = H b := by unfold plus; rw [if_pos h]
theorem plus_out {F : Addr → Prop} {b : Addr} (h : ¬ F b) : plus G H F b = G b := by unfold plus; rw [if_neg h]
theorem plus_sub {F : Addr → Prop} (s : Same G H) : Same (plus G H F) H := fun b o e => by
  by_cases h : F b
  · rw [plus_in h] at e; exact e
  · rw [plus_out h] at e; exact s _ _ e
theorem plus_sup {F : Addr → Prop} (s : Same G H) : Same G (plus G H F) := fun b o e => by
  by_cases h : F b
  · rw [plus_in h]; exact s _ _ e
  · rw [plus_out h]; exact e
theorem SIx.evR {t : DTE} {P : D → Prop} {Q : VK} (S : SIx Z B md ρ σ H G fp) (h : t ρ P) (hq : ∀ d, P d → ∀ v G' H', Ext B.G₀ B.H₀ G' H' → Dv Z G' v d → Q v H') : liftE Z t σ H Q := by
  let F : Addr → Prop := fun b => ∃ i, b ∈ fp i
  have s := S.ex.sub
  have x0 : Ext B.G₀ B.H₀ (plus G H F) H := ⟨S.ex.gg.trans (plus_sup s), plus_sub s, S.ex.hh, fun b hb hg => by
    rw [plus_out (fun ⟨i, hi⟩ => hb (S.nw i b hi).1)]; exact S.ex.off b hb hg⟩
  refine ⟨plus G H F, ρ, P, plus_sub s, ⟨S.len, fun i d h => ?_⟩, h, fun d hd v G' H' x dv => hq d hd v G' H' (x0.trans x) dv⟩
  obtain ⟨v, hv, o⟩ := S.at_ i d h
  exact ⟨v, hv, o.dv (plus_sup s) fun b hb u e => by rw [plus_in ⟨i, hb⟩]; exact e⟩
end
/-! ### statements -/
structure DEnds where
  nx : DN → Prop
  rt : D → Prop
  bk : DN → Prop := fun _ => False
  ct : DN → Prop := fun _ => False
abbrev DTS := DEnds → DN → Prop
structure Meets (Z : DC) (B : Bs) (md : List Nat) (rn : Nat) (E : DEnds) (Dn : Ends) : Prop where
  nx : ∀ ρ, E.nx ρ → ∀ σ H, SI Z B md ρ σ H → Dn.nx σ H
  rt : ∀ d, E.rt d → ∀ v f G' H', Ext B.G₀ B.H₀ G' H' → Own Z G' H' rn v d f → f.Nodup → (∀ b ∈ f, B.H₀ b = none ∧ H' b ≠ none ∧ G' b = none) → Dn.rt v H'
  bk : ∀ ρ, E.bk ρ → ∀ σ H, SI Z B md ρ σ H → Dn.bk σ H
  ct : ∀ ρ, E.ct ρ → ∀ σ H, SI Z B md ρ σ H → Dn.ct σ H
def liftS (Z : DC) (md : List Nat) (rn : Nat) (t : DTS) : TS := fun Dn σ H => ∃ (B : Bs) (ρ : DN) (E : DEnds), SI Z B md ρ σ H ∧ t E ρ ∧ Meets Z B md rn E Dn
def DSt (Z : DC) (X : Cx) (md : List Nat) (rn : Nat) (st : Stmt) (t : DTS) : Prop := PS X st (liftS Z md rn t)
def DSs (Z : DC) (X : Cx) (md : List Nat) (rn : Nat) (sts : List Stmt) (t : DTS) : Prop := PSs X sts (liftS Z md rn t)
theorem PS.imp {X : Cx} {st : Stmt} {t t' : TS} (h : PS X st t) (f : ∀ D σ H, t' D σ H → t D σ H) : PS X st t' := fun pins s σ H D I q => h pins s σ H D I (f _ _ _ q)
theorem PSs.imp {X : Cx} {st : List Stmt} {t t' : TS} (h : PSs X st t) (f : ∀ D σ H, t' D σ H → t D σ H) : PSs X st t' := fun pins s σ H D I q => h pins s σ H D I (f _ _ _ q)
section
variable {Z : DC} {X : Cx} {md : List Nat} {rn : Nat} {st : Stmt} {sts : List Stmt} {t u : DTS} {e : Expr} {te : DTE} {pos : Pos}
def dNext : DTS := fun E ρ => E.nx ρ
def dSeq (t u : DTS) : DTS := fun E ρ => t { E with nx := u E } ρ
theorem dss_nil : DSs Z X md rn [] dNext := pss_nil.imp fun D σ H ⟨B, ρ, E, S, h, M⟩ => M.nx _ h _ _ S
theorem dss_cons (h1 : DSt Z X md rn st t) (h2 : DSs Z X md rn sts u) : DSs Z X md rn (st :: sts) (dSeq t u) :=
  (pss_cons h1 h2).imp fun D σ H ⟨B, ρ, E, S, h, M⟩ => ⟨B, ρ, _, S, h, ⟨fun ρ' h' σ' H' S' => ⟨B, ρ', E, S', h', M⟩, M.rt, M.bk, M.ct⟩⟩
theorem dss_one (h1 : DSt Z X md rn st t) : DSs Z X md rn [st] t := pss_one h1
theorem ds_never : DSt Z X md rn st (fun _ _ => False) := ps_never.imp fun D σ H ⟨B, ρ, E, S, h, M⟩ => h
def dRet (te : DTE) : DTS := fun E ρ => te ρ E.rt
theorem ds_ret (he : DE Z X e te) : DSt Z X md 0 (.Return (some e) pos) (dRet te) := (ps_ret he).imp fun D σ H ⟨B, ρ, E, ⟨G, fp, S⟩, h, M⟩ => S.evR h fun d hd v G' H' x dv => M.rt d hd v [] G' H' x ⟨dv, rfl⟩ List.nodup_nil (fun b hb => by cases hb)
/-- return x, x owned: it is the asker's own -/
def dRetO (i : Nat) : DTS := fun E ρ => ∃ d, ρ[i]? = some (some d) ∧ E.rt d
theorem ds_retO (i : Nat) {x : Str} {px : Pos} (hm : md.getD i 0 = rn := by rfl) (hi : X.N[i]? = some x := by rfl) (hv : Vis X.env.scope x := by first | exact Or.inl rfl | exact Or.inr (Or.inl rfl) | exact Or.inr (Or.inr rfl)) (hd : (x == ("__debug__" : Str)) = false := by decide) (hcd : (x == ("__classdict__" : Str)) = false := by decide) :
    DSt Z X md rn (.Return (some (.Name x px)) pos) (dRetO i) := (ps_ret (pe_var hi hv hd hcd)).imp fun D σ H ⟨B, ρ, E, ⟨G, fp, S⟩, ⟨d, hd, h⟩, M⟩ => by
  obtain ⟨v, hv, o⟩ := S.at_ i d hd
  rw [hm] at o
  exact ⟨v, hv, M.rt d h v (fp i) G H S.ex o (S.nd i) (S.nw i)⟩
def dIfS (c : DTT) (t u : DTS) : DTS := fun E ρ => c ρ fun b => if b = true then t E ρ else u E ρ
theorem ds_if {c : Expr} {a b : List Stmt} {tc : DTT} (hc : DT Z X c tc) (ha : DSs Z X md rn a t) (hb : DSs Z X md rn b u) : DSt Z X md rn (.If c a b pos) (dIfS tc t u) := by
  refine (ps_if hc ha hb).imp ?_
  rintro D σ H ⟨B, ρ, E, ⟨G, fp, S⟩, h, M⟩
  refine S.evT h fun b hb H' S' => ?_
  cases b with
  | true => exact iteT ⟨B, ρ, E, ⟨G, fp, S'⟩, (by simpa using hb), M⟩
  | false => exact iteF ⟨B, ρ, E, ⟨G, fp, S'⟩, (by simpa using hb), M⟩
/-- x = e -/
def dSet (md : List Nat) (m : Bool) (i : Nat) (te : DTE) : DTS := fun E ρ => te (vis md m ρ) fun d => flatIf m d ∧ E.nx (ρ.set i (some d))
theorem ds_set (m : Bool) (i : Nat) {x : Str} {pos' : Pos} (hN : X.N.Nodup) (he : DE Z X e te) (hm : md.getD i 0 = 0 := by rfl) (hi : X.N[i]? = some x := by rfl) (hx : Loc X.env.scope x := by first | exact Or.inl rfl | exact Or.inr rfl) (hs : swapsWith e (some (.Name x pos')) pos.line X.env = pure false := by rfl)
    (hf : X.fn x = true ∨ X.env.scope.names.lookup x = some .local := by first | exact .inl rfl | exact .inr rfl | assumption) : DSt Z X md rn (.Assign [.Name x pos'] e pos) (dSet md m i te) := by
  refine (ps_set hN hi hx he hs hf).imp ?_
  rintro D σ H ⟨B, ρ, E, ⟨G, fp, S⟩, h, M⟩
  exact S.ev m h fun d hd => ⟨hd.1, fun v G' H' S' x dv => M.nx _ hd.2 _ _ ⟨G', _, S'.setP hm dv⟩⟩
/-- x = [comprehension] -/
theorem ds_setlc (i : Nat) {x : Str} {px spos : Pos} {tg iter elt : Expr} {ifs : List Expr} {scope : Scope} {NC : List Str} {src : List (Option Nat)} {wi : DTI} {g : DTG} {tt : DTT} (hc : X.calm = true) (hN : X.N.Nodup) (c : CompOk X scope) (hsrc : SrcOk scope X.N src NC) (hi : DI Z X tg iter wi)
    (hg : ∀ ex s H, DG Z (cxC X scope NC ex s H) tg g) (ht : ∀ ex s H, DTs Z (cxC X scope NC ex s H) ifs tt) (he : ∀ ex s H, DE Z (cxC X scope NC ex s H) elt te)
    (hsw : swapsWith (.ListComp elt [⟨tg, iter, ifs, 0⟩] scope pos) (some (.Name x px)) spos.line X.env = pure true := by rfl) (hm : md.getD i 0 = 0 := by rfl) (hi' : X.N[i]? = some x := by rfl) (hx : Loc X.env.scope x := by first | exact Or.inl rfl | exact Or.inr rfl)
    (hf : X.fn x = true ∨ X.env.scope.names.lookup x = some .local := by first | exact .inl rfl | exact .inr rfl | assumption)
    (hs : ∀ x, foldedSetIterable iter X.env x = pure x := by intro _; rfl) : DSt Z X md rn (.Assign [.Name x px] (.ListComp elt [⟨tg, iter, ifs, 0⟩] scope pos) spos) (dSet md false i (dLC wi g tt te src)) := by
  refine (ps_setlc hc hN hi' hx c hsrc hi hg ht he hsw hf hs).imp ?_
  rintro D σ H ⟨B, ρ, E, ⟨G, fp, S⟩, h, M⟩
  refine liftLC σ H _ (S.ev false h fun d hd => ⟨hd.1, fun v G' H' S' x dv => M.nx _ hd.2 _ _ ⟨G', _, S'.setP hm dv⟩⟩)
end
end L2

set_option Elab.async false
set_option linter.all false
set_option maxRecDepth 100000
set_option maxHeartbeats 4000000
namespace L2
open PySem PySem.Spec PyProof.Rows
section
variable {Z : DC} {X : Cx} {B : Bs} {md : List Nat} {rn : Nat} {ρ : DN} {σ : St} {H G : Hp} {fp : Nat → List Addr}
/-! ### targets at a state -/
def liftGS (Z : DC) (md : List Nat) (g : DTG) : TG := fun v σ H Q => ∃ (B : Bs) (ρ : DN) (d : D) (P : DN → Prop) (G : Hp) (fp : Nat → List Addr), SIx Z B md ρ σ H G fp ∧ Dv Z G v d ∧ g d ρ P ∧ ∀ ρ', P ρ' → ∀ σ' fp', SIx Z B md ρ' σ' H G fp' → Q σ' H
def liftGSs (Z : DC) (md : List Nat) (g : DTGs) : TGs := fun vs σ H Q => ∃ (B : Bs) (ρ : DN) (ds : List D) (P : DN → Prop) (G : Hp) (fp : Nat → List Addr), SIx Z B md ρ σ H G fp ∧ DvAll Z G vs ds ∧ g ds ρ P ∧ ∀ ρ', P ρ' → ∀ σ' fp', SIx Z B md ρ' σ' H G fp' → Q σ' H
def DGS (Z : DC) (X : Cx) (md : List Nat) (e : Expr) (g : DTG) : Prop := PG X e (liftGS Z md g)
def DGSs (Z : DC) (X : Cx) (md : List Nat) (es : List Expr) (g : DTGs) : Prop := PGs X es (liftGSs Z md g)
theorem dt_name (i : Nat) {x : Str} {pos : Pos} (hN : X.N.Nodup) (hm : md.getD i 0 = 0 := by rfl) (hi : X.N[i]? = some x := by rfl) (hx : Loc X.env.scope x := by first | exact Or.inl rfl | exact Or.inr rfl) (hf : X.fn x = true ∨ X.env.scope.names.lookup x = some .local := by first | exact .inl rfl | exact .inr rfl | assumption) : DGS Z X md (.Name x pos) (dgName i) :=
  (pg_name hN hi hx hf).imp fun v σ H Q ⟨B, ρ, d, P, G, fp, S, dv, h, q⟩ => q _ h _ _ (S.setP hm dv)
theorem dts_nil' : DGSs Z X md [] dgNil := pgs_nil.imp fun v σ H Q ⟨B, ρ, ds, P, G, fp, S, dv, ⟨h, p⟩, q⟩ => by
  subst h
  cases dv
  exact ⟨rfl, q _ p _ _ S⟩
theorem dts_cons {e : Expr} {es : List Expr} {g : DTG} {gs : DTGs} (h1 : DGS Z X md e g) (h2 : DGSs Z X md es gs) (hs : (assignEach (e :: es) X.env).map (·.2) = assign e X.env :: (assignEach es X.env).map (·.2) := by rfl) : DGSs Z X md (e :: es) (dgCons g gs) := by
  refine (pgs_cons h1 h2 hs).imp ?_
  rintro v σ H Q ⟨B, ρ, ds, P, G, fp, S, dv, h, q⟩
  cases dv with
  | nil => exact h.elim
  | cons a as => exact ⟨_, _, rfl, B, ρ, _, _, G, fp, S, a, h, fun ρ' hp σ' fp' S' => ⟨B, ρ', _, P, G, fp', S', as, hp, q⟩⟩
theorem dt_tup (n : Nat) {es : List Expr} {k : Nat} {pos : Pos} {gs : DTGs} (hc : X.calm = true) (h : DGSs Z X md es gs) (hn : (assignEach es X.env).length = n := by rfl) (hst : (assignEach es X.env).findIdx? (·.1) = none := by rfl) : DGS Z X md (.Tuple es k pos) (dgTup n gs) := by
  refine (pg_tup hc h hn hst).imp ?_
  rintro v σ H Q ⟨B, ρ, d, P, G, fp, S, dv, h, q⟩
  cases dv <;> first | exact h.elim | skip
  rename_i a xs ds ha es
  exact ⟨a, xs, rfl, SqT.of (S.ex.sub _ _ ha), by rw [es.length]; exact h.1, B, ρ, _, P, G, fp, S, es, h.2, q⟩
/-- a, b = e (pure) -/
def dAsg (md : List Nat) (te : DTE) (g : DTG) : DTS := fun E ρ => te (pureN md ρ) fun d => g d ρ E.nx
theorem ds_asg {tg e : Expr} {te : DTE} {g : DTG} {pos : Pos} (he : DE Z X e te) (hg : DGS Z X md tg g) (hs : swapsWithSole [tg] e pos.line X.env = pure false := by rfl) (hw : swappedStores [tg] e X.env = pure none := by rfl)
    (h1 : (assignEach [tg] X.env).map (·.2) = [assign tg X.env] := by rfl) : DSt Z X md rn (.Assign [tg] e pos) (dAsg md te g) := by
  refine (ps_asg he hg hs hw h1).imp ?_
  rintro D σ H ⟨B, ρ, E, ⟨G, fp, S⟩, h, M⟩
  exact S.ev false h fun d hd => ⟨trivial, fun v G' H' S' x dv => ⟨B, ρ, d, E.nx, G', fp, S', dv, hd, fun ρ' h' σ' fp' S2 => M.nx _ h' _ _ ⟨G', fp', S2⟩⟩⟩
/-! ### for -/
def forW (g : DTG) (tb : DTS) (E : DEnds) : List D → DN → Prop
  | [], ρ => E.nx ρ
  | x :: xs, ρ => g x ρ fun ρ1 => tb { nx := forW g tb E xs, ct := forW g tb E xs, bk := E.nx, rt := E.rt } ρ1
def dFor (md : List Nat) (m : Bool) (wi : DTI) (g : DTG) (tb : DTS) : DTS := fun E ρ => wi (vis md m ρ) fun ds => forW g tb E ds ρ
theorem for_lift {D' : Ends} {J : It} {ds : List D} {g : DTG} {tb : DTS} {E : DEnds} (S : SIx Z B md ρ σ H G fp) (it : ItOk Z G J ds) (hd : forW g tb E ds ρ) (M : Meets Z B md rn E D') :
    ∃ W : Nat → Nat → St → Hp → Prop, (∃ m, W 0 m σ H) ∧ ∀ i m σ H, W i m σ H →
      (J.stop i H ∧ D'.nx σ H) ∨ (J.go i H ∧ ∃ N : St → Hp → Prop, (∀ σ' H', N σ' H' → ∃ m', m' < m ∧ W (i + 1) m' σ' H') ∧ ∀ x H', J.yld i H x H' → liftGS Z md g x σ H' fun σ2 H2 => liftS Z md rn tb { D' with nx := N, ct := N, bk := D'.nx } σ2 H2) := by
  let B1 : Bs := { B with Gf := G }
  have back : ∀ ρ σ H, SI Z B1 md ρ σ H → SI Z B md ρ σ H := fun ρ σ H ⟨G2, fp2, S2⟩ => ⟨G2, fp2, ⟨S2.ex, S.fl.trans S2.fl, S2.len, S2.at_, S2.nd, S2.ap, S2.nw⟩⟩
  have S1 : SIx Z B1 md ρ σ H G fp := ⟨S.ex, .refl _, S.len, S.at_, S.nd, S.ap, S.nw⟩
  refine ⟨fun i m σ H => m = ds.length - i ∧ i ≤ ds.length ∧ ∃ ρ, SI Z B1 md ρ σ H ∧ forW g tb E (ds.drop i) ρ, ⟨_, rfl, Nat.zero_le _, ρ, ⟨G, fp, S1⟩, hd⟩, ?_⟩
  rintro i m σ2 H2 ⟨rfl, hi, ρ2, ⟨G2, fp2, S2⟩, hf⟩
  obtain ⟨go, stop, yld⟩ := it G2 H2 S2.fl S2.ex.sub i
  by_cases hlt : i < ds.length
  · refine .inr ⟨go hlt, fun σ' H' => ∃ ρ', SI Z B1 md ρ' σ' H' ∧ forW g tb E (ds.drop (i + 1)) ρ', fun σ' H' n => ⟨ds.length - (i + 1), by omega, rfl, hlt, n⟩, fun x H' y => ?_⟩
    obtain ⟨G3, d, x3, hdd, dv⟩ := yld x H' hlt y
    rw [drop_at hdd] at hf
    refine ⟨B1, ρ2, d, _, G3, fp2, S2.grow x3, dv, hf, fun ρ4 h4 σ4 fp4 S4 => ?_⟩
    exact ⟨B1, ρ4, _, ⟨G3, fp4, S4⟩, h4, ⟨fun ρ' h' σ' H' s' => ⟨ρ', s', h'⟩, M.rt, fun ρ' h' σ' H' s' => M.nx _ h' _ _ (back _ _ _ s'), fun ρ' h' σ' H' s' => ⟨ρ', s', h'⟩⟩⟩
  · have e : ds.drop i = [] := List.drop_eq_nil_of_le (by omega)
    rw [e] at hf
    exact .inl ⟨stop (by omega), M.nx _ hf _ _ (back _ _ _ ⟨G2, fp2, S2⟩)⟩
variable {tg iter : Expr} {body : List Stmt} {wi : DTI} {g : DTG} {tb : DTS} {pos : Pos}
theorem ds_for (hc : X.calm = true) (hp : PassesOwn (model X.prog X.w) X.A X.env X.xe) (hi : DI Z X tg iter wi) (hg : DGS Z X md tg g) (hb : DSs Z X md rn body tb)
    (hs : ∀ x, foldedSetIterable iter X.env x = pure x := by intro _; rfl) : DSt Z X md rn (.For tg iter body [] pos) (dFor md false wi g tb) := by
  refine (ps_for hp hc hi hg hb hs).imp ?_
  rintro D σ H ⟨B, ρ, E, ⟨G, fp, S⟩, h, M⟩
  exact ⟨G, _, _, S.ex.sub, S.envP, h, fun ds hd J G1 H1 x1 it => for_lift (S.grow x1) it hd M⟩
/-- what is walked leans on no heap -/
def liftIr (Z : DC) (wi : DTI) : TI := fun σ H R => ∃ (G : Hp) (ρ : DN) (P : List D → Prop), Same G H ∧ EnvD Z G σ ρ ∧ wi ρ P ∧ ∀ ds, P ds → ∀ J G' H', Ext G H G' H' → (∀ G2, ItOk Z G2 J ds) → R J H'
def DIr (Z : DC) (X : Cx) (tg e : Expr) (wi : DTI) : Prop := PI X tg e (liftIr Z wi)
theorem ds_forR (hc : X.calm = true) (hp : PassesOwn (model X.prog X.w) X.A X.env X.xe) (hi : DIr Z X tg iter wi) (hg : DGS Z X md tg g) (hb : DSs Z X md rn body tb)
    (hs : ∀ x, foldedSetIterable iter X.env x = pure x := by intro _; rfl) : DSt Z X md rn (.For tg iter body [] pos) (dFor md true wi g tb) := by
  refine (ps_for hp hc hi hg hb hs).imp ?_
  rintro D σ H ⟨B, ρ, E, ⟨G, fp, S⟩, h, M⟩
  exact ⟨H, ρ, _, .refl _, S.envA, h, fun ds hd J G1 H1 x1 it => for_lift (S.grow (Ext.all S.ex.sub x1)) (it _) hd M⟩
variable {a b e : Expr} {ta te : DTE} {t : DTA}
theorem dr_range1 {p : Pos} (hg : Gl X "range") (hm : X.mg "range" = none) (ha : DA Z X [a] t) (hs : starEach [a] X.env = [(false, eval a X.env)] := by rfl) : DIr Z X tg (.Call (.Name "range" p) [a] [] pos) (diR1 t) := by
  refine (pi_range1 hg hm ha hs).imp ?_
  rintro σ H Q ⟨G, ρ, P, s, en, h, q⟩
  refine ⟨G, ρ, _, s, en, h, fun ds hd vs G1 H1 x1 dv => ?_⟩
  split at hd
  · obtain ⟨_, rfl, a⟩ := dv.ofOne
    exact ⟨_, by rw [a.ofInt], hd.1.1, hd.1.2, q _ hd.2 _ G1 H1 x1 fun _ => it_range 0 _⟩
  · exact hd.elim
theorem dr_range2 {p : Pos} (hg : Gl X "range") (hm : X.mg "range" = none) (ha : DA Z X [a, b] t) (hs : starEach [a, b] X.env = [(false, eval a X.env), (false, eval b X.env)] := by rfl) (hs2 : starEach [b] X.env = [(false, eval b X.env)] := by rfl) : DIr Z X tg (.Call (.Name "range" p) [a, b] [] pos) (diR2 t) := by
  refine (pi_range2 hg hm ha hs hs2).imp ?_
  rintro σ H Q ⟨G, ρ, P, s, en, h, q⟩
  refine ⟨G, ρ, _, s, en, h, fun ds hd vs G1 H1 x1 dv => ?_⟩
  split at hd
  · obtain ⟨u1, u2, rfl, da, db⟩ := dv.ofTwo
    exact ⟨_, _, by rw [da.ofInt, db.ofInt], hd.1, q _ hd.2 _ G1 H1 x1 fun _ => it_range _ _⟩
  · exact hd.elim
/-! ### while -/
def dWhile (c : DTT) (tb : DTS) : DTS := fun E ρ => ∃ W : Nat → DN → Prop, (∃ m, W m ρ) ∧ ∀ m ρ, W m ρ → c ρ fun b => if b = true then tb { nx := fun ρ' => ∃ m', m' < m ∧ W m' ρ', ct := fun ρ' => ∃ m', m' < m ∧ W m' ρ', bk := E.nx, rt := E.rt } ρ else E.nx ρ
theorem ds_while {c : Expr} {tc : DTT} (hp : PassesOwn (model X.prog X.w) X.A X.env X.xe) (hc : DT Z X c tc) (hb : DSs Z X md rn body tb) : DSt Z X md rn (.While c body [] pos) (dWhile tc tb) := by
  refine (ps_while hp hc hb).imp ?_
  rintro D σ H ⟨B, ρ, E, S, ⟨W, ⟨m0, w0⟩, turn⟩, M⟩
  refine ⟨fun m σ H => ∃ ρ, SI Z B md ρ σ H ∧ W m ρ, ⟨m0, ρ, S, w0⟩, ?_⟩
  rintro m σ2 H2 ⟨ρ2, ⟨G2, fp2, S2⟩, w2⟩
  refine S2.evT (turn m ρ2 w2) fun b hb H' S' => ?_
  cases b with
  | false => exact iteF (M.nx _ (by simpa using hb) _ _ ⟨G2, fp2, S'⟩)
  | true =>
    refine iteT ⟨fun σ' H' => ∃ ρ' m', m' < m ∧ SI Z B md ρ' σ' H' ∧ W m' ρ', fun σ' H' ⟨ρ', m', h1, h2, h3⟩ => ⟨m', h1, ρ', h2, h3⟩, B, ρ2, _, ⟨G2, fp2, S'⟩, (by simpa using hb), ?_⟩
    exact ⟨fun ρ' ⟨m', h1, h2⟩ σ' H' s' => ⟨ρ', m', h1, s', h2⟩, M.rt, M.nx, fun ρ' ⟨m', h1, h2⟩ σ' H' s' => ⟨ρ', m', h1, s', h2⟩⟩
/-! ### new lists that are owned -/
abbrev DTF := DN → (List D → Prop) → Prop
def liftF (Z : DC) (n : Nat) (t : DTF) : TE := fun σ H Q => ∃ (G : Hp) (ρ : DN) (P : List D → Prop), Same G H ∧ EnvD Z G σ ρ ∧ t ρ P ∧ ∀ ds, P ds → ∀ v f G' H', Ext G H G' H' → Own Z G' H' n v (.lst ds) f → f.Nodup → (∀ b ∈ f, H b = none ∧ H' b ≠ none ∧ G' b = none) → Q v H'
def DF (Z : DC) (X : Cx) (n : Nat) (e : Expr) (t : DTF) : Prop := PE X e (liftF Z n t)
theorem Ext.side {p : Addr} {o : HO} {G1 H1 : Hp} (x : Ext G H G1 H1) (hp : H1 p = none) : Ext G H G1 (upd H1 p o) :=
  ⟨x.gg, fun b u e => by rw [upd_ne (ne_of_none e (x.sub.free hp))]; exact x.sub _ _ e, x.hh.trans (same_new hp _), x.off⟩
theorem own_new {p : Addr} {xs : List V} {ds : List D} {G1 H1 : Hp} (x : Ext G H G1 H1) (hp : H1 p = none) (dv : DvAll Z G1 xs ds) :
    Own Z G1 (upd H1 p (.lst xs)) 1 (.ref p) (.lst ds) [p] ∧ ([p] : List Addr).Nodup ∧ ∀ b ∈ ([p] : List Addr), H b = none ∧ (upd H1 p (.lst xs)) b ≠ none ∧ G1 b = none := by
  refine ⟨⟨p, xs, ds, [], rfl, rfl, upd_same, rfl, dv.own⟩, by simp, fun b hb => ?_⟩
  have : b = p := by simpa using hb
  subst this
  exact ⟨x.hh.free hp, (by rw [upd_same]; exact fun z => nomatch z), x.sub.free hp⟩
def fLst (t : DTA) : DTF := fun ρ P => t ρ fun ds => ds.length ≤ sizeLine ∧ P ds
theorem df_lst {es : List Expr} (h : DA Z X es t) : DF Z X 1 (.List es pos) (fLst t) := by
  refine (pe_lst h).imp ?_
  rintro σ H Q ⟨G, ρ, P, s, e, h, q⟩
  refine ⟨G, ρ, _, s, e, h, ?_⟩
  rintro ds ⟨hl, hp⟩ vs G1 H1 x1 dvs
  refine ⟨by rw [dvs.length]; exact hl, fun p hp' => ?_⟩
  obtain ⟨o1, o2, o3⟩ := own_new x1 hp' dvs
  exact q _ hp _ _ _ _ (x1.side hp') o1 o2 o3
/-- [e] * n -/
def fRep (t : DTA) (tn : DTE) : DTF := fun ρ P => t ρ fun ds => ds.length ≤ sizeLine ∧ tn ρ fun k => match k with
  | .int k => -(2 ^ 63) ≤ k ∧ k < 2 ^ 63 ∧ ds.length * k.toNat ≤ sizeLine ∧ P (List.replicate k.toNat ds).flatten
  | _ => False
theorem df_rep {es : List Expr} {p2 : Pos} (h : DA Z X es t) (hb : DE Z X b te) : DF Z X 1 (.BinOp (.List es p2) .Mult b pos) (fRep t te) := by
  refine (pe_op op_rep (pe_lst h) hb).imp ?_
  rintro σ H Q ⟨G, ρ, P, s, e, h, q⟩
  refine ⟨G, ρ, _, s, e, h, ?_⟩
  rintro ds ⟨hl, hp⟩ vs G1 H1 x1 dvs
  refine ⟨by rw [dvs.length]; exact hl, fun p hp' => ?_⟩
  have x2 : Ext G H (upd G1 p (.lst vs)) (upd H1 p (.lst vs)) := x1.trans (.new x1.sub hp')
  refine ⟨_, ρ, _, x2.sub, e.mono x2.gg, hp, fun k hk v G3 H3 x3 dv => ?_⟩
  cases dv <;> first | exact hk.elim | skip
  obtain ⟨k1, k2, k3, k4⟩ := hk
  have dvs3 : DvAll Z G3 vs ds := dvs.mono ((same_new (x1.sub.free hp') _).trans x3.gg)
  refine ⟨_, _, _, rfl, rfl, x3.hh _ _ upd_same, k1, k2, by rw [dvs.length]; exact k3, fun p2 hp2 => ?_⟩
  have x := x2.trans x3
  obtain ⟨o1, o2, o3⟩ := own_new x hp2 (dvs3.rep _)
  exact q _ k4 _ _ _ _ (x.side hp2) o1 o2 o3
/-- a comprehension -/
def fLC (wi : DTI) (g : DTG) (tt : DTT) (te : DTE) (src : List (Option Nat)) : DTF := fun ρ P => wi ρ fun ds => lcW g tt te ds (srcD src ρ) [] fun _ out => P out
theorem liftFLC {src : List (Option Nat)} {tt : DTT} : ∀ σ H Q, liftF Z 1 (fLC wi g tt te src) σ H Q → tLC (liftI Z wi) (liftG Z g) (liftT Z tt) (liftE Z te) src σ H Q := by
  rintro σ H Q ⟨G, ρ, P, s, en, h, q⟩
  refine ⟨G, ρ, _, s, en, h, fun ds hd J G1 H1 x1 it Ad hA => ?_⟩
  refine ⟨fun i m σ2 H2 => m = ds.length - i ∧ i ≤ ds.length ∧ ∃ ρ2 acc, CS Z G1 H1 Ad ρ2 acc σ2 H2 ∧ lcW g tt te (ds.drop i) ρ2 acc fun _ out => P out, ⟨_, rfl, Nat.zero_le _, _, [], .begin x1.sub hA ((en.mono x1.gg).src src), hd⟩, ?_⟩
  rintro i m σ2 H2 ⟨rfl, hi, ρ2, acc, c, hl⟩
  by_cases hlt : i < ds.length
  · obtain ⟨go, turn⟩ := lc_turns hA G1 it i ρ2 acc σ2 H2 c (fun _ s => s) hlt hl
    exact .inr ⟨go, _, fun σ' H' n => ⟨ds.length - (i + 1), by omega, rfl, hlt, n⟩, turn⟩
  · have e : ds.drop i = [] := List.drop_eq_nil_of_le (by omega)
    rw [e] at hl
    obtain ⟨G2, ys, s1, s2, s3, off, gA, hAd, dvs, en⟩ := c
    refine .inl ⟨(it G2 H2 s1 s2 i).2.1 (by omega), q _ hl (.ref Ad) [Ad] G2 H2 ⟨x1.gg.trans s1, s2, x1.hh.trans s3, fun b hb hg => off b (some_ne x1.hh hb) (x1.off b hb hg)⟩ ⟨Ad, ys, acc, [], rfl, rfl, hAd, rfl, dvs.own⟩ (by simp) fun b hb => ?_⟩
    have : b = Ad := by simpa using hb
    subst this
    exact ⟨x1.hh.free hA, (by rw [hAd]; exact fun z => nomatch z), gA⟩
variable {elt : Expr} {ifs : List Expr} {scope : Scope} {NC : List Str} {src : List (Option Nat)} {tt : DTT}
def dNew (md : List Nat) (i : Nat) (t : DTF) : DTS := fun E ρ => t (pureN md ρ) fun ds => E.nx (ρ.set i (some (.lst ds)))
theorem new_lift {n i : Nat} {t : DTF} {D' : Ends} {E : DEnds} (hm : md.getD i 0 = n) (S : SIx Z B md ρ σ H G fp) (h : t (pureN md ρ) fun ds => E.nx (ρ.set i (some (.lst ds)))) (M : Meets Z B md rn E D') : liftF Z n t σ H fun v H' => D'.nx (σ.set i (some v)) H' := by
  refine ⟨G, _, _, S.ex.sub, S.envP, h, fun ds hd v f G' H' x o nd nw => ?_⟩
  refine M.nx _ hd _ _ ⟨G', _, (S.grow x).setO hm o nd (fun b hb => ⟨S.ex.hh.free (nw b hb).1, (nw b hb).2⟩) fun b hb j _ hj => (S.nw j b hj).2.1 (nw b hb).1⟩
theorem ds_new (i : Nat) {n : Nat} {x : Str} {pos' : Pos} {t : DTF} (hN : X.N.Nodup) (he : DF Z X n e t) (hm : md.getD i 0 = n := by rfl) (hi : X.N[i]? = some x := by rfl) (hx : Loc X.env.scope x := by first | exact Or.inl rfl | exact Or.inr rfl) (hs : swapsWith e (some (.Name x pos')) pos.line X.env = pure false := by rfl)
    (hf : X.fn x = true ∨ X.env.scope.names.lookup x = some .local := by first | exact .inl rfl | exact .inr rfl | assumption) : DSt Z X md rn (.Assign [.Name x pos'] e pos) (dNew md i t) := by
  refine (ps_set hN hi hx he hs hf).imp ?_
  rintro D σ H ⟨B, ρ, E, ⟨G, fp, S⟩, h, M⟩
  exact new_lift hm S h M
theorem ds_newlc (i : Nat) {x : Str} {px spos : Pos} (hc : X.calm = true) (hN : X.N.Nodup) (c : CompOk X scope) (hsrc : SrcOk scope X.N src NC) (hi : DI Z X tg iter wi)
    (hg : ∀ ex s H, DG Z (cxC X scope NC ex s H) tg g) (ht : ∀ ex s H, DTs Z (cxC X scope NC ex s H) ifs tt) (he : ∀ ex s H, DE Z (cxC X scope NC ex s H) elt te)
    (hsw : swapsWith (.ListComp elt [⟨tg, iter, ifs, 0⟩] scope pos) (some (.Name x px)) spos.line X.env = pure true := by rfl) (hm : md.getD i 0 = 1 := by rfl) (hi' : X.N[i]? = some x := by rfl) (hx : Loc X.env.scope x := by first | exact Or.inl rfl | exact Or.inr rfl)
    (hf : X.fn x = true ∨ X.env.scope.names.lookup x = some .local := by first | exact .inl rfl | exact .inr rfl | assumption)
    (hs : ∀ x, foldedSetIterable iter X.env x = pure x := by intro _; rfl) : DSt Z X md rn (.Assign [.Name x px] (.ListComp elt [⟨tg, iter, ifs, 0⟩] scope pos) spos) (dNew md i (fLC wi g tt te src)) := by
  refine (ps_setlc hc hN hi' hx c hsrc hi hg ht he hsw hf hs).imp ?_
  rintro D σ H ⟨B, ρ, E, ⟨G, fp, S⟩, h, M⟩
  exact liftFLC σ H _ (new_lift hm S h M)
end
end L2

set_option Elab.async false
set_option linter.all false
set_option maxRecDepth 100000
set_option maxHeartbeats 4000000
namespace L2
open PySem PySem.Spec PyProof.Rows
section
variable {Z : DC} {X : Cx} {B : Bs} {md : List Nat} {rn : Nat} {ρ : DN} {σ : St} {H G : Hp} {fp : Nat → List Addr} {a e k o : Expr} {ta te tk tp : DTE} {pos apos cpos p2 : Pos}
/-- an owned cell is written -/
theorem SIx.mut {i : Nat} {v : V} {d' : D} {b : Addr} {c : HO} (S : SIx Z B md ρ σ H G fp) (hi : σ[i]? = some (some v)) (hb : b ∈ fp i) (o : Own Z G (upd H b c) (md.getD i 0) v d' (fp i)) : SIx Z B md (ρ.set i (some d')) σ (upd H b c) G fp where
  ex := by
    obtain ⟨h1, h2, h3⟩ := S.nw i b hb
    exact ⟨S.ex.gg, fun x u e => by rw [upd_ne (ne_of_none e h3)]; exact S.ex.sub _ _ e, fun x u e => by rw [upd_ne (ne_of_none e h1)]; exact S.ex.hh _ _ e, S.ex.off⟩
  fl := S.fl
  len := by rw [List.length_set]; exact S.len
  at_ := fun j w h => by
    by_cases z : i = j
    · subst z
      by_cases hl : i < ρ.length
      · rw [List.getElem?_set_self hl] at h
        cases h
        exact ⟨v, hi, o⟩
      · rw [List.set_eq_of_length_le (Nat.le_of_not_lt hl), List.getElem?_eq_none (Nat.le_of_not_lt hl)] at h; cases h
    · rw [List.getElem?_set_ne z] at h
      obtain ⟨u, hu, ow⟩ := S.at_ j w h
      exact ⟨u, hu, ow.keep (.refl _) fun x hx => upd_ne fun q => S.ap i j b z hb (by rw [← q]; exact hx)⟩
  nd := S.nd
  ap := S.ap
  nw := fun j x hx => by
    obtain ⟨h1, h2, h3⟩ := S.nw j x hx
    refine ⟨h1, ?_, h3⟩
    by_cases z : x = b
    · rw [z, upd_same]; exact fun q => nomatch q
    · rw [upd_ne z]; exact h2
/-- the cell of an owned list of depth one -/
theorem SIx.one {i : Nat} {d : D} (S : SIx Z B md ρ σ H G fp) (hm : md.getD i 0 = 1) (h : ρ[i]? = some (some d)) : ∃ l xs ds, d = .lst ds ∧ σ[i]? = some (some (.ref l)) ∧ H l = some (.lst xs) ∧ DvAll Z G xs ds ∧
    ∀ xs' ds', DvAll Z G xs' ds' → SIx Z B md (ρ.set i (some (.lst ds'))) σ (upd H l (.lst xs')) G fp := by
  obtain ⟨v, hv, o⟩ := S.at_ i d h
  rw [hm] at o
  obtain ⟨l, xs, ds, fps, rfl, rfl, hl, hf, ol⟩ := o
  obtain ⟨dv, rfl⟩ := ol.flat
  refine ⟨l, xs, ds, rfl, hv, hl, dv, fun xs' ds' dv' => S.mut hv (by rw [hf]; simp) ?_⟩
  rw [hm, hf]
  exact ⟨l, xs', ds', [], rfl, rfl, upd_same, rfl, dv'.own⟩
theorem OwnL.at1 : ∀ {ys : List V} {dss : List D} {fps : List Addr} (p : Nat) {dp : D}, OwnL (Own Z G H 1) ys dss fps → fps.Nodup → dss[p]? = some dp → ∃ l xs ds, dp = .lst ds ∧ ys[p]? = some (.ref l) ∧ H l = some (.lst xs) ∧ DvAll Z G xs ds ∧ l ∈ fps ∧
    ∀ xs' ds', DvAll Z G xs' ds' → OwnL (Own Z G (upd H l (.lst xs')) 1) ys (dss.set p (.lst ds')) fps
  | _, _, _, _, _, .nil, _, h => by simp at h
  | _, _, _, 0, dp, .cons (f := f) (fs := fs) a as, nd, h => by
    simp at h; subst h
    obtain ⟨l, xs, ds, fps, rfl, rfl, hl, hf, ol⟩ := a
    obtain ⟨dv, rfl⟩ := ol.flat
    subst hf
    refine ⟨l, xs, ds, rfl, rfl, hl, dv, by simp, fun xs' ds' dv' => .cons ⟨l, xs', ds', [], rfl, rfl, upd_same, rfl, dv'.own⟩ (as.imp fun v d f hf r => r.keep (.refl _) fun b hb => upd_ne fun z => ?_)⟩
    have := (List.nodup_cons.mp nd).1
    exact this (by subst z; exact hf _ hb)
  | _, _, _, p + 1, dp, .cons (f := f) (fs := fs) a as, nd, h => by
    obtain ⟨nd1, nd2, nd3⟩ := List.nodup_append.mp nd
    obtain ⟨l, xs, ds, e1, e2, e3, e4, e5, e6⟩ := OwnL.at1 p (dp := dp) as nd2 (by simpa using h)
    refine ⟨l, xs, ds, e1, by simpa using e2, e3, e4, List.mem_append_right _ e5, fun xs' ds' dv' => ?_⟩
    refine .cons (a.keep (.refl _) fun b hb => upd_ne fun z => ?_) (e6 xs' ds' dv')
    exact nd3 b hb l e5 z
/-- a row of an owned list of depth two -/
theorem SIx.two {i p : Nat} {dss : List D} {dp : D} (S : SIx Z B md ρ σ H G fp) (hm : md.getD i 0 = 2) (h : ρ[i]? = some (some (.lst dss))) (hp : dss[p]? = some dp) : ∃ T ys l xs ds, dp = .lst ds ∧ σ[i]? = some (some (.ref T)) ∧ H T = some (.lst ys) ∧ ys.length = dss.length ∧ ys[p]? = some (.ref l) ∧ H l = some (.lst xs) ∧ DvAll Z G xs ds ∧
    ∀ xs' ds', DvAll Z G xs' ds' → SIx Z B md (ρ.set i (some (.lst (dss.set p (.lst ds'))))) σ (upd H l (.lst xs')) G fp := by
  obtain ⟨v, hv, o⟩ := S.at_ i _ h
  rw [hm] at o
  obtain ⟨T, ys, ds0, fps, rfl, e0, hT, hf, ol⟩ := o
  cases e0
  have nd := S.nd i
  rw [hf] at nd
  obtain ⟨nT, nd2⟩ := List.nodup_cons.mp nd
  obtain ⟨l, xs, ds, e1, e2, e3, e4, e5, e6⟩ := OwnL.at1 p ol nd2 hp
  refine ⟨T, ys, l, xs, ds, e1, hv, hT, ol.length, e2, e3, e4, fun xs' ds' dv' => S.mut hv (by rw [hf]; exact List.mem_cons_of_mem _ e5) ?_⟩
  rw [hm, hf]
  exact ⟨T, ys, _, fps, rfl, rfl, by rw [upd_ne (fun z => nT (by rw [z]; exact e5))]; exact hT, rfl, e6 xs' ds' dv'⟩
theorem ty_list {K : PySem.W.Frag} {l : Addr} {xs : List V} (h : H l = some (.lst xs)) : tyV K "list" (.ref l) H := .inl ⟨rfl, _, SqL.of h⟩
/-! ### x.append(e) -/
def dApp (md : List Nat) (m : Bool) (i : Nat) (te : DTE) : DTS := fun E ρ => ∃ ds, ρ[i]? = some (some (.lst ds)) ∧ te (vis md m ρ) fun d => flatIf m d ∧ ds.length < sizeLine ∧ E.nx (ρ.set i (some (.lst (ds ++ [d]))))
theorem ds_app (m : Bool) (i : Nat) {x : Str} {px : Pos} (he : DE Z X e te) (hm : md.getD i 0 = 1 := by rfl) (hi : X.N[i]? = some x := by rfl) (hv : Vis X.env.scope x := by first | exact Or.inl rfl | exact Or.inr (Or.inl rfl) | exact Or.inr (Or.inr rfl)) (hd : (x == ("__debug__" : Str)) = false := by decide) (hcd : (x == ("__classdict__" : Str)) = false := by decide)
    (hbase : attributeBase (.Name x px) "append" X.env (eval (.Name x px) X.env) = eval (.Name x px) X.env := by rfl)
    (hfew : ((backTo cpos (starEach [e] X.env)).all (fun x => !x.1) && (backToKw cpos (keywordEach [] X.env)).all (fun x => x.1.isSome) && decide (([e] : List Expr).length + ([] : List Keyword).length + (if ([] : List Keyword).isEmpty then 0 else 1) < 30)) = true := by rfl)
    (hline : (apos.endLine == cpos.line) = true := by rfl) (hs : starEach [e] X.env = (false, eval e X.env) :: starEach [] X.env := by rfl) (hplain : (backTo cpos (starEach [] X.env)).any (·.1) = false := by rfl)
    (hsw : swapsWith (.Call (.Attribute (.Name x px) "append" apos) [e] [] cpos) none pos.line X.env = pure false := by rfl) :
    DSt Z X md rn (.Expr (.Call (.Attribute (.Name x px) "append" apos) [e] [] cpos) pos) (dApp md m i te) := by
  refine (ps_expr (pe_bm PySem.F.plainAttrs_list PySem.F.slot_list_append PySem.F.type_list_append mt_append (pv i hi hv hd hcd) (pa_cons he pa_nil hs) hbase hfew hline hs hplain) hsw).imp ?_
  rintro D σ H ⟨B, ρ, E, ⟨G, fp, S⟩, ⟨ds, h1, h⟩, M⟩
  obtain ⟨l, xs, _, _, e2, e3, _⟩ := S.one hm h1
  refine ⟨_, e2, ty_list e3, S.ev m h fun d hd => ⟨hd.1, fun v G' H' S' x dv => ?_⟩⟩
  obtain ⟨_, h2, h3⟩ := hd
  obtain ⟨l', xs', ds', e1, e2', e3', dvs, put⟩ := S'.one hm h1
  cases e1
  rw [e2] at e2'
  cases e2'
  exact ⟨l, xs', v, rfl, rfl, e3', by rw [dvs.length]; exact h2, M.nx _ h3 _ _ ⟨G', fp, put _ _ (dvs.snoc dv)⟩⟩
/-! ### x.insert(k, e) -/
/-! ### x[p].append(e), x[p].insert(k, e) -/
def dApp2 (md : List Nat) (m : Bool) (i : Nat) (tp te : DTE) : DTS := fun E ρ => ∃ dss, ρ[i]? = some (some (.lst dss)) ∧ tp ρ fun pp => ∃ p j ds, pp = .int p ∧ ixN dss.length p = some j ∧ dss[j]? = some (.lst ds) ∧
  te (vis md m ρ) fun d => flatIf m d ∧ ds.length < sizeLine ∧ E.nx (ρ.set i (some (.lst (dss.set j (.lst (ds ++ [d]))))))
theorem atI_of {α : Type} {xs : List α} {i : Int} {j n : Nat} {v : α} (hn : xs.length = n) (h : ixN n i = some j) (e : xs[j]? = some v) : atI xs i = some v := by unfold atI; rw [hn, h]; exact e
theorem ds_app2 (m : Bool) (i : Nat) {x : Str} {px ps : Pos} (hp : DE Z X k tp) (he : DE Z X e te) (hm : md.getD i 0 = 2 := by rfl) (hpx : PlainIx k := by exact fun _ _ => rfl) (hi : X.N[i]? = some x := by rfl) (hv : Vis X.env.scope x := by first | exact Or.inl rfl | exact Or.inr (Or.inl rfl) | exact Or.inr (Or.inr rfl)) (hd : (x == ("__debug__" : Str)) = false := by decide) (hcd : (x == ("__classdict__" : Str)) = false := by decide)
    (hbase : attributeBase (.Subscript (.Name x px) k ps) "append" X.env (eval (.Subscript (.Name x px) k ps) X.env) = eval (.Subscript (.Name x px) k ps) X.env := by rfl)
    (hfew : ((backTo cpos (starEach [e] X.env)).all (fun x => !x.1) && (backToKw cpos (keywordEach [] X.env)).all (fun x => x.1.isSome) && decide (([e] : List Expr).length + ([] : List Keyword).length + (if ([] : List Keyword).isEmpty then 0 else 1) < 30)) = true := by rfl)
    (hline : (apos.endLine == cpos.line) = true := by rfl) (hs : starEach [e] X.env = (false, eval e X.env) :: starEach [] X.env := by rfl) (hplain : (backTo cpos (starEach [] X.env)).any (·.1) = false := by rfl)
    (hsw : swapsWith (.Call (.Attribute (.Subscript (.Name x px) k ps) "append" apos) [e] [] cpos) none pos.line X.env = pure false := by rfl) :
    DSt Z X md rn (.Expr (.Call (.Attribute (.Subscript (.Name x px) k ps) "append" apos) [e] [] cpos) pos) (dApp2 md m i tp te) := by
  refine (ps_expr (pe_bm PySem.F.plainAttrs_list PySem.F.slot_list_append PySem.F.type_list_append mt_append (pe_ix ix_list (pv i hi hv hd hcd) hp hpx) (pa_cons he pa_nil hs) hbase hfew hline hs hplain) hsw).imp ?_
  rintro D σ H ⟨B, ρ, E, ⟨G, fp, S⟩, ⟨dss, h1, h⟩, M⟩
  obtain ⟨v0, hv0, o⟩ := S.at_ i _ h1
  refine ⟨_, hv0, S.ev true h ?_⟩
  rintro _ ⟨p, j, ds, rfl, hj, hd, h⟩
  refine ⟨rfl, fun v1 G1 H1 S1 x1 dv1 => ?_⟩
  cases dv1
  obtain ⟨T, ys, l, xs, ds', e1, e2, e3, e4, e5, e6, dvs, _⟩ := S1.two hm h1 hd
  rw [e2] at hv0
  cases hv0
  refine ⟨T, ys, p, .ref l, rfl, rfl, SqL.of e3, atI_of e4 hj e5, ty_list e6, S1.ev m h fun d hd' => ⟨hd'.1, fun v G' H' S' x dv => ?_⟩⟩
  obtain ⟨T', ys', l', xs', ds2, e1', e2', e3', e4', e5', e6', dvs', put⟩ := S'.two hm h1 hd
  cases e1'
  rw [e2] at e2'
  cases e2'
  have : ys' = ys := by
    have := x.hh _ _ e3
    rw [e3'] at this; cases this; rfl
  rw [this, e5] at e5'
  cases e5'
  exact ⟨l, xs', v, rfl, rfl, e6', by rw [dvs'.length]; exact hd'.2.1, M.nx _ hd'.2.2 _ _ ⟨G', fp, put _ _ (dvs'.snoc dv)⟩⟩
/-! ### x[k] = e -/
def dSetIx (md : List Nat) (m : Bool) (i : Nat) (tk te : DTE) : DTS := fun E ρ => te (vis md m ρ) fun d => flatIf m d ∧ ∃ ds, ρ[i]? = some (some (.lst ds)) ∧ tk ρ fun kk => ∃ k j, kk = .int k ∧ ixN ds.length k = some j ∧ E.nx (ρ.set i (some (.lst (ds.set j d))))
theorem ds_setix (m : Bool) (i : Nat) {x : Str} {px ps : Pos} (hk : DE Z X k tk) (he : DE Z X e te) (hm : md.getD i 0 = 1 := by rfl) (hi : X.N[i]? = some x := by rfl) (hv : Vis X.env.scope x := by first | exact Or.inl rfl | exact Or.inr (Or.inl rfl) | exact Or.inr (Or.inr rfl)) (hd : (x == ("__debug__" : Str)) = false := by decide) (hcd : (x == ("__classdict__" : Str)) = false := by decide)
    (ha : ∀ v, assign (.Subscript (.Name x px) k ps) X.env v = (do
      let ov ← holding [v] (eval (.Name x px) X.env)
      let iv ← holding [v, ov] (eval k X.env)
      standAt ps
      holding [v, ov, iv] (setItem ov iv v)
      release [v, ov, iv] []) := by intro _; rfl)
    (hs : swapsWithSole [.Subscript (.Name x px) k ps] e pos.line X.env = pure false := by rfl) (hw : swappedStores [.Subscript (.Name x px) k ps] e X.env = pure none := by rfl)
    (h1 : (assignEach [.Subscript (.Name x px) k ps] X.env).map (·.2) = [assign (.Subscript (.Name x px) k ps) X.env] := by rfl) : DSt Z X md rn (.Assign [.Subscript (.Name x px) k ps] e pos) (dSetIx md m i tk te) := by
  refine (ps_asg he (pg_sub (pv i hi hv hd hcd) hk set_list ha) hs hw h1).imp ?_
  rintro D σ H ⟨B, ρ, E, ⟨G, fp, S⟩, h, M⟩
  refine S.ev m h fun d hd => ⟨hd.1, fun v G' H' S' x dv => ?_⟩
  obtain ⟨_, ds, h1, h⟩ := hd
  obtain ⟨l, xs, _, _, e2, e3, _⟩ := S'.one hm h1
  refine ⟨_, e2, S'.ev true h ?_⟩
  rintro _ ⟨k, j, rfl, hj, h3⟩
  refine ⟨rfl, fun v1 G1 H1 S1 x1 dv1 => ?_⟩
  cases dv1
  obtain ⟨l', xs', ds', e1, e2', e3', dvs, put⟩ := S1.one hm h1
  cases e1
  rw [e2] at e2'
  cases e2'
  exact ⟨l, xs', k, j, rfl, rfl, e3', by rw [dvs.length]; exact hj, M.nx _ h3 _ _ ⟨G1, fp, put _ _ (dvs.set (dv.mono x1.gg) j)⟩⟩
/-! ### x = y.pop() -/
def dPop (md : List Nat) (i j : Nat) : DTS := fun E ρ => ∃ ds d, ρ[j]? = some (some (.lst (ds ++ [d]))) ∧ E.nx ((ρ.set j (some (.lst ds))).set i (some d))
theorem ds_pop (i j : Nat) {x y : Str} {px py : Pos} (hN : X.N.Nodup) (hm : md.getD i 0 = 0 := by rfl) (hmj : md.getD j 0 = 1 := by rfl) (hi : X.N[i]? = some x := by rfl) (hx : Loc X.env.scope x := by first | exact Or.inl rfl | exact Or.inr rfl)
    (hj : X.N[j]? = some y := by rfl) (hv : Vis X.env.scope y := by first | exact Or.inl rfl | exact Or.inr (Or.inl rfl) | exact Or.inr (Or.inr rfl)) (hd : (y == ("__debug__" : Str)) = false := by decide) (hcd : (y == ("__classdict__" : Str)) = false := by decide)
    (hbase : attributeBase (.Name y py) "pop" X.env (eval (.Name y py) X.env) = eval (.Name y py) X.env := by rfl) (hline : (apos.endLine == cpos.line) = true := by rfl)
    (hs : swapsWith (.Call (.Attribute (.Name y py) "pop" apos) [] [] cpos) (some (.Name x px)) pos.line X.env = pure false := by rfl)
    (hf : X.fn x = true ∨ X.env.scope.names.lookup x = some .local := by first | exact .inl rfl | exact .inr rfl | assumption) : DSt Z X md rn (.Assign [.Name x px] (.Call (.Attribute (.Name y py) "pop" apos) [] [] cpos) pos) (dPop md i j) := by
  refine (ps_set hN hi hx (pe_bm0 PySem.F.plainAttrs_list PySem.F.slot_list_pop PySem.F.type_list_pop mt_pop (pv j hj hv hd hcd) hbase hline) hs hf).imp ?_
  rintro D σ H ⟨B, ρ, E, ⟨G, fp, S⟩, ⟨ds, d, h1, h⟩, M⟩
  obtain ⟨l, xs, ds', e1, e2, e3, dvs, put⟩ := S.one hmj h1
  cases e1
  have hl : xs.length = ds.length + 1 := by rw [dvs.length]; simp
  obtain ⟨v, hv', dv⟩ := dvs.get (i := xs.length - 1) (d := d) (by rw [hl]; simp)
  refine ⟨_, e2, ty_list e3, l, xs, v, rfl, rfl, e3, hv', M.nx _ h _ _ ⟨G, _, (put xs.dropLast ds ?_).setP hm dv⟩⟩
  have := dvs.take ds.length
  rw [List.take_left'] at this
  · rw [List.dropLast_eq_take, hl]; exact this
  · rfl
/-! ### x.append(y), y owned: y is given away -/
/-! ### x += e -/
end
end L2

set_option Elab.async false
set_option linter.all false
set_option maxRecDepth 100000
set_option maxHeartbeats 4000000
namespace L2
open PySem PySem.Spec PyProof.Rows
/-- the built-ins are nobody else's -/
structure BltD (mg : Str → Option Value) : Prop where
  len : mg "len" = none
  range : mg "range" = none
  max : mg "max" = none
  min : mg "min" = none
  enumerate : mg "enumerate" = none
  zip : mg "zip" = none
  sorted : mg "sorted" = none
  all : mg "all" = none
  isinstance : mg "isinstance" = none
  int : mg "int" = none
  bool : mg "bool" = none
  list : mg "list" = none
  tuple : mg "tuple" = none
  sum : mg "sum" = none
  reversed : mg "reversed" = none
theorem bd_max : bootBuiltins "max" = some (.builtin "max") := by decide +kernel
theorem bd_min : bootBuiltins "min" = some (.builtin "min") := by decide +kernel
theorem bd_bool : bootBuiltins "bool" = some (.type "bool") := by decide +kernel
theorem bd_int : bootBuiltins "int" = some (.type "int") := by decide +kernel
theorem bd_list : bootBuiltins "list" = some (.type "list") := by decide +kernel
theorem bd_sorted : bootBuiltins "sorted" = some (.builtin "sorted") := by decide +kernel
theorem bd_len : bootBuiltins "len" = some (.builtin "len") := by decide +kernel
theorem bd_range : bootBuiltins "range" = some (.type "range") := by decide +kernel
section
variable {P : Program} {w : World} {K : PySem.W.Frag} {mg : Str → Option Value} {base : Heap} {Z : DC}
def startD (N : List Str) (ds : List D) : DN := ds.map some ++ List.replicate (N.length - ds.length) none
/-- a def's promise whose answer is the asker's own (depth n) -/
def liftSpF (Z : DC) (n : Nat) (sd : DSp) : Sp := fun vs H Q _ => ∃ (G : Hp) (ds : List D) (P : D → Prop), Same G H ∧ DvAll Z G vs ds ∧ sd ds P ∧ ∀ d, P d → ∀ v f G' H', Ext G H G' H' → Own Z G' H' n v d f → f.Nodup → (∀ b ∈ f, H b = none ∧ H' b ≠ none ∧ G' b = none) → Q v H'
/-- an owned answer may be read as pure data -/
theorem Own.pure {n : Nat} {v : V} {d : D} {f : List Addr} {G H G' H' : Hp} (x : Ext G H G' H') (o : Own Z G' H' n v d f) (nw : ∀ b ∈ f, H b = none ∧ H' b ≠ none ∧ G' b = none) : ∃ G2, Ext G H G2 H' ∧ Dv Z G2 v d := by
  refine ⟨plus G' H' fun b => b ∈ f, ⟨x.gg.trans (plus_sup x.sub), plus_sub x.sub, x.hh, fun b hb hg => ?_⟩, o.dv (plus_sup x.sub) fun b hb u e => by rw [plus_in hb]; exact e⟩
  rw [plus_out (fun z => hb (nw b z).1)]; exact x.off b hb hg
theorem spF {n : Nat} {sd : DSp} : ∀ vs H Q E, liftSp Z sd vs H Q E → liftSpF Z n sd vs H Q E := by
  rintro vs H Q E ⟨G, ds, P, s, dv, h, q⟩
  exact ⟨G, ds, P, s, dv, h, fun d hd v f G' H' x o nd nw => let ⟨G2, x2, dv2⟩ := o.pure x nw; q d hd v G2 H' x2 dv2⟩
/-- a def, over data -/
theorem fn_dataF (rn : Nat) {x qual : Str} {st : Stmt} {f : Addr} {fd : FuncData} {N ps : List Str} {k : Nat} {sd : DSp} (F : Fun K x qual st f fd) (S : FnScope N ps (defScope st)) (md : List Nat) (hmd : ∀ i, i < ps.length → md.getD i 0 = 0) (len : ∀ ds P, sd ds P → ds.length = ps.length)
    (hbody : ∀ (cdv : Value) (A : Around) (outer : List Env) (s : Shared) (H : Hp) (E : XK) (ds : List D) (R : D → Prop), Room k (A.deeper (envOfC qual (defScope st) s.heap.objs.size f cdv)) → sd ds R →
      ∃ t, DSs Z (cxOf CX0 P w K mg base N qual (defScope st) f cdv A outer s H E).nox md rn (defBody st) t ∧ t { nx := fun _ => rn = 0 ∧ R .non, rt := R } (startD N ds)) : FnOk P w K mg base CX0 (k + 1) f fd ps (liftSpF Z rn sd) := by
  refine F.ok S (fun vs H Q E h => ?_) (fun cdv A outer s H vs Q E hr h => ?_)
  · obtain ⟨G, ds, R, s, dv, h, q⟩ := h
    rw [dv.length]; exact len _ _ h
  obtain ⟨G, ds, R, s0, dv, h, q⟩ := h
  have hret := q
  obtain ⟨t, ht, hq⟩ := hbody cdv A outer s H E ds R hr h
  have hl := len _ _ h
  refine ⟨_, ht, ⟨G, H, G⟩, _, _, ⟨G, fun _ => [], ?_⟩, hq, ⟨fun ρ hρ σ' H' ⟨G', fp, S'⟩ => q _ hρ.2 _ [] G' H' S'.ex (by rw [hρ.1]; exact ⟨.non, rfl⟩) List.nodup_nil (fun b hb => by cases hb), hret, fun _ z => z.elim, fun _ z => z.elim⟩⟩
  refine ⟨.refl s0, .refl _, by unfold startD start; simp [dv.length], fun i d hi => ?_, fun _ => List.nodup_nil, (fun _ _ _ _ z => by cases z), (fun _ _ z => by cases z)⟩
  unfold startD at hi
  have hi2 : i < ds.length := by
    apply Classical.byContradiction
    intro z
    rw [List.getElem?_append_right (by simpa using Nat.le_of_not_lt z), List.getElem?_replicate] at hi
    split at hi <;> cases hi
  rw [List.getElem?_append_left (by simpa using hi2), List.getElem?_map] at hi
  have hd' : ds[i]? = some d := by
    cases z : ds[i]? with
    | none => rw [z] at hi; cases hi
    | some d' => rw [z] at hi; cases hi; rfl
  obtain ⟨v, hv, dv'⟩ := dv.get hd'
  refine ⟨v, ?_, by rw [hmd i (by omega)]; exact ⟨dv', rfl⟩⟩
  unfold start
  rw [List.getElem?_append_left (by simpa [dv.length] using hi2), List.getElem?_map, hv]; rfl
theorem fn_data {x qual : Str} {st : Stmt} {f : Addr} {fd : FuncData} {N ps : List Str} {k : Nat} {sd : DSp} (F : Fun K x qual st f fd) (S : FnScope N ps (defScope st)) (md : List Nat) (hmd : ∀ i, i < ps.length → md.getD i 0 = 0) (len : ∀ ds P, sd ds P → ds.length = ps.length)
    (hbody : ∀ (cdv : Value) (A : Around) (outer : List Env) (s : Shared) (H : Hp) (E : XK) (ds : List D) (R : D → Prop), Room k (A.deeper (envOfC qual (defScope st) s.heap.objs.size f cdv)) → sd ds R →
      ∃ t, DSs Z (cxOf CX0 P w K mg base N qual (defScope st) f cdv A outer s H E).nox md 0 (defBody st) t ∧ t { nx := fun _ => 0 = 0 ∧ R .non, rt := R } (startD N ds)) : FnOk P w K mg base CX0 (k + 1) f fd ps (liftSp Z sd) :=
  (fn_dataF 0 F S md hmd len fun cdv A outer s H E ds R hr h => let ⟨t, a, b⟩ := hbody cdv A outer s H E ds R hr h; ⟨t, a, b⟩).imp spF
end
section
variable {Z : DC} {X : Cx} {a b c e o : Expr} {ta tb te : DTE} {t : DTA} {es : List Expr} {pos apos : Pos}
/-! ### -e -/
/-! ### min and max of two ints -/
/-! ### all -/
theorem dv_ints {G : Hp} : ∀ {vs : List V} {ns : List Int}, DvAll Z G vs (ns.map D.int) → vs = ns.map V.int
  | vs, [], h => by cases h; rfl
  | vs, b :: bs, h => by
    cases h with
    | cons a as => cases a; rw [dv_ints as]; rfl
/-! ### sorted of ints, of pairs -/
def bSortI : DSp := fun ds P => ∃ ns : List Int, ds = [.lst (ns.map D.int)] ∧ ns.length < 64 ∧ ∀ ms : List Int, ms.Perm ns → ms.Pairwise (· ≤ ·) → P (.lst (ms.map D.int))
theorem cd_sortI : CallR X (.builtin "sorted") (liftC Z bSortI) := by
  refine call_sortedI.imp ?_
  rintro xs H Q ⟨G, ds, P, s, dv, ⟨ns, rfl, hl, hp⟩, q⟩
  cases dv with
  | cons a as =>
    cases as
    cases a with
    | lst h e =>
      refine ⟨_, ns, rfl, SqL.of (by rw [← dv_ints e]; exact s _ _ h), hl, fun p ms hn h1 h2 => ?_⟩
      exact q _ (hp ms h1 h2) _ _ _ (.new s hn) (.lst upd_same (.ints ms))
def pairD (k : Nat × Nat) : D := .tup [.int (k.1 : Nat), .int (k.2 : Nat)]
/-! ### x.index(y) -/
def dIndex (ta tb : DTE) : DTE := fun ρ P => ta ρ fun d => ∃ l, d = .lst l ∧ tb ρ fun y => flatD y = true ∧ l.all flatD = true ∧ ∃ (j : Nat) (z : D), l[j]? = some z ∧ eqFD z y = true ∧ (∀ (m : Nat) z, m < j → l[m]? = some z → eqFD z y = false) ∧ P (.int (j : Nat))
theorem de_index {cpos : Pos} (ho : DE Z X o ta) (he : DE Z X e tb)
    (hbase : attributeBase o "index" X.env (eval o X.env) = eval o X.env := by rfl)
    (hfew : ((backTo cpos (starEach [e] X.env)).all (fun x => !x.1) && (backToKw cpos (keywordEach [] X.env)).all (fun x => x.1.isSome) && decide (([e] : List Expr).length + ([] : List Keyword).length + (if ([] : List Keyword).isEmpty then 0 else 1) < 30)) = true := by rfl)
    (hline : (apos.endLine == cpos.line) = true := by rfl) (hs : starEach [e] X.env = (false, eval e X.env) :: starEach [] X.env := by rfl) (hplain : (backTo cpos (starEach [] X.env)).any (·.1) = false := by rfl) :
    DE Z X (.Call (.Attribute o "index" apos) [e] [] cpos) (dIndex ta tb) := by
  refine (pe_bm PySem.F.plainAttrs_list PySem.F.slot_list_index PySem.F.type_list_index mt_index ho (pa_cons he pa_nil hs) hbase hfew hline hs hplain).imp ?_
  rintro σ H Q ⟨G, ρ, P, s, en, h, q⟩
  refine ⟨G, ρ, _, s, en, h, ?_⟩
  rintro _ ⟨l, rfl, hd⟩ v G1 H1 x1 dv
  cases dv with
  | @lst p xs ds hp e =>
    refine ⟨ty_list (x1.sub _ _ hp), G1, ρ, _, x1.sub, en.mono x1.gg, hd, fun y hy u G2 H2 x2 du => ?_⟩
    obtain ⟨h1, h2, j, z, h3, h4, h5, h6⟩ := hy
    have e2 := e.mono x2.gg
    obtain ⟨w, hw, dw⟩ := e2.get h3
    refine ⟨p, xs, u, j, w, rfl, rfl, x2.hh _ _ (x1.sub _ _ hp), by rw [flat_dv du]; exact h1, by rw [flatAll_dv e2]; exact h2, hw, by rw [eqF_dv dw du]; exact h4, fun m z' hm hz => ?_, q _ h6 _ G2 H2 (x1.trans x2) (.int _)⟩
    obtain ⟨d', hd', dv'⟩ := e2.getV hz
    rw [eqF_dv dv' du]
    exact h5 m d' hm hd'
end
end L2

set_option Elab.async false
set_option linter.all false
set_option maxRecDepth 100000
set_option maxHeartbeats 4000000
namespace L2
open PySem PySem.Spec PyProof.Rows
/-- the class Web -/
structure WCls (Z : DC) : Prop where
  cl : Cls Z.K Z.C
  nR : NoAttr Z.K Z.C "rows"
section
variable {Z : DC} {X : Cx} {a b c e o : Expr} {ta tb te : DTE} {t : DTA} {es : List Expr} {pos apos : Pos}
/-! ### o.rows -/
def dRows (ta : DTE) : DTE := fun ρ P => ta ρ fun d => ∃ w, d = .web w ∧ P (webW w)
theorem de_rows (T : WCls Z) (ha : DE Z X o ta) (eK : X.K = Z.K := by rfl) (hb : attributeBase o "rows" X.env (eval o X.env) = eval o X.env := by rfl) : DE Z X (.Attribute o "rows" apos) (dRows ta) := by
  refine (pe_fld ha hb).imp ?_
  rintro σ H Q ⟨G, ρ, P, s, en, h, q⟩
  refine ⟨G, ρ, _, s, en, h, ?_⟩
  rintro _ ⟨w, rfl, hd⟩ v G1 H1 x1 dv
  cases dv with
  | @web p dx R w hp hr g h1 h2 => exact ⟨p, Z.C, dx, _, .ref R, rfl, x1.sub _ _ hp, by rw [eK]; exact T.cl, by rw [eK]; exact T.nR, rfl, q _ hd _ G1 H1 x1 hr⟩
/-! ### o.m(..) -/
def dMeth (sd : DSp) (ta : DTE) (t : DTA) : DTE := fun ρ P => ta ρ fun d => ∃ w, d = .web w ∧ t ρ fun ds => sd (.web w :: ds) P
theorem liftMeth {m : Str} {sd : DSp} (hm : ([("rows", V.ref 0)] : List (Str × V)).lookup m = none) : ∀ σ H Q, liftE Z (dMeth sd ta t) σ H Q → tMeth Z.C m (liftSp Z sd) [] E0 (liftE Z ta) (liftA Z t) σ H Q := by
  rintro σ H Q ⟨G, ρ, P, s, en, h, q⟩
  refine ⟨G, ρ, _, s, en, h, ?_⟩
  rintro _ ⟨w, rfl, hd⟩ v G1 H1 x1 dv
  have dv0 := dv
  cases dv with
  | @web p dx R w hp hr g h1 h2 =>
    refine ⟨p, dx, _, rfl, x1.sub _ _ hp, ?_, G1, ρ, _, x1.sub, en.mono x1.gg, hd, fun ds hds vs G2 H2 x2 dvs => ?_⟩
    · have hz : (m == ("rows" : Str)) = false := by
        cases z : (m == ("rows" : Str)) with
        | false => rfl
        | true => simp [List.lookup, z] at hm
      simp [List.lookup, hz]
    · show liftSp Z sd (V.ref p :: (vs ++ [])) H2 Q E0
      rw [List.append_nil]
      exact ⟨G2, _, P, x2.sub, .cons (dv0.mono x2.gg) dvs, hds, fun d hd v G3 H3 x3 dv3 => q d hd v G3 H3 ((x1.trans x2).trans x3) dv3⟩
variable {sd : DSp} {k : Nat} {f : Addr} {fd : FuncData} {ps : List Str} {m : Str}
theorem de_meth0 {pl : Sem Bool} (T : WCls Z) (ho : DE Z X o ta) (hm : Meth Z.K Z.C m f) (F : FnOk X.prog X.w X.K X.mg X.base CX0 k f fd ps (liftSp Z sd)) (hr : Room k X.A) (hb : Binds X.K fd ps []) (eK : X.K = Z.K := by rfl)
    (hmr : ([("rows", V.ref 0)] : List (Str × V)).lookup m = none := by decide)
    (ht : eval (.Call (.Attribute o m apos) [] [] pos) X.env = (do
      let ov ← eval o X.env
      standAt apos.atName
      let (f, first) ← holding [ov] (getMethod ov m pl)
      callWith pos f first (backTo pos (starEach [] X.env)) (backToKw pos (keywordEach [] X.env))) := by rfl) : DE Z X (.Call (.Attribute o m apos) [] [] pos) (dMeth sd ta dNil) :=
  (pe_meth0 (pl := pl) ho (by rw [eK]; exact T.cl) (by rw [eK]; exact hm) F hr hb .nil pass0 ht).imp fun σ H Q h => by
    obtain ⟨G, ρ, P, s, en, h, q⟩ := liftMeth hmr σ H Q h
    refine ⟨G, ρ, P, s, en, h, fun d hd v G1 H1 x1 dv => ?_⟩
    obtain ⟨p, dx, fs, h1, h2, h3, G', ρ', P', s', en', h', q'⟩ := q d hd v G1 H1 x1 dv
    exact ⟨p, dx, fs, h1, h2, h3, q' _ h' _ G' _ (.refl s') .nil⟩
/-! ### Web(..) -/
/-- __init__'s promise: turns of a web; the new one at p, its rows at R -/
def spInitD (Z : DC) : Sp := fun vs H Q _ => ∃ (p dx : Addr) (v : V) (G : Hp) (w : List (List Nat)), vs = [.ref p, v] ∧ H p = some (.ins Z.C dx []) ∧ Same G H ∧ G p = none ∧ Dv Z G v (webW w) ∧ Wb.Good w ∧ 1 ≤ w.length ∧ w.length ≤ 14 ∧
  ∀ (R : Addr) (G' H' : Hp), Same G G' → Same G' H' → (∀ b o, H b = some o → b ≠ p → H' b = some o) → (∀ b, H b ≠ none → G b = none → G' b = none) → H' p = some (.ins Z.C dx [("rows", .ref R)]) → Dv Z G' (.ref R) (webW w) → Q .non H'
def dMake (t : DTA) : DTE := fun ρ P => t ρ fun ds => ∃ w, ds = [webW w] ∧ Wb.Good w ∧ 1 ≤ w.length ∧ w.length ≤ 14 ∧ P (.web w)
theorem de_make {x : Str} {p : Pos} (M : Mk Z.K Z.C f) (F : FnOk X.prog X.w X.K X.mg X.base CX0 k f fd ps (spInitD Z)) (hr : Room (k + 1) X.A) (hg : Gl X x) (hm : X.mg x = some (.ref Z.C)) (hb : Binds X.K fd ps [])
    (ha : DA Z X (e :: es) t) (eK : X.K = Z.K := by rfl) (hdb : (x == ("__debug__" : Str)) = false := by decide) (he : starEach (e :: es) X.env = (false, eval e X.env) :: starEach es X.env := by rfl) (hpl : (backTo pos (starEach es X.env)).any (·.1) = false := by rfl) :
    DE Z X (.Call (.Name x p) (e :: es) [] pos) (dMake t) := by
  refine (pe_make (by rw [eK]; exact M) F hr hg hm hb .nil pass0 ha hdb he hpl).imp ?_
  rintro σ H Q ⟨G, ρ, P, s, en, h, q⟩
  refine ⟨G, ρ, _, s, en, h, ?_⟩
  rintro _ ⟨w, rfl, g, h1, h14, hp⟩ vs G1 H1 x1 dvs p dx hx hdx ne
  cases dvs with
  | @cons v _ _ _ dv dvs =>
    cases dvs
    have hx' : upd H1 dx (.own p) p = none := by rw [upd_ne (Ne.symm ne)]; exact hx
    have sJ := (same_new hdx (.own p)).trans (same_new hx' (.ins Z.C dx []))
    refine ⟨p, dx, v, G1, w, rfl, upd_same, x1.sub.trans sJ, x1.sub.free hx, dv, g, h1, h14, fun R G2 H2 g1 g2 kp off hp2 dv2 => ⟨rfl, ?_⟩⟩
    have gp : G2 p = none := off p (by rw [upd_same]; exact fun z => nomatch z) (x1.sub.free hx)
    refine q _ hp _ (upd G2 p (.ins Z.C dx [("rows", .ref R)])) H2 ⟨(x1.gg.trans g1).trans (same_new gp _), fun b o e => ?_, fun b o e => ?_, fun b hb hg => ?_⟩ (.web upd_same (dv2.mono (same_new gp _)) g h1 h14)
    · by_cases z : b = p
      · subst z; rw [upd_same] at e; cases e; exact hp2
      · rw [upd_ne z] at e; exact g2 _ _ e
    · have e1 := x1.hh _ _ e
      exact kp b o (sJ _ _ e1) (ne_of_none e1 hx)
    · have hb1 := some_ne x1.hh hb
      have nb : b ≠ p := fun z => hb1 (by rw [z]; exact hx)
      rw [upd_ne nb]
      exact off b (some_ne sJ hb1) (x1.off b hb hg)
end
/-! ### comprehensions of new lists -/
section
variable {Z : DC} {X : Cx} {pos : Pos}
/-- [[..] for ..]: the elements new lists -/
def lcF (g : DTG) (tf : DTF) : List D → DN → List D → (List D → Prop) → Prop
  | [], _, acc, N => N acc
  | x :: xs, ρ, acc, N => g x ρ fun ρ1 => tf ρ1 fun ds => acc.length < sizeLine ∧ lcF g tf xs ρ1 (acc ++ [.lst ds]) N
def fLCF (wi : DTI) (g : DTG) (tf : DTF) (src : List (Option Nat)) : DTF := fun ρ P => wi ρ fun ds => lcF g tf ds (srcD src ρ) [] P
def CSF (Z : DC) (n : Nat) (G1 H1 : Hp) (Ad : Addr) (ρ : DN) (acc : List D) (σ : St) (H : Hp) : Prop :=
  ∃ (G : Hp) (ys : List V) (fs : List Addr), Same G1 G ∧ Same G H ∧ Same H1 H ∧ (∀ b, H1 b ≠ none → G1 b = none → G b = none) ∧ H Ad = some (.lst ys) ∧ OwnL (Own Z G H n) ys acc fs ∧ (Ad :: fs).Nodup ∧ (∀ b ∈ Ad :: fs, H1 b = none ∧ H b ≠ none ∧ G b = none) ∧ EnvD Z G σ ρ
theorem OwnL.snoc {R : V → D → List Addr → Prop} : ∀ {vs : List V} {ds : List D} {fs : List Addr} {v : V} {d : D} {f : List Addr}, OwnL R vs ds fs → R v d f → OwnL R (vs ++ [v]) (ds ++ [d]) (fs ++ f)
  | _, _, _, v, d, f, .nil, r => by simpa using OwnL.cons r .nil
  | _, _, _, v, d, f, .cons a as, r => by rw [List.append_assoc]; exact .cons a (as.snoc r)
theorem liftFLCF {n : Nat} {src : List (Option Nat)} {wi : DTI} {g : DTG} {tf : DTF} : ∀ σ H Q, liftF Z (n + 1) (fLCF wi g tf src) σ H Q → tLC (liftI Z wi) (liftG Z g) tYes (liftF Z n tf) src σ H Q := by
  rintro σ H Q ⟨G, ρ, P, s, en, h, q⟩
  refine ⟨G, ρ, _, s, en, h, fun ds hd J G1 H1 x1 it Ad hA => ?_⟩
  refine ⟨fun i m σ2 H2 => m = ds.length - i ∧ i ≤ ds.length ∧ ∃ ρ2 acc, CSF Z n G1 H1 Ad ρ2 acc σ2 H2 ∧ lcF g tf (ds.drop i) ρ2 acc P, ⟨_, rfl, Nat.zero_le _, _, [], ⟨G1, [], [], .refl _, fun b o e => ?_, same_new hA _, fun _ _ h => h, upd_same, .nil, by simp, fun b hb => ?_, (en.mono x1.gg).src src⟩, hd⟩, ?_⟩
  · rw [upd_ne (ne_of_none e (x1.sub.free hA))]; exact x1.sub _ _ e
  · have : b = Ad := by simpa using hb
    subst this
    exact ⟨hA, (by rw [upd_same]; exact fun z => nomatch z), x1.sub.free hA⟩
  rintro i m σ2 H2 ⟨rfl, hi, ρ2, acc, ⟨G2, ys, fs, s1, s2, s3, off, hAd, ol, nd, nw, en2⟩, hl⟩
  by_cases hlt : i < ds.length
  · obtain ⟨go, _, yld⟩ := it G2 H2 s1 s2 i
    refine .inr ⟨go hlt, fun σ' H' => ∃ ρ' acc', CSF Z n G1 H1 Ad ρ' acc' σ' H' ∧ lcF g tf (ds.drop (i + 1)) ρ' acc' P, fun σ' H' k => ⟨ds.length - (i + 1), by omega, rfl, hlt, k⟩, fun x H3 y => ?_⟩
    obtain ⟨G3, d, x3, hdd, dv⟩ := yld x H3 hlt y
    rw [drop_at hdd] at hl
    refine ⟨G3, ρ2, d, _, x3.sub, en2.mono x3.gg, dv, hl, fun ρ1 h1 σ4 en4 => ?_⟩
    unfold tYes
    dsimp only
    rw [if_pos rfl]
    refine ⟨G3, ρ1, _, x3.sub, en4, h1, fun ds' hd' v f G6 H6 x6 ow fnd fnw => ?_⟩
    have x := x3.trans x6
    have aA : Ad ∈ Ad :: fs := List.mem_cons_self ..
    have keepF : ∀ b ∈ Ad :: fs, H6 b = H2 b ∧ G6 b = none := fun b hb => by
      obtain ⟨_, q2, q3⟩ := nw b hb
      refine ⟨?_, x.off b q2 q3⟩
      cases e : H2 b with
      | none => exact absurd e q2
      | some o => exact x.hh _ _ e
    have hA6 : H6 Ad = some (.lst ys) := by rw [(keepF Ad aA).1]; exact hAd
    have fH2 : ∀ b ∈ f, H2 b = none := fun b hb => x3.hh.free (fnw b hb).1
    have fne : ∀ b ∈ f, ∀ c ∈ Ad :: fs, b ≠ c := fun b hb c hc z => (nw c hc).2.1 (by rw [← z]; exact fH2 b hb)
    refine ⟨ys, hA6, by rw [ol.length]; exact hd'.1, ρ1, _, ⟨G6, ys ++ [v], fs ++ f, s1.trans x.gg, fun b o e => ?_, fun b o e => ?_, fun b hb hg => x.off b (some_ne s3 hb) (off b hb hg), upd_same, ?_, ?_, fun b hb => ?_, en4.mono x6.gg⟩, hd'.2⟩
    · rw [upd_ne (ne_of_none e (keepF Ad aA).2)]; exact x.sub _ _ e
    · rw [upd_ne (ne_of_none e hA)]; exact (s3.trans x.hh) _ _ e
    · refine OwnL.snoc (ol.imp fun v d f' hf r => r.keep x.gg fun b hb => ?_) (ow.keep (.refl _) fun b hb => ?_)
      · have hb' : b ∈ fs := hf b hb
        rw [upd_ne (fun z => (List.nodup_cons.mp nd).1 (by rw [← z]; exact hb'))]
        exact (keepF b (List.mem_cons_of_mem _ hb')).1
      · exact upd_ne (fne b hb Ad aA)
    · rw [← List.cons_append]
      exact List.nodup_append.mpr ⟨nd, fnd, fun a ha b hb => Ne.symm (fne b hb a ha)⟩
    · rw [← List.cons_append] at hb
      by_cases z : b = Ad
      · subst z
        exact ⟨hA, (by rw [upd_same]; exact fun z => nomatch z), (keepF b aA).2⟩
      · rcases List.mem_append.mp hb with hb | hb
        · rw [upd_ne z, (keepF b hb).1]
          exact ⟨(nw b hb).1, (nw b hb).2.1, (keepF b hb).2⟩
        · rw [upd_ne z]
          exact ⟨s3.free (fH2 b hb), (fnw b hb).2⟩
  · have e : ds.drop i = [] := List.drop_eq_nil_of_le (by omega)
    rw [e] at hl
    refine .inl ⟨(it G2 H2 s1 s2 i).2.1 (by omega), q _ hl (.ref Ad) (Ad :: fs) G2 H2 ⟨x1.gg.trans s1, s2, x1.hh.trans s3, fun b hb hg => off b (some_ne x1.hh hb) (x1.off b hb hg)⟩ ⟨Ad, ys, acc, fs, rfl, rfl, hAd, rfl, ol⟩ nd fun b hb => ⟨x1.hh.free (nw b hb).1, (nw b hb).2⟩⟩
variable {tg iter elt : Expr} {scope : Scope} {NC : List Str} {src : List (Option Nat)} {wi : DTI} {g : DTG} {tf : DTF} {md : List Nat} {rn : Nat}
theorem ds_newlcF (i : Nat) {n : Nat} {x : Str} {px spos : Pos} (hc : X.calm = true) (hN : X.N.Nodup) (c : CompOk X scope) (hsrc : SrcOk scope X.N src NC) (hi : DI Z X tg iter wi)
    (hg : ∀ ex s H, DG Z (cxC X scope NC ex s H) tg g) (he : ∀ ex s H, DF Z (cxC X scope NC ex s H) n elt tf)
    (hsw : swapsWith (.ListComp elt [⟨tg, iter, [], 0⟩] scope pos) (some (.Name x px)) spos.line X.env = pure true := by rfl) (hm : md.getD i 0 = n + 1 := by rfl) (hi' : X.N[i]? = some x := by rfl) (hx : Loc X.env.scope x := by first | exact Or.inl rfl | exact Or.inr rfl)
    (hf : X.fn x = true ∨ X.env.scope.names.lookup x = some .local := by first | exact .inl rfl | exact .inr rfl | assumption)
    (hs : ∀ x, foldedSetIterable iter X.env x = pure x := by intro _; rfl) : DSt Z X md rn (.Assign [.Name x px] (.ListComp elt [⟨tg, iter, [], 0⟩] scope pos) spos) (dNew md i (fLCF wi g tf src)) := by
  refine (ps_setlc hc hN hi' hx c hsrc hi hg (fun _ _ _ => pts_nil) he hsw hf hs).imp ?_
  rintro D σ H ⟨B, ρ, E, ⟨G, fp, S⟩, h, M⟩
  exact liftFLCF σ H _ (new_lift hm S h M)
end
end L2

set_option Elab.async false
set_option linter.all false
set_option maxRecDepth 100000
set_option maxHeartbeats 4000000
namespace L2
open PySem PySem.Spec PyProof.Rows
abbrev inClassD := inClass
/-- a method of Web -/
structure Mfn (Z : DC) (m qual : Str) (st : Stmt) (ps : List Str) where
  f : Addr
  fd : FuncData
  F : Fun Z.K m qual st f fd
  b : Binds Z.K fd ps []
  m : Meth Z.K Z.C m f
def spLawV (K : PySem.W.Frag) : Sp := fun vs H Q _ => ∃ (a : Addr) (ns : List Int), vs = [.ref a] ∧ SqL K H a (ns.map V.int) ∧ ns.length ≤ 63 ∧ ∀ H', Q (.bl true) H'
def spLawD : DSp := fun ds P => ∃ ns : List Int, ds = [.scr ns] ∧ ns.length ≤ 63 ∧ P (.bl true)
theorem law_of {Z : DC} : ∀ vs H Q E, spLawV Z.K vs H Q E → liftSp Z spLawD vs H Q E := by
  rintro vs H Q E ⟨a, ns, rfl, hS, hl, q⟩
  exact ⟨H, [.scr ns], fun d => d = .bl true, .refl _, .cons (.scr hS hl) .nil, ⟨ns, rfl, hl, rfl⟩, fun d hd v G' H' x dv => by subst hd; cases dv; exact q H'⟩
theorem walkD (k : Nat) {l : PySem.W.OpenLaw} {q : Program} {loose : List Str} {XP : (Str → Option Value) → Heap → Prop} {YP : World → Heap → Prop} {d : DefRec} {K : Params → PySem.W.Frag} (hk1 : 3 * k < 150) (hn : l.most = some 63) (hdf : d.params.defaults = [])
    (hY : ∀ (w : World) (h : Heap), YP w h → (K w.params).In h)
    (F : ∀ (w : World) (mg : Str → Option Value) (fa : Addr) (h : Heap), (K w.params).In h → h.Ns mainGlobals mg → mg d.name = some (.ref fa) →
      ∃ fd : FuncData, (∀ (s : Shared) (u : Value), BindsTo s fd ⟨[u], []⟩ [("_law_script", u)]) ∧ ∀ base : Heap, (K w.params).In base → base.Ns mainGlobals mg → FnOk l.prog w (K w.params) mg base CX0 k fa fd ["_law_script"] (spLawV (K w.params))) :
    PySem.W.WalkO q loose XP YP l.row.toRowW d [] (fun f vs => PySem.call f vs) :=
  L2.walk_of (n := 63) (k := 50) (x := "_law_script") (CX := fun _ => CX0) (sp := fun w => spLawV (K w.params)) hn (by decide) hdf ⟨rfl, by decide, by decide⟩ hY (fun w mg fa h a b c => by
    obtain ⟨fd, h1, h2⟩ := F w mg fa h a b c
    exact ⟨fd, h1, fun base x y => (h2 base x y).mono (by omega)⟩) (fun _ _ a ns hl _ hS => ⟨a, ns, rfl, hS, hl, fun _ => rfl⟩) fun _ _ _ _ _ z => z
/-! ### readings -/
theorem ite_of {c : Bool} {A B : Prop} (h1 : c = true → A) (h2 : c = false → B) : if c = true then A else B := by
  cases c with
  | true => exact iteT (h1 rfl)
  | false => exact iteF (h2 rfl)
/-- a comprehension over names: the kept ones, each by f -/
theorem lc_name {i : Nat} {tt : DTT} {te : DTE} {ρ : DN} {α : Type} (enc : α → D) (p : α → Bool) (f : α → D) : ∀ (ys : List α) (ρ' : DN) (acc : List D) (N : DN → List D → Prop), (∀ y ∈ ys, ∀ (Y : D → Prop) (Nn : Prop), (p y = true → Y (f y)) → (p y = false → Nn) → tt (ρ.set i (some (enc y))) fun b => if b = true then te (ρ.set i (some (enc y))) Y else Nn) →
    (∃ o, ρ' = ρ.set i o) → acc.length + ys.length ≤ sizeLine → (∀ ρ', N ρ' (acc ++ (ys.filter p).map f)) → lcW (dgName i) tt te (ys.map enc) ρ' acc N
  | [], ρ', acc, N, _, _, _, h => by
    show N ρ' acc
    simpa using h ρ'
  | y :: ys, ρ', acc, N, hs, ⟨o, ho⟩, hz, h => by
    show tt (ρ'.set i (some (enc y))) _
    rw [ho, List.set_set]
    rw [List.length_cons] at hz
    refine hs y (List.mem_cons_self ..) _ _ (fun hp => ⟨by omega, ?_⟩) (fun hp => ?_)
    · refine lc_name enc p f ys _ (acc ++ [f y]) N (fun z hz => hs z (List.mem_cons_of_mem _ hz)) ⟨_, rfl⟩ (by simp; omega) fun ρ'' => ?_
      have := h ρ''
      rw [List.filter_cons, hp] at this
      simpa using this
    · refine lc_name enc p f ys _ acc N (fun z hz => hs z (List.mem_cons_of_mem _ hz)) ⟨_, rfl⟩ (by omega) fun ρ'' => ?_
      have := h ρ''
      rw [List.filter_cons, hp] at this
      simpa using this
/-- .. without a test -/
theorem lc_all {i : Nat} {te : DTE} {ρ : DN} {α : Type} (enc : α → D) (f : α → D) (ys : List α) (N : DN → List D → Prop) (hs : ∀ y ∈ ys, ∀ (Y : D → Prop), Y (f y) → te (ρ.set i (some (enc y))) Y) (h0 : ρ[i]? = some none) (hz : ys.length ≤ sizeLine) (h : ∀ ρ', N ρ' (ys.map f)) : lcW (dgName i) dYes te (ys.map enc) ρ [] N := by
  refine lc_name (ρ := ρ) enc (fun _ => true) f ys ρ [] N (fun y hy Y Nn h1 _ => ?_) ⟨none, ?_⟩ (by simpa using hz) fun ρ' => by rw [List.filter_eq_self.mpr (fun _ _ => rfl), List.nil_append]; exact h ρ'
  · unfold dYes
    dsimp only
    rw [if_pos rfl]
    exact hs y hy Y (h1 rfl)
  · obtain ⟨hi, e⟩ := List.getElem?_eq_some_iff.mp h0
    rw [← e, List.set_getElem_self]
/-- a loop, by an invariant -/
theorem forW_inv {g : DTG} {tb : DTS} {E : DEnds} (I : Nat → DN → Prop) : ∀ (ds : List D) (k : Nat) (ρ : DN), I k ρ → (∀ (j : Nat) (d : D) (ρ : DN), ds[j]? = some d → I (k + j) ρ → ∀ A : DN → Prop, (∀ ρ, I (k + j + 1) ρ → A ρ) → g d ρ fun ρ1 => tb { nx := A, ct := A, bk := E.nx, rt := E.rt } ρ1) →
    (∀ ρ, I (k + ds.length) ρ → E.nx ρ) → forW g tb E ds ρ
  | [], k, ρ, h0, hs, he => he ρ h0
  | d :: ds, k, ρ, h0, hs, he => by
    refine hs 0 d ρ rfl h0 _ fun ρ' h' => ?_
    exact forW_inv I ds (k + 1) ρ' h' (fun j d' ρ2 hj h2 A hA => by
      refine hs (j + 1) d' ρ2 (by simpa using hj) (by rw [show k + (j + 1) = k + 1 + j by omega]; exact h2) A fun ρ3 h3 => hA ρ3 ?_
      rw [show k + 1 + j + 1 = k + (j + 1) + 1 by omega]; exact h3) (fun ρ2 h2 => he ρ2 (by rw [List.length_cons, show k + (ds.length + 1) = k + 1 + ds.length by omega]; exact h2))
theorem for_inv {g : DTG} {tb : DTS} {E : DEnds} {ds : List D} {ρ : DN} (I : Nat → DN → Prop) (h0 : I 0 ρ) (hs : ∀ (j : Nat) (d : D) (ρ : DN), ds[j]? = some d → I j ρ → ∀ A : DN → Prop, (∀ ρ, I (j + 1) ρ → A ρ) → g d ρ fun ρ1 => tb { nx := A, ct := A, bk := E.nx, rt := E.rt } ρ1)
    (he : ∀ ρ, I ds.length ρ → E.nx ρ) : forW g tb E ds ρ := forW_inv I ds 0 ρ h0 (fun j d ρ hj h A hA => hs j d ρ hj (by simpa using h) A fun ρ' h' => hA ρ' (by simpa using h')) (fun ρ h => he ρ (by simpa using h))
/-- a loop over range(lo, ..) -/
theorem for_rng {g : DTG} {tb : DTS} {E : DEnds} {lo : Int} {n : Nat} {ρ : DN} (I : Nat → DN → Prop) (h0 : I 0 ρ) (hs : ∀ (j : Nat) (ρ : DN), j < n → I j ρ → ∀ A : DN → Prop, (∀ ρ, I (j + 1) ρ → A ρ) → g (.int (lo + j)) ρ fun ρ1 => tb { nx := A, ct := A, bk := E.nx, rt := E.rt } ρ1)
    (he : ∀ ρ, I n ρ → E.nx ρ) : forW g tb E (rangeD lo n) ρ := by
  have l : (rangeD lo n).length = n := by unfold rangeD; simp
  refine for_inv I h0 (fun j d ρ hj h A hA => ?_) (fun ρ h => he ρ (by rw [l] at h; exact h))
  have hlt : j < n := by
    have := (List.getElem?_eq_some_iff.mp hj).1
    rw [l] at this; exact this
  rw [rangeD_get hlt] at hj
  cases hj
  exact hs j ρ hlt h A hA
/-- a while loop, by an invariant and a measure -/
theorem while_inv {c : DTT} {tb : DTS} {E : DEnds} {ρ : DN} (I : Nat → DN → Prop) (m0 : Nat) (h0 : I m0 ρ) (hs : ∀ m ρ, I m ρ → c ρ fun b => if b = true then tb { nx := fun ρ' => ∃ m', m' < m ∧ I m' ρ', ct := fun ρ' => ∃ m', m' < m ∧ I m' ρ', bk := E.nx, rt := E.rt } ρ else E.nx ρ) : dWhile c tb E ρ := ⟨I, ⟨m0, h0⟩, hs⟩
end L2

set_option Elab.async false
set_option linter.all false
set_option maxRecDepth 100000
set_option maxHeartbeats 4000000
namespace L2
open PySem PySem.Spec PyProof.Rows
/-! ### reversed(xs) -/
def Itv (K : PySem.W.Frag) (a : Addr) (n : Nat) : It :=
  ⟨fun i H => i < n ∧ ∃ xs, SqL K H a xs ∧ xs.length = n, fun i H x H' => H' = H ∧ ∀ xs, SqL K H a xs → xs[n - 1 - i]? = some x, fun i H => n ≤ i⟩
theorem turn_rev {P : Program} {w : World} {K : PySem.W.Frag} {tg : Expr} (a it : Addr) (n : Nat) : Turn P w K tg (Itv K a n) [it] it (fun i h => i ≤ n ∧ h.IsRevIter it a ((n : Int) - 1 - (i : Int))) where
  mem := by simp
  obj := fun i h st b hb => by
    have e : b = it := by simpa using hb
    subst e
    obtain ⟨_, o, e, c, d⟩ := st
    exact ⟨o, e, fun v z => by rw [d] at z; cases z⟩
  keep := fun i h h' st k => ⟨st.1, st.2.at fun o e => k it (by simp) o e⟩
  item := by
    intro X hP hw hK hc i pins s σ H E I hf st hg
    subst hP hw hK
    obtain ⟨hi, xs, hq, hl⟩ := hg
    obtain ⟨its, rv, p, hz⟩ := I.list hq
    have hlen := rv.length
    have hx : xs[n - 1 - i]? = some (xs[n - 1 - i]'(by omega)) := List.getElem?_eq_getElem (by omega)
    obtain ⟨u, hu, ru⟩ := rv.get hx
    obtain ⟨f0, f1, f2, f3, f4, f5⟩ := hf it (by simp)
    have e : (n : Int) - 1 - (i : Int) = ((n - 1 - i : Nat) : Int) := by omega
    obtain ⟨_, st⟩ := st
    rw [e] at st
    refine wpAny_pyNext_rev_item st p.isList (x := u) (by simpa using hu) fun h' st' sb => ?_
    have I1 : Inv X pins σ H { s with heap := h' } := I.turned (t' := s.toks) (fun b o hb e => (sb.2 b hb).trans e) f0 f1 f3 f4 f5
    have e2 : ((n - 1 - i : Nat) : Int) - 1 = (n : Int) - 1 - ((i + 1 : Nat) : Int) := by omega
    rw [e2] at st'
    obtain ⟨o, e, c, d⟩ := id st'
    exact ⟨u, rfl, go_of (s := { s with heap := h' }) e c d (by decide) ⟨_, H, I1, ru, ⟨rfl, fun ys hy => by rw [I.list_inj hy hq]; exact hx⟩, ⟨hi, st'⟩, fun b hb => (hf b hb).1⟩⟩
  done := by
    intro X hP hw hK hc i pins s σ H E I hf st hg
    subst hP hw hK
    obtain ⟨hi, st⟩ := st
    have hg : n ≤ i := hg
    have e : (n : Int) - 1 - (i : Int) = -1 := by omega
    rw [e] at st
    obtain ⟨f0, f1, f2, f3, f4, f5⟩ := hf it (by simp)
    exact wpAny_pyNext_rev_end (I.ok.hd hc) st fun h' eb => ⟨rfl, I.turned (t' := s.toks) (fun b o hb e => eb b o hb e) f0 f1 f3 f4 f5⟩
  self := fun _ _ _ _ _ st h => wpAny_pyIter_revIter st.2 h
theorem bd_reversed : bootBuiltins "reversed" = some (.type "reversed") := by decide +kernel
section
variable {Z : DC} {X : Cx} {a b c e : Expr} {ta tb te : DTE} {t : DTA} {pos : Pos}
def iRev (K : PySem.W.Frag) (ta : TA) : TI := fun σ H R => ta σ H fun vs H1 => ∃ a xs, vs = [.ref a] ∧ SqL K H1 a xs ∧ R (Itv K a xs.length) H1
theorem pi_rev {tg : Expr} {ta : TA} {p : Pos} (hg : Gl X "reversed") (hm : X.mg "reversed" = none) (ha : PA X [a] ta) (hs : starEach [a] X.env = [(false, eval a X.env)] := by rfl) :
    PI X tg (.Call (.Name "reversed" p) [a] [] pos) (iRev X.K ta) := by
  intro pins s σ H R I h
  refine Call_ (ld_blt I hg hm bd_reversed (PyProof.Rows.callWith_type1 (thn (ha pos pins s σ H _ I h) fun us s1 ⟨vs, H1, I1, r1, q1⟩ => ?_) hs rfl))
  obtain ⟨l, xs, e, hl, q⟩ := q1
  subst e
  obtain ⟨u, rfl, ru⟩ := r1.one
  cases ru
  obtain ⟨its, rv, p, hz⟩ := I1.list hl
  have hlen := rv.length
  refine call_reversed_list p.isList ?_
  have hit : (s1.heap.push (revObj l ((its.toArray.size : Int) - 1))).IsRevIter s1.heap.objs.size l ((xs.length : Int) - 1 - ((0 : Nat) : Int)) := ⟨_, Heap.get?_push_size _ rfl, rfl, by simp [revObj, hlen]⟩
  refine wpAny_pyIter_revIter hit ?_
  refine ⟨s1.heap.objs.size, [s1.heap.objs.size], _, _, H1, rfl, I1.kept (t' := s1.toks) fun b o e => Heap.get?_push_of_some _ e, turn_rev l _ xs.length, ⟨Nat.zero_le _, hit⟩, fun b hb => ?_, q⟩
  have e : b = s1.heap.objs.size := by simpa using hb
  subst e
  exact I1.fpOk (Nat.le_refl _) (I1.hok.fresh (Nat.le_refl _))
def diRev (t : DTA) : DTI := fun ρ P => t ρ fun ds => match ds with
  | [.lst l] => P l.reverse
  | _ => False
theorem di_rev {tg : Expr} {p : Pos} (hg : Gl X "reversed") (hm : X.mg "reversed" = none) (ha : DA Z X [a] t) (hs : starEach [a] X.env = [(false, eval a X.env)] := by rfl) : DI Z X tg (.Call (.Name "reversed" p) [a] [] pos) (diRev t) := by
  refine (pi_rev hg hm ha hs).imp ?_
  rintro σ H Q ⟨G, ρ, P, s, en, h, q⟩
  refine ⟨G, ρ, _, s, en, h, fun ds hd vs G1 H1 x1 dv => ?_⟩
  cases dv with
  | nil => exact hd.elim
  | cons a as =>
    cases as with
    | cons _ _ => cases a <;> exact hd.elim
    | nil =>
      cases a <;> first | exact hd.elim | skip
      rename_i p xs ds ha e
      refine ⟨_, xs, rfl, SqL.of (x1.sub _ _ ha), q _ hd _ G1 H1 x1 ?_⟩
      intro G2 H2 s1 s2 i
      have h2 := SqL.of (K := X.K) (s2 _ _ (s1 _ _ ha))
      have l := e.length
      rw [List.length_reverse]
      refine ⟨fun hi => ⟨by omega, xs, h2, rfl⟩, fun hi => (show xs.length ≤ i by omega), ?_⟩
      rintro x H' hi ⟨rfl, hx⟩
      obtain ⟨d, hd', dv'⟩ := e.getV (hx _ h2)
      refine ⟨G2, d, .refl s2, ?_, dv'.mono s1⟩
      rw [List.getElem?_reverse hi, ← l]; exact hd'
/-! ### x[k] += e (ints) -/
theorem get_list : PGet X (rIxL X.K) := by
  intro pins s σ H x y v u Q I rx ry h
  obtain ⟨p, xs, i, z, rfl, rfl, hq, he, q⟩ := h
  cases rx
  obtain ⟨t, rfl⟩ := ry
  obtain ⟨its, r, pl, hz⟩ := I.list hq
  obtain ⟨j, h1, h2, h3, h4, h5⟩ := atI_get he
  obtain ⟨w, ew, rw'⟩ := r.get h2
  have hl := r.length
  have hn := line63
  have fin : EP X pins σ Q w s := ⟨z, H, I, rw', q⟩
  by_cases h0 : 0 ≤ i
  · have hj : i.toNat = j := by
      rw [seqIndex_of h0 h5] at h1
      exact Option.some.inj h1
    exact wpAny_getItem_list pl.isList h0 (by omega) (by rw [hj]; simpa using ew) fin
  · have hj : (i + (its.toArray.size : Int)).toNat = j := by
      rw [seqIndex_neg (by omega) h4] at h1
      rw [List.size_toArray, ← hl]
      exact Option.some.inj h1
    exact wpAny_getItem_list_neg pl.isList (by omega) (by rw [List.size_toArray] <;> omega) (by omega) (by rw [hj]; simpa using ew) fin
variable {md : List Nat} {rn : Nat} {k : Expr} {tk : DTE}
def dAugIx (i : Nat) (f : Int → Int → Int) (tk te : DTE) : DTS := fun E ρ => ∃ ds, ρ[i]? = some (some (.lst ds)) ∧ tk ρ fun kk => ∃ k j n, kk = .int k ∧ ixN ds.length k = some j ∧ ds[j]? = some (.int n) ∧ te ρ fun d => ∃ q, d = .int q ∧ E.nx (ρ.set i (some (.lst (ds.set j (.int (f n q))))))
theorem ds_augix (i : Nat) {x : Str} {op : Operator} {f : Int → Int → Int} {px ps : Pos} (hk : DE Z X k tk) (ho : PIp X op (ipI f)) (he : DE Z X e te) (hm : md.getD i 0 = 1 := by rfl)
    (hi : X.N[i]? = some x := by rfl) (hv : Vis X.env.scope x := by first | exact Or.inl rfl | exact Or.inr (Or.inl rfl) | exact Or.inr (Or.inr rfl)) (hd : (x == ("__debug__" : Str)) = false := by decide) (hcd : (x == ("__classdict__" : Str)) = false := by decide)
    (ha : ∀ ov iv new, augStore k ov iv new = (do holding [new, ov, iv] (setItem ov iv new); release [new, ov, iv] []; pure .next) := by intros; rfl) : DSt Z X md rn (.AugAssign (.Subscript (.Name x px) k ps) op e pos) (dAugIx i f tk te) := by
  refine (ps_augS (pv i hi hv hd hcd) hk get_list he ho set_list ha).imp ?_
  rintro D σ H ⟨B, ρ, E, ⟨G, fp, S⟩, ⟨ds, h1, h⟩, M⟩
  obtain ⟨l, xs, _, _, e2, e3, _⟩ := S.one hm h1
  refine ⟨_, e2, S.ev true h ?_⟩
  rintro _ ⟨k, j, n, rfl, hj, hn, h⟩
  refine ⟨rfl, fun v1 G1 H1 S1 x1 dv1 => ?_⟩
  cases dv1
  obtain ⟨l1, xs1, ds1, e1, e2', e3', dvs, _⟩ := S1.one hm h1
  cases e1
  rw [e2] at e2'
  cases e2'
  obtain ⟨v, hv', dv⟩ := dvs.get hn
  cases dv
  refine ⟨l, xs1, k, .int n, rfl, rfl, SqL.of e3', atI_of dvs.length hj hv', S1.ev true h ?_⟩
  rintro _ ⟨q, rfl, h⟩
  refine ⟨rfl, fun v2 G2 H2 S2 x2 dv2 => ?_⟩
  cases dv2
  obtain ⟨l2, xs2, ds2, e1, e2'', e3'', dvs2, put⟩ := S2.one hm h1
  cases e1
  rw [e2] at e2''
  cases e2''
  exact ⟨n, q, rfl, rfl, l, xs2, k, j, rfl, rfl, e3'', by rw [dvs2.length]; exact hj, M.nx _ h _ _ ⟨G2, fp, put _ _ (dvs2.set (.int _) j)⟩⟩
/-! ### x.clear() -/
variable {apos cpos : Pos}
/-! ### x = f(..), the answer the asker's own -/
variable {es : List Expr}
end
end L2

set_option Elab.async false
set_option linter.all false
set_option maxRecDepth 100000
set_option maxHeartbeats 4000000
namespace L2
open PySem PySem.Spec PyProof.Rows
section
variable {X : Cx} {elt t0 i0 t1 i1 : Expr} {f0 f1 : List Expr} {scope : Scope} {pos : Pos} {wi wi1 : TI} {g g1 : TG} {tt tt1 : TT} {te : TE} {src : List (Option Nat)} {NC : List Str}
/-- two clauses: the block, from the first iterator on -/
theorem comp_block2 {pins : List (Addr × Obj)} {σ : St} {s2 : Shared} {H2 : Hp} {it : Addr} {fp : List Addr} {tn : Nat → Heap → Prop} {J : It} {RR : Value → Addr → Result → Shared → Prop} {E : Value → Shared → Prop} {Q : VK}
    (hc : X.calm = true) (c : CompOk X scope) (hsrc : SrcOk scope X.N src NC) (I2 : Inv X pins σ H2 s2) (T : Turn X.prog X.w X.K t0 J fp it tn) (st2 : tn 0 s2.heap) (f2 : ∀ b ∈ fp, FpOk X pins H2 b)
    (hg : ∀ ex s H, PG (cxC X scope NC ex s H) t0 g) (ht : ∀ ex s H, PTs (cxC X scope NC ex s H) f0 tt) (hi1 : ∀ ex s H, PI (cxC X scope NC ex s H) t1 i1 wi1) (hg1 : ∀ ex s H, PG (cxC X scope NC ex s H) t1 g1)
    (ht1 : ∀ ex s H, PTs (cxC X scope NC ex s H) f1 tt1) (he : ∀ ex s H, PE (cxC X scope NC ex s H) elt te) (hs1 : ∀ env x, foldedSetIterable i1 env x = pure x)
    (hW : ∀ D, H2 D = none → tOut g tt wi1 g1 tt1 te D J Q (srcS src σ) (upd H2 D (.lst [])))
    (hRR : ∀ D s3 H3 σ' H' s', Inv X pins σ H3 s3 → (∀ b ∈ fp, FpOk X pins H3 b) → Inv (cxC X scope NC fp s3 H3) [] σ' H' s' → Q (.ref D) H' → RR (.ref D) s3.heap.objs.size (.ok .next) s') :
    wpAny (model X.prog X.w) X.A (newList []) (fun acc s₃ => wpAny (model X.prog X.w) X.A (newFunctionEnv scope X.env.globals (clOf X.env scope.names []) [] X.env.qual none .none (some X.env)) (fun cenv s₄ =>
      codeAny (model X.prog X.w) X.A (.compStart (.ListComp elt [⟨t0, i0, f0, 0⟩, ⟨t1, i1, f1, 0⟩] scope pos) 0 (.ref it) acc { cenv with scope := relabel scope X.env }) (RR acc cenv.locals) s₄) E s₃) E s2 := by
  obtain ⟨W, ⟨m0, w0⟩, turn⟩ := hW s2.heap.objs.size I2.fresh
  have I3 : Inv X pins σ (upd H2 s2.heap.objs.size (.lst [])) { s2 with heap := s2.heap.push { cls := .type "list", data := .seq ([] : List Value).toArray } } := I2.lnew (its := []) (t' := s2.toks) .nil (Nat.zero_le _)
  have lt2 : ∀ b ∈ fp, b < s2.heap.objs.size := fun b hb => by
    obtain ⟨o, e, _⟩ := T.obj _ _ st2 b hb
    exact Heap.lt_size e
  have f3 : ∀ b ∈ fp, FpOk X pins (upd H2 s2.heap.objs.size (.lst [])) b := fun b hb => ⟨by rw [upd_ne (Nat.ne_of_lt (lt2 b hb))]; exact (f2 b hb).1, (f2 b hb).2⟩
  refine wpAny_newObj_type ?_
  suffices key : ∀ s3 : Shared, Inv X pins σ (upd H2 s2.heap.objs.size (.lst [])) s3 → (∀ b o, s2.heap.get? b = some o → s3.heap.get? b = some o) →
      wpAny (model X.prog X.w) X.A (newFunctionEnv scope X.env.globals (clOf X.env scope.names []) [] X.env.qual none .none (some X.env)) (fun cenv s₄ =>
        codeAny (model X.prog X.w) X.A (.compStart (.ListComp elt [⟨t0, i0, f0, 0⟩, ⟨t1, i1, f1, 0⟩] scope pos) 0 (.ref it) (.ref s2.heap.objs.size) { cenv with scope := relabel scope X.env }) (RR (.ref s2.heap.objs.size) cenv.locals) s₄) E s3 from
    key _ I3 fun b o e => Heap.get?_push_of_some _ e
  intro s3 I3 up3
  have st3 : tn 0 s3.heap := T.keep _ _ _ st2 fun b _ o e => up3 b o e
  have lt3 : ∀ b ∈ fp, b < s3.heap.objs.size := fun b hb => by
    obtain ⟨o, e, _⟩ := T.obj _ _ st3 b hb
    exact Heap.lt_size e
  generalize hH3 : upd H2 s2.heap.objs.size (.lst []) = H3 at I3 f3 w0
  refine wpAny_newFunctionEnv c.nocell (by intro y hy; simp at hy) (fun h1 hns hsb => ?_) c.kind
  have I4 := comp_inv (src := src) (NC := NC) (ex := fp) (tk := s3.toks + ([] : List (Str × Value)).length) I3 c hsrc f3 lt3 hns hsb
  have st4 : tn 0 h1 := T.keep _ _ _ st3 fun b hb o e => hsb.extBut b o (Nat.ne_of_lt (lt3 b hb)) (Heap.get?_push_of_some _ e)
  generalize hX : cxC X scope NC fp s3 H3 = XC at I4
  have stat : ∀ {H' : Hp}, (∀ b ∈ fp, H' b = none) → ∀ b ∈ fp, FpOk XC [] H' b := fun {H'} hn b hb => by
    subst hX
    refine ⟨hn b hb, Nat.ne_of_lt (lt3 b hb), fun z => ?_, .inl hb, fun x d e => ?_, fun p hp => absurd (show p ∈ ([] : List (Addr × Obj)) from hp) (by simp)⟩
    · exact (I4.ok.exfs b hb) z
    · exact (I4.ok.exf b hb).2 x d e
  have hcC : XC.calm = true := by subst hX; exact hc
  have eP : XC.prog = X.prog := by subst hX; rfl
  have ew : XC.w = X.w := by subst hX; rfl
  have eK : XC.K = X.K := by subst hX; rfl
  have eA : XC.A = X.A := by subst hX; rfl
  have hxe : XC.xe = fun _ _ => False := by subst hX; rfl
  have hgC : PG XC t0 g := by subst hX; exact hg _ _ _
  have htC : PTs XC f0 tt := by subst hX; exact ht _ _ _
  have hiC : PI XC t1 i1 wi1 := by subst hX; exact hi1 _ _ _
  have hg1C : PG XC t1 g1 := by subst hX; exact hg1 _ _ _
  have ht1C : PTs XC f1 tt1 := by subst hX; exact ht1 _ _ _
  have heC : PE XC elt te := by subst hX; exact he _ _ _
  have nox : ∀ {α : Type} {t : Sem α} {Q : α → Shared → Prop} {E : Value → Shared → Prop} {s : Shared}, wpAny (model XC.prog XC.w) XC.A t Q XC.xe s → wpAny (model X.prog X.w) X.A t Q E s := fun {α t Q E s} h => by
    rw [← eP, ← ew, ← eA]
    exact wpAny_mono h (fun _ _ q => q) fun _ _ f => by rw [hxe] at f; exact f.elim
  have loop : codeAny (model X.prog X.w) X.A (.compLoop (.ListComp elt [⟨t0, i0, f0, 0⟩, ⟨t1, i1, f1, 0⟩] scope pos) 0 (.ref it) (.ref s2.heap.objs.size) XC.env) (RR (.ref s2.heap.objs.size) s3.heap.objs.size)
      { s3 with heap := h1, toks := s3.toks + ([] : List (Str × Value)).length } := by
    refine codeAny_loop rfl (fun n s' => ∃ i σ' H', Inv XC [] σ' H' s' ∧ tn i s'.heap ∧ (∀ b ∈ fp, H' b = none) ∧ W i n σ' H') (fun n s' hI => ?_) m0 ⟨0, _, _, I4, st4, fun b hb => (f3 b hb).1, w0⟩
    obtain ⟨i, σ', H', I5, st5, fr5, w5⟩ := hI
    show wpAny _ X.A ((compTurn (.ListComp elt [⟨t0, i0, f0, 0⟩, ⟨t1, i1, f1, 0⟩] scope pos) 0 (.ref it) (.ref s2.heap.objs.size) XC.env).onRaise (fun x => do noteFrame x XC.env; theTreesLotGoes x)) _ _ s'
    refine wpAny_noted ?_
    rw [compTurn_two0]
    refine wpAny_bind (wpAny_standAt (wpAny_bind ?_))
    rcases turn i n σ' H' w5 with ⟨stop, qn⟩ | ⟨go, N, hN, step⟩
    · have hd := T.done XC eP ew eK hcC i [] s' σ' H' (notedBy (model X.prog X.w) X.A XC.env fun e s' => RR (.ref s2.heap.objs.size) s3.heap.objs.size (.error e) s') I5 (stat fr5) st5 stop
      rw [eA] at hd
      refine thn hd fun r s6 ⟨hr, I6⟩ => ?_
      subst hr
      refine wpAny_pure ?_
      subst hX
      exact hRR _ s3 _ σ' H' s6 I3 f3 I6 qn
    · have hd := T.item XC eP ew eK hcC i [] s' σ' H' (notedBy (model X.prog X.w) X.A XC.env fun e s' => RR (.ref s2.heap.objs.size) s3.heap.objs.size (.error e) s') I5 (stat fr5) st5 go
      rw [eA] at hd
      refine thn hd fun r s6 ⟨u, hr, h6⟩ => ?_
      subst hr
      refine wpAny_bind (thn h6 fun _ s7 ⟨x, H7, I7, r7, y7, st7, fr7⟩ => ?_)
      have I7' := I7.pinned (stat fr7) (T.obj _ _ st7)
      have nextT : ∀ {σ8 : St} {H8 : Hp} {s8 : Shared}, Inv XC ([] ++ pinsAt fp s7.heap) σ8 H8 s8 → N σ8 H8 → ∃ m, m < n ∧ ∃ i σ' H', Inv XC [] σ' H' s8 ∧ tn i s8.heap ∧ (∀ b ∈ fp, H' b = none) ∧ W i m σ' H' := fun {σ8 H8 s8} I8 n8 => by
        obtain ⟨m', hm, w8⟩ := hN σ8 H8 n8
        refine ⟨m', hm, i + 1, σ8, H8, I8.unpinned, T.keep _ _ _ st7 fun b hb o e => (I8.pin (b, o) (List.mem_append_right _ (List.mem_append_right _ (mem_pinsAt hb e)))).1, fun b hb => ?_, w8⟩
        obtain ⟨o, e, d⟩ := T.obj _ _ st7 b hb
        exact (I8.pin (b, o) (List.mem_append_right _ (List.mem_append_right _ (mem_pinsAt hb e)))).2.1
      refine wpAny_bind (nox (thn (hgC _ s7 σ' H7 x u _ I7' r7 (step x H7 y7)) fun _ s8 ⟨σ8, H8, I8, q8⟩ => ?_))
      refine wpAny_bind (nox (thn (htC _ s8 σ8 H8 _ I8 q8) fun b s9 ⟨H9, I9, q9⟩ => ?_))
      cases b with
      | false =>
        rw [if_neg Bool.false_ne_true] at q9
        exact wpAny_pure ⟨by subst hX; rfl, nextT I9 q9⟩
      | true =>
        rw [if_pos rfl] at q9
        refine wpAny_bind (nox (thn (hiC _ s9 σ8 H9 _ I9 q9) fun v1 s10 h10 => ?_))
        refine wpAny_bind (wpAny_standAt (wpAny_bind (wpAny_of_eq (hs1 _ v1) (wpAny_bind (wpAny_holding (nox (thn h10 fun itv s11 h11 => ?_)))))))
        obtain ⟨it1, fp1, tn1, J1, H11, rfl, I11, T1, st11, f11, hin⟩ := h11
        refine wpAny_bind (wpAny_runOwn ?_)
        have tr : ∀ (cd : Code) (R : Result → Shared → Prop), codeAny (model XC.prog XC.w) XC.A cd R s11 → codeAny (model X.prog X.w) X.A cd R s11 := fun cd R h => by rw [eP, ew, eA] at h; exact h
        exact tr _ _ (comp_inner hxe hcC I11 T1 st11 f11 hg1C ht1C heC hin fun σ' H' s' I12 n12 => wpAny_pure ⟨by subst hX; rfl, nextT I12 n12⟩)
  subst hX
  exact codeAny_compStart_list loop (T.self _ 0 _ _ _ st4 loop)

/-- x = [.. for .. for ..] -/
def tAsgLC2 (wi : TI) (g : TG) (tt : TT) (wi1 : TI) (g1 : TG) (tt1 : TT) (te : TE) (src : List (Option Nat)) (i : Nat) : TS := fun D σ H => tLC2 wi g tt wi1 g1 tt1 te src σ H fun v H' => D.nx (σ.set i (some v)) H'
theorem ps_setlc2 {i : Nat} {x : Str} {px spos : Pos} (hc : X.calm = true) (hN : X.N.Nodup) (hi' : X.N[i]? = some x) (hx : Loc X.env.scope x) (c : CompOk X scope) (hsrc : SrcOk scope X.N src NC) (hi : PI X t0 i0 wi)
    (hg : ∀ ex s H, PG (cxC X scope NC ex s H) t0 g) (ht : ∀ ex s H, PTs (cxC X scope NC ex s H) f0 tt) (hi1 : ∀ ex s H, PI (cxC X scope NC ex s H) t1 i1 wi1) (hg1 : ∀ ex s H, PG (cxC X scope NC ex s H) t1 g1)
    (ht1 : ∀ ex s H, PTs (cxC X scope NC ex s H) f1 tt1) (he : ∀ ex s H, PE (cxC X scope NC ex s H) elt te)
    (hsw : swapsWith (.ListComp elt [⟨t0, i0, f0, 0⟩, ⟨t1, i1, f1, 0⟩] scope pos) (some (.Name x px)) spos.line X.env = pure true)
    (hf : X.fn x = true ∨ X.env.scope.names.lookup x = some .local := by first | exact .inl rfl | exact .inr rfl | assumption)
    (hs : ∀ x, foldedSetIterable i0 X.env x = pure x := by intro _; rfl) (hs1 : ∀ env x, foldedSetIterable i1 env x = pure x := by intro _ _; rfl) : PS X (.Assign [.Name x px] (.ListComp elt [⟨t0, i0, f0, 0⟩, ⟨t1, i1, f1, 0⟩] scope pos) spos) (tAsgLC2 wi g tt wi1 g1 tt1 te src i) := by
  intro pins s σ H D I h
  rw [exec_Assign_Name_used _ _ _ _ hsw]
  refine wpAny_bind (wpAny_standAt (wpAny_bind ?_))
  show wpAny _ X.A (do let _ ← comprehension (.ListComp elt [⟨t0, i0, f0, 0⟩, ⟨t1, i1, f1, 0⟩] scope pos) scope X.env _ (newList []) false (eval i0 X.env) (some (assign (.Name x px) X.env))) _ _ s
  refine wpAny_bind (wpAny_mono (wpAny_comprehension_free (use := some (assign (.Name x px) X.env)) (Q := fun _ s' => SP X pins D .next s') rfl hs (closureFor_clOf (c.cells I.ok)) c.kind c.names
    (thn (hi pins s σ H _ I h) fun v s1 h1 => thn h1 fun itv s2 h2 => ?_)) (fun _ s' hq => wpAny_pure (wpAny_pure hq)) fun _ _ e => e)
  obtain ⟨it, fp, tn, J, H2, rfl, I2, T, st2, f2, hW⟩ := h2
  refine comp_block2 (RR := fun acc C => compPost (model X.prog X.w) X.A X.xe (some (assign (.Name x px) X.env)) (fun _ s' => SP X pins D .next s') acc C) (Q := fun v H' => D.nx (σ.set i (some v)) H') hc c hsrc I2 T st2 f2 hg ht hi1 hg1 ht1 he hs1 hW ?_
  intro a s3 H3 σ' H' s' I3 f3 J' q
  obtain ⟨m, hn, _⟩ := J'.loc
  have IX : Inv X pins σ H' s' := comp_back I3 f3 J' (.refl ..)
  show wpAny _ X.A (assign (.Name x px) X.env (.ref a)) _ _ _
  have nL : s3.heap.objs.size ≠ X.env.locals := Nat.ne_of_gt I3.lt
  have nc : ∀ y d, X.env.cells.lookup y = some d → d ≠ s3.heap.objs.size := fun y d e z => by
    obtain ⟨v, hv⟩ := I3.cell y d e
    have := hv.lt
    rw [z] at this
    exact absurd this (Nat.lt_irrefl _)
  have np : ∀ p ∈ X.pn ++ pins, p.1 ≠ s3.heap.objs.size := fun p hp z => by
    have := Heap.lt_size (I3.pin p hp).1
    rw [z] at this
    exact absurd this (Nat.lt_irrefl _)
  obtain ⟨oC, es, ep, hoC, hdC, rC⟩ := id hn
  have hHC : H' s3.heap.objs.size = none := J'.free
  have IP : Inv X ((s3.heap.objs.size, oC) :: pins) σ H' s' := IX.pins_of fun p hp => by
    rcases List.mem_cons.mp hp with z | z
    · rw [z]
      exact ⟨hoC, hHC, nL, I3.nofs (Nat.le_refl _), fun v w => by rw [hdC] at w; cases w⟩
    · exact IX.pin p (List.mem_append_right _ z)
  refine wpAny_assign_Name (store_ok (x := x) IP hN hi' hx (v := .ref a) rfl (fun s5 I5 => ?_) hf)
  have hC5 := (I5.pin (s3.heap.objs.size, oC) (List.mem_append_right _ List.mem_cons_self)).1
  refine ⟨m, ⟨oC, es, ep, hC5, hdC, rC⟩, fun h6 sb => ?_⟩
  have I5' : Inv X pins (σ.set i (some (.ref a))) H' s5 := I5.pins_of fun p hp => I5.pin p (List.mem_append_right _ (List.mem_cons_of_mem _ hp))
  exact ⟨_, H', I5'.turned (t' := s5.toks) (it := s3.heap.objs.size) (fun b o hb e => sb.extBut b o hb e) hHC nL (.inr I3.sz) nc np, q⟩

end
section
variable {Z : DC} {X : Cx} {md : List Nat} {rn : Nat} {elt t0 i0 t1 i1 : Expr} {f0 f1 : List Expr} {scope : Scope} {pos : Pos} {wi wi1 : DTI} {g g1 : DTG} {tt tt1 : DTT} {te : DTE} {src : List (Option Nat)} {NC : List Str}
theorem ds_setlc2 (i : Nat) {x : Str} {px spos : Pos} (hc : X.calm = true) (hN : X.N.Nodup) (c : CompOk X scope) (hsrc : SrcOk scope X.N src NC) (hi : DI Z X t0 i0 wi)
    (hg : ∀ ex s H, DG Z (cxC X scope NC ex s H) t0 g) (ht : ∀ ex s H, DTs Z (cxC X scope NC ex s H) f0 tt) (hi1 : ∀ ex s H, DI Z (cxC X scope NC ex s H) t1 i1 wi1) (hg1 : ∀ ex s H, DG Z (cxC X scope NC ex s H) t1 g1)
    (ht1 : ∀ ex s H, DTs Z (cxC X scope NC ex s H) f1 tt1) (he : ∀ ex s H, DE Z (cxC X scope NC ex s H) elt te)
    (hsw : swapsWith (.ListComp elt [⟨t0, i0, f0, 0⟩, ⟨t1, i1, f1, 0⟩] scope pos) (some (.Name x px)) spos.line X.env = pure true := by rfl) (hm : md.getD i 0 = 0 := by rfl) (hi' : X.N[i]? = some x := by rfl) (hx : Loc X.env.scope x := by first | exact Or.inl rfl | exact Or.inr rfl)
    (hf : X.fn x = true ∨ X.env.scope.names.lookup x = some .local := by first | exact .inl rfl | exact .inr rfl | assumption)
    (hs : ∀ x, foldedSetIterable i0 X.env x = pure x := by intro _; rfl) (hs1 : ∀ env x, foldedSetIterable i1 env x = pure x := by intro _ _; rfl) :
    DSt Z X md rn (.Assign [.Name x px] (.ListComp elt [⟨t0, i0, f0, 0⟩, ⟨t1, i1, f1, 0⟩] scope pos) spos) (dSet md false i (dLC2 wi g tt wi1 g1 tt1 te src)) := by
  refine (ps_setlc2 hc hN hi' hx c hsrc hi hg ht hi1 hg1 ht1 he hsw hf hs hs1).imp ?_
  rintro D σ H ⟨B, ρ, E, ⟨G, fp, S⟩, h, M⟩
  refine liftLC2 σ H _ (S.ev false h fun d hd => ⟨hd.1, fun v G' H' S' x dv => M.nx _ hd.2 _ _ ⟨G', _, S'.setP hm dv⟩⟩)
end
end L2
namespace L2
open PySem PySem.Spec PyProof.Rows
section
variable {Z : DC} {X : Cx} {md : List Nat} {rn : Nat} {e : Expr} {pos : Pos}
end
theorem enumD_get {l : List D} {j : Nat} {d : D} (h : (enumD l)[j]? = some d) : ∃ x, l[j]? = some x ∧ d = .tup [.int (j : Int), x] := by
  unfold enumD at h
  rw [List.getElem?_mapIdx] at h
  cases e : l[j]? with
  | none => rw [e] at h; cases h
  | some x => rw [e] at h; cases h; exact ⟨x, rfl, rfl⟩
theorem enumD_len (l : List D) : (enumD l).length = l.length := by unfold enumD; simp
theorem map_get {α β : Type} {f : α → β} {l : List α} {j : Nat} {y : β} (h : (l.map f)[j]? = some y) : ∃ x, l[j]? = some x ∧ y = f x := by
  rw [List.getElem?_map] at h
  cases e : l[j]? with
  | none => rw [e] at h; cases h
  | some x => rw [e] at h; cases h; exact ⟨x, rfl, rfl⟩
theorem flat_nat (r : List Nat) : (r.map natD).all flatD = true := by simp [natD, flatD]
theorem inD_nat {r : List Nat} {p : Nat} : inD (natD p) (r.map natD) = decide (p ∈ r) := by
  unfold inD
  rw [List.any_map]
  have : ((fun y => eqFD y (natD p)) ∘ natD) = fun q : Nat => decide (q = p) := by
    funext q
    simp [natD, eqFD, Function.comp]
    by_cases z : q = p
    · simp [z]
    · have : ¬ (q : Int) = (p : Int) := by omega
      simp [z, this]
  rw [this]
  by_cases h : p ∈ r
  · rw [decide_eq_true h, List.any_eq_true]; exact ⟨p, h, by simp⟩
  · rw [decide_eq_false h]
    apply Bool.eq_false_iff.mpr
    intro z
    rw [List.any_eq_true] at z
    obtain ⟨q, hq, e⟩ := z
    exact h (by have : q = p := by simpa using e
                rw [← this]; exact hq)
theorem atI_natD {l : List D} {p : Nat} {d : D} (h : l[p]? = some d) : atI l (p : Int) = some d := atI_nat h
theorem web_row {w : List (List Nat)} {p : Nat} (h : p < w.length) : (w.map rowW)[p]? = some (rowW (Wb.row w p)) := by
  rw [List.getElem?_map, Wb.row_get h]; rfl
end L2

set_option Elab.async false
set_option linter.all false
set_option maxRecDepth 100000
set_option maxHeartbeats 4000000
namespace L2
open PySem PySem.Spec PyProof.Rows
section
variable {Z : DC} {X : Cx} {md : List Nat} {rn : Nat} {e : Expr} {te : DTE} {pos : Pos}
/-- an expression whose value is let go -/
def dDrop (te : DTE) : DTS := fun E ρ => te ρ fun _ => E.nx ρ
theorem ds_drop (he : DE Z X e te) (hs : swapsWith e none pos.line X.env = pure false := by rfl) : DSt Z X md rn (.Expr e pos) (dDrop te) := by
  refine (ps_expr he hs).imp ?_
  rintro D σ H ⟨B, ρ, E, ⟨G, fp, S⟩, h, M⟩
  exact ⟨H, ρ, _, .refl _, S.envA, h, fun d hd v G' H' x dv => M.nx _ hd _ _ ⟨G, fp, S.grow (Ext.all S.ex.sub x)⟩⟩
end
theorem yesT {ρ : DN} {A B : Prop} (h : A) : dYes ρ (fun b => if b = true then A else B) := by
  unfold dYes
  dsimp only
  rw [if_pos rfl]
  exact h
theorem iteE {c : Bool} {A B : Prop} (e : c = true) (h : A) : if c = true then A else B := by rw [if_pos e]; exact h
theorem iteN {c : Bool} {A B : Prop} (e : c = false) (h : B) : if c = true then A else B := by rw [if_neg (by rw [e]; exact Bool.false_ne_true)]; exact h
/-- a comprehension, by an invariant of its names -/
theorem lc_inv {g : DTG} {tt : DTT} {te : DTE} {α : Type} (I : DN → Prop) (enc : α → D) (p : α → Bool) (f : α → D) : ∀ (ys : List α) (ρ' : DN) (acc : List D) (N : DN → List D → Prop), (∀ y ∈ ys, ∀ ρ', I ρ' → ∀ (Y : DN → D → Prop) (Nn : DN → Prop), (∀ ρ1, I ρ1 → p y = true → Y ρ1 (f y)) → (∀ ρ1, I ρ1 → p y = false → Nn ρ1) → g (enc y) ρ' fun ρ1 => tt ρ1 fun b => if b = true then te ρ1 (Y ρ1) else Nn ρ1) →
    I ρ' → acc.length + ys.length ≤ sizeLine → (∀ ρ', I ρ' → N ρ' (acc ++ (ys.filter p).map f)) → lcW g tt te (ys.map enc) ρ' acc N
  | [], ρ', acc, N, _, hI, _, h => by
    show N ρ' acc
    simpa using h ρ' hI
  | y :: ys, ρ', acc, N, hs, hI, hz, h => by
    rw [List.length_cons] at hz
    refine hs y (List.mem_cons_self ..) ρ' hI (fun ρ1 d => acc.length < sizeLine ∧ lcW g tt te (ys.map enc) ρ1 (acc ++ [d]) N) (fun ρ1 => lcW g tt te (ys.map enc) ρ1 acc N) (fun ρ1 h1 hp => ⟨by omega, ?_⟩) (fun ρ1 h1 hp => ?_)
    · refine lc_inv I enc p f ys _ (acc ++ [f y]) N (fun z hz => hs z (List.mem_cons_of_mem _ hz)) h1 (by simp; omega) fun ρ'' h2 => ?_
      have := h ρ'' h2
      rw [List.filter_cons, hp] at this
      simpa using this
    · refine lc_inv I enc p f ys _ acc N (fun z hz => hs z (List.mem_cons_of_mem _ hz)) h1 (by omega) fun ρ'' h2 => ?_
      have := h ρ'' h2
      rw [List.filter_cons, hp] at this
      simpa using this
/-- two clauses, the second over what the first gives; no tests -/
theorem lc2_inv {g : DTG} {wi1 : DTI} {g1 : DTG} {te : DTE} {α β : Type} (I : DN → Prop) (enc : α → D) (f : α → List β) (enc2 : β → D) : ∀ (ys : List α) (ρ' : DN) (acc : List β) (P : List D → Prop),
    (∀ y ∈ ys, ∀ ρ', I ρ' → ∀ (Y : DN → List D → Prop), (∀ ρ1, I ρ1 → Y ρ1 ((f y).map enc2)) → g (enc y) ρ' fun ρ1 => wi1 ρ1 (Y ρ1)) →
    (∀ y ∈ ys, ∀ b ∈ f y, ∀ ρ', I ρ' → ∀ (Y : DN → D → Prop), (∀ ρ1, I ρ1 → Y ρ1 (enc2 b)) → g1 (enc2 b) ρ' fun ρ1 => te ρ1 (Y ρ1)) →
    I ρ' → acc.length + (ys.flatMap f).length ≤ sizeLine → P ((acc ++ ys.flatMap f).map enc2) → lcW2 g dYes wi1 g1 dYes te (ys.map enc) ρ' (acc.map enc2) P
  | [], ρ', acc, P, _, _, hI, _, h => by
    show P (acc.map enc2)
    simpa using h
  | y :: ys, ρ', acc, P, h1, h2, hI, hz, h => by
    rw [List.flatMap_cons, List.length_append] at hz
    refine h1 y (List.mem_cons_self ..) ρ' hI (fun ρ1 es => lcW g1 dYes te es ρ1 (acc.map enc2) fun ρ2 acc2 => lcW2 g dYes wi1 g1 dYes te (ys.map enc) ρ2 acc2 P) fun ρ1 hI1 => ?_
    refine lc_inv I enc2 (fun _ => true) enc2 (f y) ρ1 (acc.map enc2) _ (fun b hb ρ2 hI2 Y Nn hY _ => ?_) hI1 (by rw [List.length_map]; omega) fun ρ2 hI2 => ?_
    · exact h2 y (List.mem_cons_self ..) b hb ρ2 hI2 Y fun ρ3 h3 => hY ρ3 h3 rfl
    · rw [List.filter_eq_self.mpr (fun _ _ => rfl), ← List.map_append]
      refine lc2_inv I enc f enc2 ys ρ2 (acc ++ f y) P (fun z hz => h1 z (List.mem_cons_of_mem _ hz)) (fun z hz => h2 z (List.mem_cons_of_mem _ hz)) hI2 (by rw [List.length_append]; omega) ?_
      rw [List.flatMap_cons] at h
      rw [List.append_assoc]; exact h
theorem zipD_map {α : Type} (enc : α → D) : ∀ (u v : List α), zipD (u.map enc) (v.map enc) = (u.zip v).map fun y => .tup [enc y.1, enc y.2]
  | [], _ => by simp [zipD]
  | _ :: _, [] => by simp [zipD]
  | a :: u, b :: v => by
    have := zipD_map enc u v
    simp [zipD] at this ⊢
    exact this
theorem len1 {α : Type} {us : List α} (h : us.length = 1) : ∃ a0, us = [a0] := by
  cases us with
  | nil => cases h
  | cons a l =>
    cases l with
    | nil => exact ⟨a, rfl⟩
    | cons _ _ => cases h
theorem len2 {α : Type} {us : List α} (h : us.length = 2) : ∃ a0 a1, us = [a0, a1] := by
  cases us with
  | nil => cases h
  | cons a l =>
    obtain ⟨a1, rfl⟩ := len1 (Nat.succ.inj h)
    exact ⟨a, a1, rfl⟩
theorem len3 {α : Type} {us : List α} (h : us.length = 3) : ∃ a0 a1 a2, us = [a0, a1, a2] := by
  cases us with
  | nil => cases h
  | cons a l =>
    obtain ⟨a1, a2, rfl⟩ := len2 (Nat.succ.inj h)
    exact ⟨a, a1, a2, rfl⟩
end L2


set_option linter.all false
namespace Wb
/-! the points that are reached -/
structure RI (w : W) (bs : List Bool) (ws ex : List Nat) (c : Nat) : Prop where
  len : bs.length = w.length
  z : bs[0]? = some true
  wt : ∀ x ∈ ws, bs[x]? = some true
  cl : ∀ x, bs[x]? = some true → x ∈ ws ∨ x ∈ ex ∨ ∀ q ∈ row w x, bs[q]? = some true
  cnt : bs.count false + ws.length ≤ c
theorem RI.pop {w : W} {bs : List Bool} {ws : List Nat} {p c : Nat} (h : RI w bs (ws ++ [p]) [] (c + 1)) : RI w bs ws [p] c :=
  ⟨h.len, h.z, fun x hx => h.wt x (List.mem_append_left _ hx), fun x hx => by
    rcases h.cl x hx with q | q | q
    · rcases List.mem_append.mp q with q | q
      · exact .inl q
      · exact .inr (.inl q)
    · cases q
    · exact .inr (.inr q), by have := h.cnt; rw [List.length_append] at this; simp at this; omega⟩
theorem RI.push {w : W} {bs : List Bool} {ws ex : List Nat} {q c : Nat} (h : RI w bs ws ex c) (hq : bs[q]? = some false) : RI w (bs.set q true) (ws ++ [q]) ex c := by
  obtain ⟨hl, he⟩ := List.getElem?_eq_some_iff.mp hq
  have up : ∀ x, bs[x]? = some true → (bs.set q true)[x]? = some true := fun x hx => by
    rw [List.getElem?_set]
    by_cases e : q = x
    · rw [if_pos e, if_pos hl]
    · rw [if_neg e]; exact hx
  refine ⟨by rw [List.length_set]; exact h.len, up _ h.z, fun x hx => ?_, fun x hx => ?_, ?_⟩
  · rcases List.mem_append.mp hx with z | z
    · exact up _ (h.wt x z)
    · have : x = q := by simpa using z
      rw [this, List.getElem?_set, if_pos rfl, if_pos hl]
  · by_cases e : q = x
    · exact .inl (by rw [e]; simp)
    · rw [List.getElem?_set, if_neg e] at hx
      rcases h.cl x hx with z | z | z
      · exact .inl (List.mem_append_left _ z)
      · exact .inr (.inl z)
      · exact .inr (.inr fun y hy => up _ (z y hy))
  · have hc := h.cnt
    have : 0 < bs.count false := List.count_pos_iff.mpr (by rw [← he]; exact List.getElem_mem hl)
    rw [List.count_set hl, he, List.length_append]
    simp
    omega
theorem RI.close {w : W} {bs : List Bool} {ws : List Nat} {p c : Nat} (h : RI w bs ws [p] c) (hp : ∀ q ∈ row w p, bs[q]? = some true) : RI w bs ws [] c :=
  ⟨h.len, h.z, h.wt, fun x hx => by
    rcases h.cl x hx with q | q | q
    · exact .inl q
    · have : x = p := by simpa using q
      rw [this]; exact .inr (.inr hp)
    · exact .inr (.inr q), h.cnt⟩
theorem RI.all {w : W} {bs : List Bool} {c : Nat} (g : Good w) (h : RI w bs [] [] c) : bs = List.replicate w.length true := by
  have := closed_all g (S := fun x => bs[x]? = some true) h.z fun p q hp hq => by
    rcases h.cl p hp with z | z | z
    · cases z
    · cases z
    · exact z q hq
  refine List.ext_getElem? fun i => ?_
  by_cases hi : i < w.length
  · rw [this i hi, List.getElem?_replicate, if_pos hi]
  · rw [List.getElem?_eq_none (by rw [h.len]; omega), List.getElem?_eq_none (by simp; omega)]
end Wb

set_option Elab.async false
set_option linter.all false
set_option maxRecDepth 100000
set_option maxHeartbeats 4000000
namespace K82
open PySem L2 Wb
def top (i : Nat) : Stmt := PySem.Challenge.pw_mapdye_k82_whole_a_tie_taken_away.main.body.getD i (.Pass ⟨0, 0, 0, 0⟩)
abbrev s_is_among : Stmt := top 10
abbrev s_alien_fault : Stmt := top 11
abbrev s_self_fault : Stmt := top 12
abbrev s_twice_fault : Stmt := top 13
abbrev s_lone_fault : Stmt := top 14
abbrev s_reached_from_first : Stmt := top 15
abbrev s_apart_fault : Stmt := top 16
abbrev s_first_fault : Stmt := top 17
abbrev s_need_at_most : Stmt := top 19
abbrev s_parts_with : Stmt := top 22
abbrev s_counted_by_parts : Stmt := top 23
abbrev s_ways : Stmt := top 24
abbrev s_ways_by : Stmt := top 25
abbrev s__law_cell_at : Stmt := top 27
abbrev s__law_whole : Stmt := top 28
abbrev s__law_reserve : Stmt := top 29
abbrev s__law_tied : Stmt := top 30
abbrev s__law_turns : Stmt := top 31
abbrev s__law_part : Stmt := top 32
abbrev s__law_web_of : Stmt := top 33
abbrev s__law_together : Stmt := top 34
abbrev s__law_without : Stmt := top 35
abbrev s__law_times : Stmt := top 36
abbrev s_law : Stmt := top 37
abbrev s_Web___init__ : Stmt := L2.inClassD (top 18) 0
abbrev s_Web_many : Stmt := L2.inClassD (top 18) 1
abbrev s_Web_turns : Stmt := L2.inClassD (top 18) 2
abbrev s_Web_ties : Stmt := L2.inClassD (top 18) 3
abbrev s_Web_tied : Stmt := L2.inClassD (top 18) 4
abbrev s_Web_behind : Stmt := L2.inClassD (top 18) 5
theorem sc_is_among : FnScope ["thing", "many"] ["thing", "many"] (defScope s_is_among) := ⟨rfl, rfl, rfl, by decide +kernel, rfl, by decide +kernel, by decide +kernel⟩
theorem sc_alien_fault : FnScope ["rows", "p", "row", "q"] ["rows"] (defScope s_alien_fault) := ⟨rfl, rfl, rfl, by decide +kernel, rfl, by decide +kernel, by decide +kernel⟩
theorem sc_self_fault : FnScope ["rows", "p", "row"] ["rows"] (defScope s_self_fault) := ⟨rfl, rfl, rfl, by decide +kernel, rfl, by decide +kernel, by decide +kernel⟩
theorem sc_twice_fault : FnScope ["rows", "p", "row", "place", "q"] ["rows"] (defScope s_twice_fault) := ⟨rfl, rfl, rfl, by decide +kernel, rfl, by decide +kernel, by decide +kernel⟩
theorem sc_lone_fault : FnScope ["rows", "p", "row", "q"] ["rows"] (defScope s_lone_fault) := ⟨rfl, rfl, rfl, by decide +kernel, rfl, by decide +kernel, by decide +kernel⟩
theorem sc_reached_from_first : FnScope ["rows", "reached", "waiting", "p", "q"] ["rows"] (defScope s_reached_from_first) := ⟨rfl, rfl, rfl, by decide +kernel, rfl, by decide +kernel, by decide +kernel⟩
theorem sc_apart_fault : FnScope ["rows", "q", "reached"] ["rows"] (defScope s_apart_fault) := ⟨rfl, rfl, rfl, by decide +kernel, rfl, by decide +kernel, by decide +kernel⟩
theorem sc_first_fault : FnScope ["rows", "fault"] ["rows"] (defScope s_first_fault) := ⟨rfl, rfl, rfl, by decide +kernel, rfl, by decide +kernel, by decide +kernel⟩
theorem sc_need_at_most : FnScope ["web", "most"] ["web", "most"] (defScope s_need_at_most) := ⟨rfl, rfl, rfl, by decide +kernel, rfl, by decide +kernel, by decide +kernel⟩
theorem sc_parts_with : FnScope ["parts", "p", "row", "told", "place", "part"] ["parts", "p", "row"] (defScope s_parts_with) := ⟨rfl, rfl, rfl, by decide +kernel, rfl, by decide +kernel, by decide +kernel⟩
theorem sc_counted_by_parts : FnScope ["web", "fallen", "p", "row", "counts", "parts"] ["web"] (defScope s_counted_by_parts) := ⟨rfl, rfl, rfl, by decide +kernel, rfl, by decide +kernel, by decide +kernel⟩
theorem sc_ways : FnScope ["web", "told", "falling", "less", "many", "place", "factor"] ["web"] (defScope s_ways) := ⟨rfl, rfl, rfl, by decide +kernel, rfl, by decide +kernel, by decide +kernel⟩
theorem sc_ways_by : FnScope ["web", "many", "total", "factor"] ["web", "many"] (defScope s_ways_by) := ⟨rfl, rfl, rfl, by decide +kernel, rfl, by decide +kernel, by decide +kernel⟩
theorem sc__law_cell_at : FnScope ["_law_script", "_law_k"] ["_law_script", "_law_k"] (defScope s__law_cell_at) := ⟨rfl, rfl, rfl, by decide +kernel, rfl, by decide +kernel, by decide +kernel⟩
theorem sc__law_whole : FnScope ["_law_found"] ["_law_found"] (defScope s__law_whole) := ⟨rfl, rfl, rfl, by decide +kernel, rfl, by decide +kernel, by decide +kernel⟩
theorem sc__law_reserve : FnScope ["_law_cell", "_law_k", "_law_number"] ["_law_cell", "_law_k"] (defScope s__law_reserve) := ⟨rfl, rfl, rfl, by decide +kernel, rfl, by decide +kernel, by decide +kernel⟩
theorem sc__law_tied : FnScope ["_law_cell", "_law_mode", "_law_many", "_law_number", "_law_ties", "_law_first", "_law_q", "_law_sure", "_law_p", "_law_bit"] ["_law_cell", "_law_mode", "_law_many"] (defScope s__law_tied) := ⟨rfl, rfl, rfl, by decide +kernel, rfl, by decide +kernel, by decide +kernel⟩
theorem sc__law_turns : FnScope ["_law_many", "_law_ties", "_law_turns_here", "_law_p", "_law_q"] ["_law_many", "_law_ties"] (defScope s__law_turns) := ⟨rfl, rfl, rfl, by decide +kernel, rfl, by decide +kernel, by decide +kernel⟩
theorem sc__law_part : FnScope ["_law_turns_here", "_law_p", "_law_found", "_law_at"] ["_law_turns_here", "_law_p"] (defScope s__law_part) := ⟨rfl, rfl, rfl, by decide +kernel, rfl, by decide +kernel, by decide +kernel⟩
theorem sc__law_web_of : FnScope ["_law_points", "_law_ties", "_law_some"] ["_law_points", "_law_ties"] (defScope s__law_web_of) := ⟨rfl, rfl, rfl, by decide +kernel, rfl, by decide +kernel, by decide +kernel⟩
theorem sc__law_together : FnScope ["_law_many", "_law_ties", "_law_tie", "_law_one", "_law_other", "_law_found", "_law_p", "_law_q", "_law_ends"] ["_law_many", "_law_ties", "_law_tie"] (defScope s__law_together) := ⟨rfl, rfl, rfl, by decide +kernel, rfl, by decide +kernel, by decide +kernel⟩
theorem sc__law_without : FnScope ["_law_many", "_law_ties", "_law_tie", "_law_left", "_law_turns_here", "_law_first", "_law_rest"] ["_law_many", "_law_ties", "_law_tie"] (defScope s__law_without) := ⟨rfl, rfl, rfl, by decide +kernel, rfl, by decide +kernel, by decide +kernel⟩
theorem sc__law_times : FnScope ["_law_one", "_law_other", "_law_found", "_law_k", "_law_j"] ["_law_one", "_law_other"] (defScope s__law_times) := ⟨rfl, rfl, rfl, by decide +kernel, rfl, by decide +kernel, by decide +kernel⟩
theorem sc_law : FnScope ["_law_script", "_law_many", "_law_ties", "_law_tie", "_law_dyes", "_law_web", "_law_parts", "_law_merged", "_law_due", "_law_powers", "_law_part_here", "_law_told", "_law_less", "_law_found", "_law_worth", "_law_number"] ["_law_script"] (defScope s_law) := ⟨rfl, rfl, rfl, by decide +kernel, rfl, by decide +kernel, by decide +kernel⟩
theorem sc_Web___init__ : FnScope ["self", "turns", "rows", "fault"] ["self", "turns"] (defScope s_Web___init__) := ⟨rfl, rfl, rfl, by decide +kernel, rfl, by decide +kernel, by decide +kernel⟩
theorem sc_Web_many : FnScope ["self"] ["self"] (defScope s_Web_many) := ⟨rfl, rfl, rfl, by decide +kernel, rfl, by decide +kernel, by decide +kernel⟩
theorem sc_Web_turns : FnScope ["self"] ["self"] (defScope s_Web_turns) := ⟨rfl, rfl, rfl, by decide +kernel, rfl, by decide +kernel, by decide +kernel⟩
structure Txt (Z : DC) (mg : Str → Option Value) where
  B : BltD mg
  d_is_among : Dfn Z.K mg "is_among" s_is_among ["thing", "many"]
  d_alien_fault : Dfn Z.K mg "alien_fault" s_alien_fault ["rows"]
  d_self_fault : Dfn Z.K mg "self_fault" s_self_fault ["rows"]
  d_twice_fault : Dfn Z.K mg "twice_fault" s_twice_fault ["rows"]
  d_lone_fault : Dfn Z.K mg "lone_fault" s_lone_fault ["rows"]
  d_reached_from_first : Dfn Z.K mg "reached_from_first" s_reached_from_first ["rows"]
  d_apart_fault : Dfn Z.K mg "apart_fault" s_apart_fault ["rows"]
  d_first_fault : Dfn Z.K mg "first_fault" s_first_fault ["rows"]
  d_need_at_most : Dfn Z.K mg "need_at_most" s_need_at_most ["web", "most"]
  d_parts_with : Dfn Z.K mg "parts_with" s_parts_with ["parts", "p", "row"]
  d_counted_by_parts : Dfn Z.K mg "counted_by_parts" s_counted_by_parts ["web"]
  d_ways : Dfn Z.K mg "ways" s_ways ["web"]
  d_ways_by : Dfn Z.K mg "ways_by" s_ways_by ["web", "many"]
  d__law_cell_at : Dfn Z.K mg "_law_cell_at" s__law_cell_at ["_law_script", "_law_k"]
  d__law_whole : Dfn Z.K mg "_law_whole" s__law_whole ["_law_found"]
  d__law_reserve : Dfn Z.K mg "_law_reserve" s__law_reserve ["_law_cell", "_law_k"]
  d__law_tied : Dfn Z.K mg "_law_tied" s__law_tied ["_law_cell", "_law_mode", "_law_many"]
  d__law_turns : Dfn Z.K mg "_law_turns" s__law_turns ["_law_many", "_law_ties"]
  d__law_part : Dfn Z.K mg "_law_part" s__law_part ["_law_turns_here", "_law_p"]
  d__law_web_of : Dfn Z.K mg "_law_web_of" s__law_web_of ["_law_points", "_law_ties"]
  d__law_together : Dfn Z.K mg "_law_together" s__law_together ["_law_many", "_law_ties", "_law_tie"]
  d__law_without : Dfn Z.K mg "_law_without" s__law_without ["_law_many", "_law_ties", "_law_tie"]
  d__law_times : Dfn Z.K mg "_law_times" s__law_times ["_law_one", "_law_other"]
  d_law : Dfn Z.K mg "law" s_law ["_law_script"]
  W : WCls Z
  mC : mg "Web" = some (.ref Z.C)
  i_f : Addr
  i_fd : FuncData
  i_F : Fun Z.K "__init__" "Web.__init__" s_Web___init__ i_f i_fd
  mkW : Mk Z.K Z.C i_f
  m___init__b : Binds Z.K i_fd ["self", "turns"] []
  m_many : Mfn Z "many" "Web.many" s_Web_many ["self"]
  m_turns : Mfn Z "turns" "Web.turns" s_Web_turns ["self"]
  m_ties : Mfn Z "ties" "Web.ties" s_Web_ties ["self"]
  m_tied : Mfn Z "tied" "Web.tied" s_Web_tied ["self", "a", "b"]
  m_behind : Mfn Z "behind" "Web.behind" s_Web_behind ["self", "p", "q"]
  c_MOST_POINTS : ∃ tk, mg "MOST_POINTS" = some (.int 14 tk)
  c_MOST_COUNTED : ∃ tk, mg "MOST_COUNTED" = some (.int 8 tk)
/-! ### the web's own defs, of good webs -/
def spAmong : DSp := fun ds P => ∃ (i n : Int), ds = [.int i, .int n] ∧ P (.bl (decide (0 ≤ i ∧ i < n)))
theorem ok_is_among {P : Program} {w : World} {mg : Str → Option Value} {base : Heap} {Z : DC} (T : Txt Z mg) : FnOk P w Z.K mg base CX0 1 T.d_is_among.f T.d_is_among.fd ["thing", "many"] (liftSp Z spAmong) := by
  have nd := sc_is_among.nd
  refine fn_data T.d_is_among.F sc_is_among [0, 0] (by decide) (fun ds R h => by obtain ⟨_, _, rfl, _⟩ := h; rfl) (fun cdv A outer s H E ds R hr h => ?_)
  have hu := hr.units
  refine ⟨_, (dss_one (ds_ret (de_and (de_isI "int" (de_var 0) rfl T.B.isinstance rfl T.B.int bd_int) (de_and (de_not (de_isI "bool" (de_var 0) rfl T.B.isinstance rfl T.B.bool bd_bool)) (de_one (de_chain od_le od_lt de_int (de_var 0) (de_var 1))))))), ?_⟩
  obtain ⟨i, n, rfl, q⟩ := h
  refine ⟨_, rfl, rfl, true, rfl, iteT ⟨_, rfl, rfl, false, rfl, true, rfl, iteT ⟨_, rfl, ?_⟩⟩⟩
  refine ⟨_, rfl, ite_of (fun h0 => ⟨_, rfl, ?_⟩) (fun h0 => ?_)⟩
  · have h0 : 0 ≤ i := of_decide_eq_true h0
    show R (.bl (decide (i < n)))
    rw [show decide (i < n) = decide (0 ≤ i ∧ i < n) by simp [h0]]
    exact q
  · have h0 : ¬ 0 ≤ i := of_decide_eq_false h0
    rw [show decide (0 ≤ i ∧ i < n) = false by simp [h0]] at q
    exact q
def spNone : DSp := fun ds P => ∃ (w : W), ds = [webW w] ∧ Good w ∧ 1 ≤ w.length ∧ w.length ≤ 14 ∧ P .non
theorem web3 {w : W} {j : Nat} {d : D} (h : (enumD (w.map rowW))[j]? = some d) : j < w.length ∧ d = .tup [.int (j : Int), rowW (row w j)] := by
  obtain ⟨x, hx, rfl⟩ := enumD_get h
  obtain ⟨r, hr, rfl⟩ := map_get hx
  have hj : j < w.length := (List.getElem?_eq_some_iff.mp hr).1
  refine ⟨hj, ?_⟩
  rw [row_of hr]
theorem ok_alien_fault {P : Program} {w : World} {mg : Str → Option Value} {base : Heap} {Z : DC} (T : Txt Z mg) : FnOk P w Z.K mg base CX0 2 T.d_alien_fault.f T.d_alien_fault.fd ["rows"] (liftSp Z spNone) := by
  have g_is_among := ok_is_among (P := P) (w := w) (base := base) T
  have nd := sc_alien_fault.nd
  refine fn_data T.d_alien_fault.F sc_alien_fault [0, 0, 0, 0] (by decide) (fun ds R h => by obtain ⟨_, rfl, _⟩ := h; rfl) (fun cdv A outer s H E ds R hr h => ?_)
  have hu := hr.units
  refine ⟨_, (dss_cons (ds_for rfl PassesOwn.never (di_enum rfl T.B.enumerate (da_cons (de_var 0) da_nil)) (dt_tup 2 rfl (dts_cons (dt_name 1 nd) (dts_cons (dt_name 2 nd) dts_nil'))) (dss_one (ds_for rfl PassesOwn.never (di_list (de_var 2)) (dt_name 3 nd) (dss_one (ds_if (dt_not (dt_tru (de_call g_is_among (hr.mono (by decide)) rfl T.d_is_among.m T.d_is_among.F.kp T.d_is_among.b (da_cons (de_var 3) (da_cons (de_callB cd_len rfl T.B.len bd_len (da_cons (de_var 0) da_nil)) da_nil))))) (dss_one (ds_ret (de_tup (da_cons de_str (da_cons (de_var 1) (da_cons (de_var 3) da_nil)))))) dss_nil)))))
      (dss_one (ds_ret de_non))), ?_⟩
  obtain ⟨w', rfl, g, h1, h14, q⟩ := h
  refine ⟨_, rfl, for_inv (fun _ ρ => ∃ o1 o2 o3, ρ = [some (webW w'), o1, o2, o3]) ⟨_, _, _, rfl⟩ ?_ ?_⟩
  · rintro j d _ hd ⟨o1, o2, o3, rfl⟩ A hA
    obtain ⟨hj, rfl⟩ := web3 hd
    refine ⟨rfl, rfl, ?_⟩
    refine ⟨_, rfl, for_inv (fun _ ρ => ∃ o3, ρ = [some (webW w'), some (.int (j : Int)), some (rowW (row w' j)), o3]) ⟨_, rfl⟩ ?_ ?_⟩
    · rintro k d' _ hk ⟨o4, rfl⟩ A' hA'
      obtain ⟨x, hx, rfl⟩ := map_get hk
      refine ⟨_, rfl, _, rfl, _, _, rfl, ⟨rfl, ?_⟩⟩
      have hlt : x < w'.length := g.rng _ _ (List.mem_of_getElem? hx)
      rw [show decide ((0 : Int) ≤ (x : Int) ∧ (x : Int) < ((w'.map rowW).length : Int)) = true by simp; omega]
      exact iteF (hA' _ ⟨_, rfl⟩)
    · rintro _ ⟨o4, rfl⟩
      exact hA _ ⟨_, _, _, rfl⟩
  · rintro _ ⟨o1, o2, o3, rfl⟩
    exact q
theorem ok_self_fault {P : Program} {w : World} {mg : Str → Option Value} {base : Heap} {Z : DC} (T : Txt Z mg) : FnOk P w Z.K mg base CX0 1 T.d_self_fault.f T.d_self_fault.fd ["rows"] (liftSp Z spNone) := by
  have nd := sc_self_fault.nd
  refine fn_data T.d_self_fault.F sc_self_fault [0, 0, 0] (by decide) (fun ds R h => by obtain ⟨_, rfl, _⟩ := h; rfl) (fun cdv A outer s H E ds R hr h => ?_)
  have hu := hr.units
  refine ⟨_, (dss_cons (ds_for rfl PassesOwn.never (di_enum rfl T.B.enumerate (da_cons (de_var 0) da_nil)) (dt_tup 2 rfl (dts_cons (dt_name 1 nd) (dts_cons (dt_name 2 nd) dts_nil'))) (dss_one (ds_if (dt_cmp od_in (de_var 1) (de_var 2) (by with_unfolding_all rfl)) (dss_one (ds_ret (de_tup (da_cons de_str (da_cons (de_var 1) (da_cons (de_var 1) da_nil)))))) dss_nil)))
      (dss_one (ds_ret de_non))), ?_⟩
  obtain ⟨w', rfl, g, h1, h14, q⟩ := h
  refine ⟨_, rfl, for_inv (fun _ ρ => ∃ o1 o2, ρ = [some (webW w'), o1, o2]) ⟨_, _, rfl⟩ ?_ ?_⟩
  · rintro j d _ hd ⟨o1, o2, rfl⟩ A hA
    obtain ⟨hj, rfl⟩ := web3 hd
    refine ⟨rfl, rfl, ?_⟩
    refine ⟨_, rfl, _, rfl, rfl, flat_nat _, _, rfl, ?_⟩
    have e : inD (.int (j : Int)) ((row w' j).map natD) = false := by
      have := inD_nat (r := row w' j) (p := j)
      rw [decide_eq_false (g.irr j)] at this
      exact this
    rw [if_neg Bool.false_ne_true, e]
    exact iteF (hA _ ⟨_, _, rfl⟩)
  · rintro _ ⟨o1, o2, rfl⟩
    exact q
theorem cutD_take {α : Type} (l : List α) (k : Nat) (h : k ≤ l.length) : cutD l none (some (k : Int)) = l.take k := by
  unfold cutD
  have e1 : HT.sIx l.length 0 none = 0 := rfl
  have e2 : HT.sIx l.length l.length (some (k : Int)) = k := by
    simp only [HT.sIx]
    split <;> omega
  rw [e1, e2]
  simp
theorem ok_twice_fault {P : Program} {w : World} {mg : Str → Option Value} {base : Heap} {Z : DC} (T : Txt Z mg) : FnOk P w Z.K mg base CX0 1 T.d_twice_fault.f T.d_twice_fault.fd ["rows"] (liftSp Z spNone) := by
  have nd := sc_twice_fault.nd
  refine fn_data T.d_twice_fault.F sc_twice_fault [0, 0, 0, 0, 0] (by decide) (fun ds R h => by obtain ⟨_, rfl, _⟩ := h; rfl) (fun cdv A outer s H E ds R hr h => ?_)
  have hu := hr.units
  refine ⟨_, (dss_cons (ds_for rfl PassesOwn.never (di_enum rfl T.B.enumerate (da_cons (de_var 0) da_nil)) (dt_tup 2 rfl (dts_cons (dt_name 1 nd) (dts_cons (dt_name 2 nd) dts_nil'))) (dss_one (ds_for rfl PassesOwn.never (di_enum rfl T.B.enumerate (da_cons (de_var 2) da_nil)) (dt_tup 2 rfl (dts_cons (dt_name 3 nd) (dts_cons (dt_name 4 nd) dts_nil'))) (dss_one (ds_if (dt_cmp od_in (de_var 4) (de_slice (de_var 2) do_none (do_some (de_var 3))) (by with_unfolding_all rfl)) (dss_one (ds_ret (de_tup (da_cons de_str (da_cons (de_var 1) (da_cons (de_var 4) da_nil)))))) dss_nil)))))
      (dss_one (ds_ret de_non))), ?_⟩
  obtain ⟨w', rfl, g, h1, h14, q⟩ := h
  refine ⟨_, rfl, for_inv (fun _ ρ => ∃ o1 o2 o3 o4, ρ = [some (webW w'), o1, o2, o3, o4]) ⟨_, _, _, _, rfl⟩ ?_ ?_⟩
  · rintro j d _ hd ⟨o1, o2, o3, o4, rfl⟩ A hA
    obtain ⟨hj, rfl⟩ := web3 hd
    refine ⟨rfl, rfl, ?_⟩
    refine ⟨_, rfl, for_inv (fun _ ρ => ∃ o3 o4, ρ = [some (webW w'), some (.int (j : Int)), some (rowW (row w' j)), o3, o4]) ⟨_, _, rfl⟩ ?_ ?_⟩
    · rintro k d' _ hk ⟨o5, o6, rfl⟩ A' hA'
      obtain ⟨y, hy, rfl⟩ := enumD_get hk
      obtain ⟨x, hx, rfl⟩ := map_get hy
      have hk' : k < (row w' j).length := (List.getElem?_eq_some_iff.mp hx).1
      refine ⟨rfl, rfl, ?_⟩
      refine ⟨_, rfl, _, rfl, _, rfl, ?_⟩
      have ec : cutD ((row w' j).map natD) none (some (k : Int)) = ((row w' j).take k).map natD := by rw [cutD_take _ _ (by simp; omega), List.map_take]
      refine (?_ : dIn false (natD x) (.lst (cutD ((row w' j).map natD) none (some (k : Int)))) _)
      rw [ec]
      refine ⟨rfl, flat_nat _, _, rfl, ?_⟩
      have e : inD (natD x) (((row w' j).take k).map natD) = false := by
        rw [inD_nat, decide_eq_false]
        intro z
        obtain ⟨m, hm⟩ := List.getElem?_of_mem z
        have hm' : m < k := by
          have := (List.getElem?_eq_some_iff.mp hm).1
          rw [List.length_take] at this; omega
        rw [List.getElem?_take_of_lt hm'] at hm
        exact absurd ((List.getElem?_inj (by omega) (g.nod j)).mp (hm.trans hx.symm)) (by omega)
      rw [if_neg Bool.false_ne_true, e]
      exact iteF (hA' _ ⟨_, _, rfl⟩)
    · rintro _ ⟨o5, o6, rfl⟩
      exact hA _ ⟨_, _, _, _, rfl⟩
  · rintro _ ⟨o1, o2, o3, o4, rfl⟩
    exact q
theorem ok_lone_fault {P : Program} {w : World} {mg : Str → Option Value} {base : Heap} {Z : DC} (T : Txt Z mg) : FnOk P w Z.K mg base CX0 1 T.d_lone_fault.f T.d_lone_fault.fd ["rows"] (liftSp Z spNone) := by
  have nd := sc_lone_fault.nd
  refine fn_data T.d_lone_fault.F sc_lone_fault [0, 0, 0, 0] (by decide) (fun ds R h => by obtain ⟨_, rfl, _⟩ := h; rfl) (fun cdv A outer s H E ds R hr h => ?_)
  have hu := hr.units
  refine ⟨_, (dss_cons (ds_for rfl PassesOwn.never (di_enum rfl T.B.enumerate (da_cons (de_var 0) da_nil)) (dt_tup 2 rfl (dts_cons (dt_name 1 nd) (dts_cons (dt_name 2 nd) dts_nil'))) (dss_one (ds_for rfl PassesOwn.never (di_list (de_var 2)) (dt_name 3 nd) (dss_one (ds_if (dt_cmp od_notin (de_var 1) (de_ix (de_var 0) (de_var 3)) (by with_unfolding_all rfl)) (dss_one (ds_ret (de_tup (da_cons de_str (da_cons (de_var 1) (da_cons (de_var 3) da_nil)))))) dss_nil)))))
      (dss_one (ds_ret de_non))), ?_⟩
  obtain ⟨w', rfl, g, h1, h14, q⟩ := h
  refine ⟨_, rfl, for_inv (fun _ ρ => ∃ o1 o2 o3, ρ = [some (webW w'), o1, o2, o3]) ⟨_, _, _, rfl⟩ ?_ ?_⟩
  · rintro j d _ hd ⟨o1, o2, o3, rfl⟩ A hA
    obtain ⟨hj, rfl⟩ := web3 hd
    refine ⟨rfl, rfl, ?_⟩
    refine ⟨_, rfl, for_inv (fun _ ρ => ∃ o3, ρ = [some (webW w'), some (.int (j : Int)), some (rowW (row w' j)), o3]) ⟨_, rfl⟩ ?_ ?_⟩
    · rintro k d' _ hk ⟨o4, rfl⟩ A' hA'
      obtain ⟨x, hx, rfl⟩ := map_get hk
      have hxj := List.mem_of_getElem? hx
      have hlt : x < w'.length := g.rng _ _ hxj
      refine ⟨_, rfl, _, rfl, _, rfl, _, atI_natD (web_row hlt), rfl, flat_nat _, _, rfl, ?_⟩
      have e : inD (.int (j : Int)) ((row w' x).map natD) = true := by
        have := inD_nat (r := row w' x) (p := j)
        rw [decide_eq_true (g.sym _ _ hxj)] at this
        exact this
      rw [if_pos rfl, e]
      exact iteF (hA' _ ⟨_, rfl⟩)
    · rintro _ ⟨o4, rfl⟩
      exact hA _ ⟨_, _, _, rfl⟩
  · rintro _ ⟨o1, o2, o3, rfl⟩
    exact q
def blD (bs : List Bool) : List D := bs.map D.bl
theorem blD_get {bs : List Bool} {i : Nat} {b : Bool} (h : bs[i]? = some b) : (blD bs)[i]? = some (.bl b) := by unfold blD; rw [List.getElem?_map, h]; rfl
theorem blD_set (bs : List Bool) (i : Nat) (b : Bool) : (blD bs).set i (.bl b) = blD (bs.set i b) := by unfold blD; rw [List.map_set]
theorem blD_len (bs : List Bool) : (blD bs).length = bs.length := List.length_map _
theorem ixN_natD {n k : Nat} (h : k < n) : ixN n (k : Int) = some k := by unfold ixN; rw [if_pos (by omega), if_pos (by omega)]; simp
def spReached : DSp := fun ds P => ∃ (w : W), ds = [webW w] ∧ Good w ∧ 1 ≤ w.length ∧ w.length ≤ 14 ∧ P (.lst (blD (List.replicate w.length true)))
theorem ok_reached_from_first {P : Program} {w : World} {mg : Str → Option Value} {base : Heap} {Z : DC} (T : Txt Z mg) : FnOk P w Z.K mg base CX0 1 T.d_reached_from_first.f T.d_reached_from_first.fd ["rows"] (liftSp Z spReached) := by
  have nd := sc_reached_from_first.nd
  refine fn_data T.d_reached_from_first.F sc_reached_from_first [0, 1, 1, 0, 0] (by decide) (fun ds R h => by obtain ⟨_, rfl, _⟩ := h; rfl) (fun cdv A outer s H E ds R hr h => ?_)
  have hu := hr.units
  refine ⟨_, (dss_cons (ds_newlc 1 (NC := ["row"]) (src := [none]) rfl nd (CompOk.of (defScope s_reached_from_first) rfl rfl (by decide +kernel) (by decide +kernel) (by decide +kernel)) trivial (di_list (de_var 0)) (fun _ _ _ => (dg_name 0 (show (["row"] : List Str).Nodup from by decide +kernel))) (fun _ _ _ => dts_nil) (fun _ _ _ => de_bl))
      (dss_cons (ds_setix false 1 de_int de_bl)
      (dss_cons (ds_new 2 nd (df_lst (da_cons de_int da_nil)))
      (dss_cons (ds_while PassesOwn.never (dt_tru (de_var 2)) (dss_cons (ds_pop 3 2 nd)
      (dss_one (ds_for rfl PassesOwn.never (di_list (de_ix (de_var 0) (de_var 3))) (dt_name 4 nd) (dss_one (ds_if (dt_not (dt_tru (de_ix (de_var 1) (de_var 4)))) (dss_cons (ds_setix false 1 (de_var 4) de_bl)
      (dss_one (ds_app false 2 (de_var 4)))) dss_nil))))))
      (dss_one (ds_ret (de_var 1))))))), ?_⟩
  obtain ⟨w', rfl, g, h1, h14, q⟩ := h
  refine ⟨_, rfl, lc_all (ρ := [none]) rowW (fun _ => .bl false) w' _ (fun y hy Y h => h) rfl (small (by omega)) fun ρ' => ?_⟩
  have e0 : w'.map (fun _ => D.bl false) = blD (List.replicate w'.length false) := by unfold blD; rw [List.map_replicate, List.map_const']
  rw [e0]
  refine ⟨trivial, _, rfl, 0, 0, rfl, by rw [blD_len, List.length_replicate]; exact ixN_natD (k := 0) (by omega), ?_⟩
  rw [blD_set]
  refine ⟨by show 1 ≤ sizeLine; decide, ?_⟩
  refine while_inv (fun m ρ => ∃ (bs : List Bool) (ws : List Nat) (o3 o4 : Option D), ρ = [some (webW w'), some (.lst (blD bs)), some (.lst (ws.map natD)), o3, o4] ∧ RI w' bs ws [] m ∧ m ≤ 14 ∧ bs.count false + ws.length = m) w'.length ?_ ?_
  · refine ⟨_, [0], none, none, rfl, ⟨by simp, ?_, ?_, fun x hx => ?_, ?_⟩, h14, ?_⟩
    · rw [List.getElem?_set, if_pos rfl, if_pos (by rw [List.length_replicate]; omega)]
    · intro x hx
      have : x = 0 := by simpa using hx
      rw [this, List.getElem?_set, if_pos rfl, if_pos (by rw [List.length_replicate]; omega)]
    · by_cases e : 0 = x
      · exact .inl (by rw [← e]; simp)
      · rw [List.getElem?_set, if_neg e, List.getElem?_replicate] at hx
        split at hx <;> cases hx
    · rw [List.count_set (by rw [List.length_replicate]; omega), List.count_replicate_self, List.getElem_replicate]
      simp
      omega
    · rw [List.count_set (by rw [List.length_replicate]; omega), List.count_replicate_self, List.getElem_replicate]
      simp
      omega
  · rintro m _ ⟨bs, ws, o3, o4, rfl, ri, hc, hcn⟩
    refine ⟨_, rfl, rfl, ?_⟩
    rcases List.eq_nil_or_concat ws with rfl | ⟨ws', p, e⟩
    · refine iteF ?_
      have e := ri.all g
      rw [← e] at q
      exact ⟨_, rfl, q⟩
    · rw [List.concat_eq_append] at e
      subst e
      rw [show truD (.lst ((ws' ++ [p]).map natD)) = true by simp [truD]]
      refine iteT ?_
      rw [List.length_append] at hcn
      simp only [List.length_singleton] at hcn
      obtain ⟨c', rfl⟩ : ∃ c', m = c' + 1 := ⟨m - 1, by omega⟩
      have ri2 := ri.pop
      have hp : bs[p]? = some true := ri.wt p (by simp)
      have hpw : p < w'.length := by rw [← ri.len]; exact (List.getElem?_eq_some_iff.mp hp).1
      refine ⟨ws'.map natD, natD p, by rw [List.map_append]; rfl, ?_⟩
      refine ⟨_, rfl, _, rfl, _, atI_natD (web_row hpw), for_inv (fun j ρ => ∃ (bs1 : List Bool) (ws1 : List Nat) (o4 : Option D), ρ = [some (webW w'), some (.lst (blD bs1)), some (.lst (ws1.map natD)), some (natD p), o4] ∧ RI w' bs1 ws1 [p] c' ∧ (∀ k y, k < j → (row w' p)[k]? = some y → bs1[y]? = some true) ∧ bs1.count false + ws1.length = c') ?_ ?_ ?_⟩
      · exact ⟨bs, ws', _, rfl, ri2, (fun k n hk => by omega), by omega⟩
      · rintro j x _ hx ⟨bs1, ws1, o5, rfl, ri6, don6, cn6⟩ A hA
        obtain ⟨n, hn, rfl⟩ := map_get hx
        have hnw := g.rng _ _ (List.mem_of_getElem? hn)
        have hnb : n < bs1.length := by rw [ri6.len]; exact hnw
        have hbn : bs1[n]? = some (bs1[n]) := List.getElem?_eq_getElem hnb
        refine ⟨_, rfl, _, rfl, _, atI_natD (blD_get hbn), rfl, ?_⟩
        generalize bs1[n] = bn at hbn
        cases bn with
        | true =>
          refine iteF (hA _ ⟨bs1, ws1, _, rfl, ri6, fun k y hk hy => ?_, cn6⟩)
          by_cases e : k = j
          · rw [e, hn] at hy; cases hy; exact hbn
          · exact don6 k y (by omega) hy
        | false =>
          refine iteT ?_
          refine ⟨trivial, _, rfl, _, rfl, _, n, rfl, by rw [blD_len]; exact ixN_natD hnb, ?_⟩
          rw [blD_set]
          have ri7 := ri6.push hbn
          have cnt7 := ri7.cnt
          refine ⟨_, rfl, _, rfl, trivial, small1000 (by rw [List.length_map]; omega), ?_⟩
          have er : ws1.map natD ++ [natD n] = (ws1 ++ [n]).map natD := by rw [List.map_append]; rfl
          rw [er]
          refine hA _ ⟨bs1.set n true, ws1 ++ [n], _, rfl, ri7, fun k y hk hy => ?_, ?_⟩
          · rw [List.getElem?_set]
            by_cases e : n = y
            · rw [if_pos e, if_pos hnb]
            · rw [if_neg e]
              refine don6 k y ?_ hy
              apply Classical.byContradiction
              intro z
              have : k = j := by omega
              rw [this, hn] at hy; cases hy; exact e rfl
          · obtain ⟨hl, he⟩ := List.getElem?_eq_some_iff.mp hbn
            have : 0 < bs1.count false := List.count_pos_iff.mpr (by rw [← he]; exact List.getElem_mem hl)
            rw [List.count_set hl, he, List.length_append]
            simp
            omega
      · rintro _ ⟨bs1, ws1, o5, rfl, ri6, don6, cn6⟩
        have ri7 := ri6.close fun y hy => by
          obtain ⟨k, hk⟩ := List.getElem?_of_mem hy
          exact don6 k y (by rw [List.length_map]; exact (List.getElem?_eq_some_iff.mp hk).1) hk
        exact ⟨c', by omega, bs1, ws1, _, _, rfl, ri7, by omega, cn6⟩
theorem ok_apart_fault {P : Program} {w : World} {mg : Str → Option Value} {base : Heap} {Z : DC} (T : Txt Z mg) : FnOk P w Z.K mg base CX0 2 T.d_apart_fault.f T.d_apart_fault.fd ["rows"] (liftSp Z spNone) := by
  have g_reached_from_first := ok_reached_from_first (P := P) (w := w) (base := base) T
  have nd := sc_apart_fault.nd
  refine fn_data T.d_apart_fault.F sc_apart_fault [0, 0, 0] (by decide) (fun ds R h => by obtain ⟨_, rfl, _⟩ := h; rfl) (fun cdv A outer s H E ds R hr h => ?_)
  have hu := hr.units
  refine ⟨_, (dss_cons (ds_for rfl PassesOwn.never (di_enum rfl T.B.enumerate (da_cons (de_call g_reached_from_first (hr.mono (by decide)) rfl T.d_reached_from_first.m T.d_reached_from_first.F.kp T.d_reached_from_first.b (da_cons (de_var 0) da_nil)) da_nil)) (dt_tup 2 rfl (dts_cons (dt_name 1 nd) (dts_cons (dt_name 2 nd) dts_nil'))) (dss_one (ds_if (dt_not (dt_tru (de_var 2))) (dss_one (ds_ret (de_tup (da_cons de_str (da_cons de_int (da_cons (de_var 1) da_nil)))))) dss_nil)))
      (dss_one (ds_ret de_non))), ?_⟩
  obtain ⟨w', rfl, g, h1, h14, q⟩ := h
  refine ⟨_, rfl, w', rfl, g, h1, h14, for_inv (fun _ ρ => ∃ o1 o2, ρ = [some (webW w'), o1, o2]) ⟨_, _, rfl⟩ ?_ ?_⟩
  · rintro j d _ hd ⟨o1, o2, rfl⟩ A hA
    obtain ⟨y, hy, rfl⟩ := enumD_get hd
    have ey : y = .bl true := by
      obtain ⟨b, hb, rfl⟩ := map_get hy
      have := List.mem_of_getElem? hb
      rw [List.mem_replicate] at this
      rw [this.2]
    subst ey
    refine ⟨rfl, rfl, ?_⟩
    exact ⟨_, rfl, rfl, iteF (hA _ ⟨_, _, rfl⟩)⟩
  · rintro _ ⟨o1, o2, rfl⟩
    exact q
theorem ok_first_fault {P : Program} {w : World} {mg : Str → Option Value} {base : Heap} {Z : DC} (T : Txt Z mg) : FnOk P w Z.K mg base CX0 3 T.d_first_fault.f T.d_first_fault.fd ["rows"] (liftSp Z spNone) := by
  have g_alien_fault := ok_alien_fault (P := P) (w := w) (base := base) T
  have g_apart_fault := ok_apart_fault (P := P) (w := w) (base := base) T
  have g_lone_fault := ok_lone_fault (P := P) (w := w) (base := base) T
  have g_self_fault := ok_self_fault (P := P) (w := w) (base := base) T
  have g_twice_fault := ok_twice_fault (P := P) (w := w) (base := base) T
  have nd := sc_first_fault.nd
  refine fn_data T.d_first_fault.F sc_first_fault [0, 0] (by decide) (fun ds R h => by obtain ⟨_, rfl, _⟩ := h; rfl) (fun cdv A outer s H E ds R hr h => ?_)
  have hu := hr.units
  refine ⟨_, (dss_cons (ds_set false 1 nd (de_call g_alien_fault (hr.mono (by decide)) rfl T.d_alien_fault.m T.d_alien_fault.F.kp T.d_alien_fault.b (da_cons (de_var 0) da_nil)))
      (dss_cons (ds_if (dt_cmp od_is (de_var 1) de_non (nomark _)) (dss_one (ds_set false 1 nd (de_call g_self_fault (hr.mono (by decide)) rfl T.d_self_fault.m T.d_self_fault.F.kp T.d_self_fault.b (da_cons (de_var 0) da_nil)))) dss_nil)
      (dss_cons (ds_if (dt_cmp od_is (de_var 1) de_non (nomark _)) (dss_one (ds_set false 1 nd (de_call g_twice_fault (hr.mono (by decide)) rfl T.d_twice_fault.m T.d_twice_fault.F.kp T.d_twice_fault.b (da_cons (de_var 0) da_nil)))) dss_nil)
      (dss_cons (ds_if (dt_cmp od_is (de_var 1) de_non (nomark _)) (dss_one (ds_set false 1 nd (de_call g_lone_fault (hr.mono (by decide)) rfl T.d_lone_fault.m T.d_lone_fault.F.kp T.d_lone_fault.b (da_cons (de_var 0) da_nil)))) dss_nil)
      (dss_cons (ds_if (dt_cmp od_is (de_var 1) de_non (nomark _)) (dss_one (ds_set false 1 nd (de_call g_apart_fault (hr.mono (by decide)) rfl T.d_apart_fault.m T.d_apart_fault.F.kp T.d_apart_fault.b (da_cons (de_var 0) da_nil)))) dss_nil)
      (dss_one (ds_ret (de_var 1)))))))), ?_⟩
  obtain ⟨w', rfl, g, h1, h14, q⟩ := h
  have no : ∀ (u : DTS) (E : DEnds) (ρ : DN) (te : DTE), ρ[1]? = some (some .non) → E.nx ρ → dIfS (dTest (dOp (dIsN false) (dVar 1) (dC .non))) u dNext E ρ → True := fun _ _ _ _ _ _ _ => trivial
  refine ⟨_, rfl, w', rfl, g, h1, h14, trivial, ?_⟩
  refine ⟨_, rfl, _, rfl, iteT ⟨_, rfl, w', rfl, g, h1, h14, trivial, ?_⟩⟩
  refine ⟨_, rfl, _, rfl, iteT ⟨_, rfl, w', rfl, g, h1, h14, trivial, ?_⟩⟩
  refine ⟨_, rfl, _, rfl, iteT ⟨_, rfl, w', rfl, g, h1, h14, trivial, ?_⟩⟩
  refine ⟨_, rfl, _, rfl, iteT ⟨_, rfl, w', rfl, g, h1, h14, trivial, ?_⟩⟩
  exact ⟨_, rfl, q⟩
theorem ok_Web___init__ {P : Program} {w : World} {mg : Str → Option Value} {base : Heap} {Z : DC} (T : Txt Z mg) : FnOk P w Z.K mg base CX0 4 T.i_f T.i_fd ["self", "turns"] (spInitD Z) := by
  have g_first_fault := ok_first_fault (P := P) (w := w) (base := base) T
  have nd := sc_Web___init__.nd
  refine T.i_F.ok sc_Web___init__ (fun vs H Q E h => ?_) (fun cdv A outer s H vs Q E hr h => ?_)
  · obtain ⟨p, dx, v, G, w', rfl, _⟩ := h; rfl
  obtain ⟨p, dx, v, G, w', rfl, hp, sG, gp, dv, g, h1, h14, q⟩ := h
  have hu := hr.units
  refine ⟨_, pss_cons (t := liftS Z [0, 0, 0, 0] 0 _)
      (ds_if (dt_not (dt_chain od_le od_le de_int (de_callB cd_len rfl T.B.len bd_len (da_cons (de_var 1) da_nil)) (de_globI rfl T.c_MOST_POINTS))) (dss_one ds_never) dss_nil)
    (pss_cons (t := liftS Z [0, 0, 0, 0] 0 _)
      (ds_setlc 2 (NC := ["row"]) (src := [none]) rfl nd (CompOk.of (defScope s_Web___init__) rfl rfl (by decide +kernel) (by decide +kernel) (by decide +kernel)) trivial (di_list (de_var 1)) (fun _ _ _ => (dg_name 0 (show (["row"] : List Str).Nodup from by decide +kernel))) (fun _ _ _ => dts_nil) (fun _ _ _ => (de_callTy cd_list rfl T.B.list bd_list (da_cons (de_var 0) da_nil))))
    (pss_cons (t := liftS Z [0, 0, 0, 0] 0 _)
      (ds_set false 3 nd (de_call g_first_fault (hr.mono (by decide)) rfl T.d_first_fault.m T.d_first_fault.F.kp T.d_first_fault.b (da_cons (de_var 2) da_nil)))
    (pss_cons (t := liftS Z [0, 0, 0, 0] 0 _)
      (ds_if (dt_cmp od_isnot (de_var 3) de_non (nomark _)) (dss_one ds_never) dss_nil)
    (pss_one (ps_fld (pv 0) (pv 2) rfl))))), ?_⟩
  have lw : (w'.map rowW).length = w'.length := List.length_map _
  refine ⟨⟨G, H, G⟩, [some (.obj p), some (webW w'), none, none], { nx := fun ρ => ρ = [some (.obj p), some (webW w'), none, none], rt := fun _ => False }, ⟨G, fun _ => [], ?_⟩, ?_, ⟨?_, fun _ z => z.elim, fun _ z => z.elim, fun _ z => z.elim⟩⟩
  · refine ⟨.refl sG, .refl _, rfl, fun i d hi => ?_, fun _ => List.nodup_nil, (fun _ _ _ _ z => by cases z), (fun _ _ z => by cases z)⟩
    match i, hi with
    | 0, hi => cases hi; exact ⟨_, rfl, .obj p, rfl⟩
    | 1, hi => cases hi; exact ⟨_, rfl, dv, rfl⟩
    | 2, hi => cases hi
    | 3, hi => cases hi
    | i + 4, hi => cases hi
  · have e1 : D.bl (decide ((1 : Int) ≤ ((w'.map rowW).length : Int))) = .bl true := congrArg D.bl (decide_eq_true (by rw [lw]; omega))
    have e2 : D.bl (decide (((w'.map rowW).length : Int) ≤ 14)) = .bl true := congrArg D.bl (decide_eq_true (by rw [lw]; omega))
    exact ⟨_, rfl, true, e1, iteT ⟨true, e2, iteF rfl⟩⟩
  rintro _ rfl σ1 H1 S1
  refine ⟨⟨G, H, G⟩, _, { nx := fun ρ => ρ = [some (.obj p), some (webW w'), some (webW w'), none], rt := fun _ => False }, S1, ?_, ⟨?_, fun _ z => z.elim, fun _ z => z.elim, fun _ z => z.elim⟩⟩
  · exact ⟨_, rfl, lc_all (ρ := [none]) rowW rowW w' _ (fun y hy Y h => ⟨_, rfl, h⟩) rfl (small (by omega)) fun ρ' => ⟨trivial, rfl⟩⟩
  rintro _ rfl σ2 H2 S2
  refine ⟨⟨G, H, G⟩, _, { nx := fun ρ => ρ = [some (.obj p), some (webW w'), some (webW w'), some .non], rt := fun _ => False }, S2, ?_, ⟨?_, fun _ z => z.elim, fun _ z => z.elim, fun _ z => z.elim⟩⟩
  · exact ⟨_, rfl, w', rfl, g, h1, h14, trivial, rfl⟩
  rintro _ rfl σ3 H3 S3
  refine ⟨⟨G, H, G⟩, _, { nx := fun ρ => ρ = [some (.obj p), some (webW w'), some (webW w'), some .non], rt := fun _ => False }, S3, ?_, ⟨?_, fun _ z => z.elim, fun _ z => z.elim, fun _ z => z.elim⟩⟩
  · exact ⟨_, rfl, _, rfl, iteF rfl⟩
  rintro _ rfl σ4 H4 ⟨G4, fp, S4⟩
  obtain ⟨v0, hv0, o0⟩ := S4.at_ 0 _ rfl
  obtain ⟨v2, hv2, o2⟩ := S4.at_ 2 _ rfl
  obtain ⟨d0, _⟩ := o0
  obtain ⟨d2, _⟩ := o2
  cases d0
  have d2' := d2
  cases d2 with
  | @lst R xs ds hR e =>
    have hp4 := S4.ex.hh _ _ hp
    refine ⟨_, hv2, _, hv0, p, Z.C, dx, [], rfl, hp4, T.W.cl, T.W.nR, by decide, ?_⟩
    have g4 : G4 p = none := S4.ex.off p (by show H p ≠ none; rw [hp]; exact fun z => nomatch z) gp
    refine q R G4 _ S4.ex.gg (fun b o eb => ?_) (fun b o eb nb => ?_) S4.ex.off upd_same d2'
    · rw [upd_ne (ne_of_none eb g4)]; exact S4.ex.sub _ _ eb
    · rw [upd_ne nb]; exact S4.ex.hh _ _ eb
def spMany : DSp := fun ds P => ∃ (w : W), ds = [.web w] ∧ P (.int (w.length : Int))
theorem ok_Web_many {P : Program} {w : World} {mg : Str → Option Value} {base : Heap} {Z : DC} (T : Txt Z mg) : FnOk P w Z.K mg base CX0 1 T.m_many.f T.m_many.fd ["self"] (liftSp Z spMany) := by
  have nd := sc_Web_many.nd
  refine fn_data T.m_many.F sc_Web_many [0] (by decide) (fun ds R h => by obtain ⟨_, rfl, _⟩ := h; rfl) (fun cdv A outer s H E ds R hr h => ?_)
  have hu := hr.units
  refine ⟨_, (dss_one (ds_ret (de_callB cd_len rfl T.B.len bd_len (da_cons (de_rows T.W (de_var 0)) da_nil)))), ?_⟩
  obtain ⟨w', rfl, q⟩ := h
  refine ⟨_, rfl, w', rfl, ?_⟩
  refine (?_ : R (.int ((w'.map rowW).length : Int)))
  rw [List.length_map]
  exact q
def spTurns : DSp := fun ds P => ∃ (w : W), ds = [.web w] ∧ w.length ≤ 14 ∧ P (webW w)
theorem ok_Web_turns {P : Program} {w : World} {mg : Str → Option Value} {base : Heap} {Z : DC} (T : Txt Z mg) : FnOk P w Z.K mg base CX0 1 T.m_turns.f T.m_turns.fd ["self"] (liftSp Z spTurns) := by
  have nd := sc_Web_turns.nd
  refine fn_data T.m_turns.F sc_Web_turns [0] (by decide) (fun ds R h => by obtain ⟨_, rfl, _⟩ := h; rfl) (fun cdv A outer s H E ds R hr h => ?_)
  have hu := hr.units
  refine ⟨_, (dss_one (ds_ret (de_lc (NC := ["row"]) (src := [none]) rfl (CompOk.of (defScope s_Web_turns) rfl rfl (by decide +kernel) (by decide +kernel) (by decide +kernel)) trivial (di_list (de_rows T.W (de_var 0))) (fun _ _ _ => (dg_name 0 (show (["row"] : List Str).Nodup from by decide +kernel))) (fun _ _ _ => dts_nil) (fun _ _ _ => (de_callTy cd_list rfl T.B.list bd_list (da_cons (de_var 0) da_nil)))))), ?_⟩
  obtain ⟨w', rfl, h14, q⟩ := h
  exact ⟨_, rfl, w', rfl, lc_all (ρ := [none]) rowW rowW w' _ (fun y hy Y h => ⟨_, rfl, h⟩) rfl (small (by omega)) fun ρ' => q⟩
end K82

set_option linter.all false
/-! how many dyeings there are, by parts -/
namespace Wy
def S {α : Type} (f : α → Int) : List α → Int
  | [] => 0
  | x :: l => f x + S f l
section
variable {α β : Type}
theorem S_app (f : α → Int) : ∀ l m : List α, S f (l ++ m) = S f l + S f m
  | [], m => by simp [S]
  | x :: l, m => by simp [S, S_app f l m]; omega
theorem S_flat (f : β → Int) (g : α → List β) : ∀ l : List α, S f (l.flatMap g) = S (fun x => S f (g x)) l
  | [] => by simp [S]
  | x :: l => by rw [List.flatMap_cons, S_app, S_flat f g l]; rfl
theorem S_map (f : β → Int) (g : α → β) : ∀ l : List α, S f (l.map g) = S (fun x => f (g x)) l
  | [] => rfl
  | x :: l => by simp [S, S_map f g l]
theorem S_congr {f g : α → Int} : ∀ {l : List α}, (∀ x ∈ l, f x = g x) → S f l = S g l
  | [], _ => rfl
  | x :: l, h => by
    rw [S, S, h x (List.mem_cons_self ..), S_congr fun y hy => h y (List.mem_cons_of_mem _ hy)]
theorem S_const (c : Int) : ∀ l : List α, S (fun _ => c) l = l.length * c
  | [] => by simp [S]
  | x :: l => by
    rw [S, S_const c l, List.length_cons, Int.natCast_add, Int.add_mul]; simp; omega
theorem S_mul (c : Int) (f : α → Int) : ∀ l : List α, S (fun x => c * f x) l = c * S f l
  | [] => by simp [S]
  | x :: l => by rw [S, S, S_mul c f l, Int.mul_add]
theorem S_one : ∀ l : List α, S (fun _ => 1) l = (l.length : Int)
  | [] => rfl
  | x :: l => by rw [S, S_one l, List.length_cons]; omega
theorem S_filter (f : α → Int) (p : α → Bool) : ∀ l : List α, S f (l.filter p) = S (fun x => if p x = true then f x else 0) l
  | [] => rfl
  | x :: l => by
    rw [List.filter_cons]
    by_cases h : p x = true
    · rw [if_pos h, S, S, if_pos h, S_filter f p l]
    · rw [if_neg h, S, if_neg h, S_filter f p l]; omega
end
/-! polynomials -/
def ev (l : List Int) (k : Int) : Int := l.foldr (fun a t => t * k + a) 0
theorem ev_cons (a : Int) (l : List Int) (k : Int) : ev (a :: l) k = ev l k * k + a := rfl
theorem ev_snoc0 : ∀ (l : List Int) (k : Int), ev (l ++ [0]) k = ev l k
  | [], k => by simp [ev]
  | a :: l, k => by rw [List.cons_append, ev_cons, ev_cons, ev_snoc0 l k]
theorem ev_zip (m : Int) : ∀ (u v : List Int) (k : Int), u.length = v.length → ev (List.zipWith (fun a b => a - m * b) u v) k = ev u k - m * ev v k
  | [], [], k, _ => by simp [ev]
  | a :: u, b :: v, k, h => by
    rw [List.zipWith_cons_cons, ev_cons, ev_cons, ev_cons, ev_zip m u v k (by simpa using h)]
    rw [Int.sub_mul, Int.mul_add, Int.mul_assoc]
    omega
  | [], _ :: _, _, h => by simp at h
  | _ :: _, [], _, h => by simp at h
def nextF (m : Int) (l : List Int) : List Int := List.zipWith (fun a b => a - m * b) (0 :: l) (l ++ [0])
def fallP : Nat → List Int
  | 0 => [1]
  | m + 1 => nextF m (fallP m)
def fv : Nat → Int → Int
  | 0, _ => 1
  | m + 1, k => fv m k * (k - m)
theorem nextF_len (m : Int) (l : List Int) : (nextF m l).length = l.length + 1 := by unfold nextF; simp
theorem fallP_len : ∀ m, (fallP m).length = m + 1
  | 0 => rfl
  | m + 1 => by rw [fallP, nextF_len, fallP_len m]
theorem ev_fall : ∀ (m : Nat) (k : Int), ev (fallP m) k = fv m k
  | 0, k => by simp [fallP, ev, fv]
  | m + 1, k => by
    rw [fallP, nextF, ev_zip _ _ _ _ (by simp), ev_cons, ev_snoc0, ev_fall m k, fv, Int.mul_sub, Int.mul_comm (m : Int)]
    omega
/-- the sum of polynomials, place by place, into one of n + 1 places -/
def addTo : List Int → List Int → List Int
  | [], _ => []
  | t, [] => t
  | a :: t, b :: l => (a + b) :: addTo t l
theorem addTo_len : ∀ t l : List Int, (addTo t l).length = t.length
  | [], _ => by simp [addTo]
  | _ :: _, [] => rfl
  | a :: t, b :: l => by simp [addTo, addTo_len t l]
theorem ev_add : ∀ (t l : List Int) (k : Int), l.length ≤ t.length → ev (addTo t l) k = ev t k + ev l k
  | [], [], k, _ => by simp [addTo, ev]
  | [], _ :: _, _, h => by simp at h
  | a :: t, [], k, _ => by simp [addTo, ev]
  | a :: t, b :: l, k, h => by
    rw [addTo, ev_cons, ev_cons, ev_cons, ev_add t l k (by simpa using h), Int.add_mul]
    omega
theorem ev_map (c : Int) : ∀ (l : List Int) (k : Int), ev (l.map (c * ·)) k = c * ev l k
  | [], k => by simp [ev]
  | a :: l, k => by rw [List.map_cons, ev_cons, ev_cons, ev_map c l k, Int.mul_add, Int.mul_assoc]
theorem ev_zero : ∀ (n : Nat) (k : Int), ev (List.replicate n 0) k = 0
  | 0, k => rfl
  | n + 1, k => by rw [List.replicate_succ, ev_cons, ev_zero n k]; simp
/-- told: the sum over the counts, from the m-th on -/
def toldF : List Int → List Int → Nat → List Int
  | t, [], _ => t
  | t, c :: cs, m => toldF (addTo t ((fallP m).map (c * ·))) cs (m + 1)
theorem toldF_len : ∀ (cs t : List Int) (m : Nat), (toldF t cs m).length = t.length
  | [], t, m => rfl
  | c :: cs, t, m => by rw [toldF, toldF_len cs, addTo_len]
def evC : List Int → Nat → Int → Int
  | [], _, _ => 0
  | c :: cs, m, k => c * fv m k + evC cs (m + 1) k
theorem ev_told : ∀ (cs t : List Int) (m : Nat) (k : Int), m + cs.length ≤ t.length → ev (toldF t cs m) k = ev t k + evC cs m k
  | [], t, m, k, _ => by simp [toldF, evC]
  | c :: cs, t, m, k, h => by
    rw [List.length_cons] at h
    rw [toldF, ev_told cs _ (m + 1) k (by rw [addTo_len]; omega), ev_add _ _ _ (by rw [List.length_map, fallP_len]; omega), ev_map, ev_fall, evC]
    omega
/-! parts -/
abbrev Parts := List (List Nat)
def frOf (row part : List Nat) : Bool := part.all fun q => !decide (q ∈ row)
def partsWith (parts : Parts) (p : Nat) (row : List Nat) : List Parts :=
  (parts ++ [[p]]) :: ((List.range parts.length).filter fun i => frOf row (parts.getD i [])).map fun i => parts.set i (parts.getD i [] ++ [p])
def runP (w : Nat → List Nat) : Nat → Nat → List Parts → List Parts
  | 0, _, L => L
  | m + 1, p, L => runP w m (p + 1) (L.flatMap fun parts => partsWith parts p (w p))
theorem runP_app (w : Nat → List Nat) : ∀ (m p : Nat) (L M : List Parts), runP w m p (L ++ M) = runP w m p L ++ runP w m p M
  | 0, _, _, _ => rfl
  | m + 1, p, L, M => by rw [runP, runP, runP, List.flatMap_append, runP_app w m]
theorem runP_nil (w : Nat → List Nat) : ∀ (m p : Nat), runP w m p [] = []
  | 0, _ => rfl
  | m + 1, p => by rw [runP, List.flatMap_nil, runP_nil w m]
theorem S_run (w : Nat → List Nat) (f : Parts → Int) (m p : Nat) : ∀ L : List Parts, S f (runP w m p L) = S (fun x => S f (runP w m p [x])) L
  | [] => by rw [runP_nil]; rfl
  | x :: L => by
    have : x :: L = [x] ++ L := rfl
    rw [this, runP_app, S_app, S_run w f m p L]; rfl
/-! dyeings -/
def taken (r : List Nat) (row : List Nat) : List Nat := (row.filter fun q => decide (q < r.length)).map fun q => r.getD q 0
def dyes (k : Nat) (r : List Nat) (row : List Nat) : List Nat := (List.range k).filter fun d => !decide (d ∈ taken r row)
def runD (w : Nat → List Nat) (k : Nat) : Nat → List (List Nat) → List (List Nat)
  | 0, L => L
  | m + 1, L => runD w k m (L.flatMap fun r => (dyes k r (w r.length)).map fun d => r ++ [d])
theorem runD_app (w : Nat → List Nat) (k : Nat) : ∀ (m : Nat) (L M : List (List Nat)), runD w k m (L ++ M) = runD w k m L ++ runD w k m M
  | 0, _, _ => rfl
  | m + 1, L, M => by rw [runD, runD, runD, List.flatMap_append, runD_app w k m]
theorem runD_nil (w : Nat → List Nat) (k : Nat) : ∀ (m : Nat), runD w k m [] = []
  | 0 => rfl
  | m + 1 => by rw [runD, List.flatMap_nil, runD_nil w k m]
theorem len_run (w : Nat → List Nat) (k : Nat) (m : Nat) : ∀ L : List (List Nat), ((runD w k m L).length : Int) = S (fun x => ((runD w k m [x]).length : Int)) L
  | [] => by rw [runD_nil]; rfl
  | x :: L => by
    have : x :: L = [x] ++ L := rfl
    rw [this, runD_app, List.length_append, Int.natCast_add, len_run w k m L]; rfl
/-- r dyes the points below p by the dyes c, one for each part -/
structure Ker (k : Nat) (r : List Nat) (parts : Parts) (c : List Nat) : Prop where
  len : c.length = parts.length
  nd : c.Nodup
  lt : ∀ d ∈ c, d < k
  col : ∀ (i q : Nat), q ∈ parts.getD i [] → q < r.length ∧ r.getD q 0 = c.getD i 0
  cov : ∀ q, q < r.length → ∃ i, i < parts.length ∧ q ∈ parts.getD i []
theorem getD_app {α : Type} (l : List α) (x d : α) (i : Nat) : (l ++ [x]).getD i d = if i < l.length then l.getD i d else if i = l.length then x else d := by
  simp only [List.getD_eq_getElem?_getD]
  by_cases h : i < l.length
  · rw [if_pos h, List.getElem?_append_left h]
  · rw [if_neg h]
    by_cases e : i = l.length
    · rw [if_pos e, e, List.getElem?_append_right (Nat.le_refl _)]; simp
    · rw [if_neg e, List.getElem?_eq_none (by simp; omega)]; rfl
theorem getD_set {α : Type} (l : List α) (x d : α) (i j : Nat) : (l.set i x).getD j d = if i = j ∧ i < l.length then x else l.getD j d := by
  simp only [List.getD_eq_getElem?_getD, List.getElem?_set]
  by_cases e : i = j
  · subst e
    by_cases h : i < l.length
    · rw [if_pos rfl, if_pos h, if_pos ⟨rfl, h⟩]; rfl
    · rw [if_pos rfl, if_neg h, if_neg (fun z => h z.2), List.getElem?_eq_none (by omega)]
  · rw [if_neg e, if_neg (fun z => e z.1)]
theorem getD_mem {l : List Nat} {i : Nat} (h : i < l.length) : l.getD i 0 ∈ l := by
  rw [List.getD_eq_getElem?_getD, List.getElem?_eq_getElem h]; exact List.getElem_mem h
theorem Ker.new {k d : Nat} {r : List Nat} {parts : Parts} {c : List Nat} (K : Ker k r parts c) (hd : d < k) (hc : d ∉ c) : Ker k (r ++ [d]) (parts ++ [[r.length]]) (c ++ [d]) where
  len := by simp [K.len]
  nd := by
    refine List.nodup_append.mpr ⟨K.nd, by simp, fun a ha b hb => ?_⟩
    have : b = d := by simpa using hb
    rw [this]
    exact fun z => hc (by rw [← z]; exact ha)
  lt := fun x hx => by
    rcases List.mem_append.mp hx with h | h
    · exact K.lt x h
    · have : x = d := by simpa using h
      rw [this]; exact hd
  col := fun i q hq => by
    rw [getD_app] at hq
    rw [getD_app, getD_app, K.len]
    by_cases h : i < parts.length
    · rw [if_pos h] at hq ⊢
      obtain ⟨h1, h2⟩ := K.col i q hq
      rw [if_pos h1]
      exact ⟨by simp; omega, h2⟩
    · rw [if_neg h] at hq ⊢
      by_cases e : i = parts.length
      · rw [if_pos e] at hq ⊢
        have : q = r.length := by simpa using hq
        subst this
        rw [if_neg (Nat.lt_irrefl _), if_pos rfl]
        exact ⟨by simp, rfl⟩
      · rw [if_neg e] at hq; cases hq
  cov := fun q hq => by
    by_cases h : q < r.length
    · obtain ⟨i, hi, hm⟩ := K.cov q h
      exact ⟨i, by simp; omega, by rw [getD_app, if_pos hi]; exact hm⟩
    · have : q = r.length := by simp at hq; omega
      exact ⟨parts.length, by simp, by rw [getD_app, if_neg (Nat.lt_irrefl _), if_pos rfl, this]; simp⟩
theorem Ker.old {k i : Nat} {r : List Nat} {parts : Parts} {c : List Nat} (K : Ker k r parts c) (hi : i < parts.length) : Ker k (r ++ [c.getD i 0]) (parts.set i (parts.getD i [] ++ [r.length])) c where
  len := by simp [K.len]
  nd := K.nd
  lt := K.lt
  col := fun j q hq => by
    rw [getD_set] at hq
    rw [getD_app]
    by_cases h : i = j ∧ i < parts.length
    · rw [if_pos h] at hq
      obtain ⟨h1, _⟩ := h
      subst h1
      rcases List.mem_append.mp hq with z | z
      · obtain ⟨h1, h2⟩ := K.col i q z
        rw [if_pos h1]
        exact ⟨by simp; omega, h2⟩
      · have : q = r.length := by simpa using z
        subst this
        rw [if_neg (Nat.lt_irrefl _), if_pos rfl]
        exact ⟨by simp, rfl⟩
    · rw [if_neg h] at hq
      obtain ⟨h1, h2⟩ := K.col j q hq
      rw [if_pos h1]
      exact ⟨by simp; omega, h2⟩
  cov := fun q hq => by
    by_cases h : q < r.length
    · obtain ⟨j, hj, hm⟩ := K.cov q h
      refine ⟨j, by simpa using hj, ?_⟩
      rw [getD_set]
      by_cases e : i = j ∧ i < parts.length
      · rw [if_pos e, e.1]; exact List.mem_append_left _ hm
      · rw [if_neg e]; exact hm
    · have : q = r.length := by simp at hq; omega
      refine ⟨i, by simpa using hi, ?_⟩
      rw [getD_set, if_pos ⟨rfl, hi⟩, this]
      exact List.mem_append_right _ (by simp)
theorem S_perm {α : Type} (f : α → Int) {l m : List α} (h : l.Perm m) : S f l = S f m := by
  induction h with
  | nil => rfl
  | cons x _ ih => rw [S, S, ih]
  | swap x y l => simp only [S]; omega
  | trans _ _ a b => exact a.trans b
theorem S_add {α : Type} (f g : α → Int) : ∀ l : List α, S (fun x => f x + g x) l = S f l + S g l
  | [] => rfl
  | x :: l => by rw [S, S, S, S_add f g l]; omega
theorem range_filter {k : Nat} {c : List Nat} (nd : c.Nodup) (lt : ∀ d ∈ c, d < k) : ((List.range k).filter fun d => decide (d ∈ c)).Perm c := by
  refine (List.perm_ext_iff_of_nodup (List.nodup_range.filter _) nd).mpr fun d => ?_
  rw [List.mem_filter, List.mem_range, decide_eq_true_iff]
  exact ⟨fun h => h.2, fun h => ⟨lt d h, h⟩⟩
theorem len_part {α : Type} (p : α → Bool) : ∀ l : List α, (l.filter p).length + (l.filter fun x => !p x).length = l.length
  | [] => rfl
  | x :: l => by
    have := len_part p l
    rw [List.filter_cons, List.filter_cons]
    cases p x <;> simp <;> omega
theorem out_len {k : Nat} {c : List Nat} (nd : c.Nodup) (lt : ∀ d ∈ c, d < k) : (((List.range k).filter fun d => !decide (d ∈ c)).length : Int) = (k : Int) - c.length := by
  have h1 := len_part (fun d => decide (d ∈ c)) (List.range k)
  rw [(range_filter nd lt).length_eq, List.length_range] at h1
  omega
theorem mem_taken {r row : List Nat} {d : Nat} : d ∈ taken r row ↔ ∃ q, q ∈ row ∧ q < r.length ∧ r.getD q 0 = d := by
  unfold taken
  simp only [List.mem_map, List.mem_filter, decide_eq_true_iff]
  exact ⟨fun ⟨q, ⟨h1, h2⟩, h3⟩ => ⟨q, h1, h2, h3⟩, fun ⟨q, h1, h2, h3⟩ => ⟨q, ⟨h1, h2⟩, h3⟩⟩
theorem nodup_getD {c : List Nat} (nd : c.Nodup) {i j : Nat} (hi : i < c.length) (hj : j < c.length) (e : c.getD i 0 = c.getD j 0) : i = j := by
  rw [List.getD_eq_getElem?_getD, List.getD_eq_getElem?_getD, List.getElem?_eq_getElem hi, List.getElem?_eq_getElem hj] at e
  have e' : c[i] = c[j] := e
  exact (List.getElem?_inj hi nd).mp (by rw [List.getElem?_eq_getElem hi, List.getElem?_eq_getElem hj, e'])
theorem range_getD (c : List Nat) : (List.range c.length).map (fun i => c.getD i 0) = c := by
  refine List.ext_getElem? fun i => ?_
  rw [List.getElem?_map]
  by_cases h : i < c.length
  · rw [List.getElem?_range h, List.getElem?_eq_getElem h]
    simp [List.getD_eq_getElem?_getD, h]
  · rw [List.getElem?_eq_none (by simp; omega), List.getElem?_eq_none (by omega)]; rfl
/-- the dyes that may come: new ones, or a part's that has no tie to the point -/
theorem S_dyes {k : Nat} {r row : List Nat} {parts : Parts} {c : List Nat} (K : Ker k r parts c) (F : Nat → Int) :
    S F (dyes k r row) = S F ((List.range k).filter fun d => !decide (d ∈ c)) + S (fun i => F (c.getD i 0)) ((List.range parts.length).filter fun i => frOf row (parts.getD i [])) := by
  have tc : ∀ d, d ∈ taken r row → d ∈ c := fun d hd => by
    obtain ⟨q, _, h2, h3⟩ := mem_taken.mp hd
    obtain ⟨i, hi, hm⟩ := K.cov q h2
    have := (K.col i q hm).2
    rw [← h3, this]
    exact getD_mem (by rw [K.len]; exact hi)
  have ti : ∀ i, i < parts.length → (decide (c.getD i 0 ∈ taken r row) = !frOf row (parts.getD i [])) := fun i hi => by
    by_cases h : c.getD i 0 ∈ taken r row
    · rw [decide_eq_true h]
      obtain ⟨q, h1, h2, h3⟩ := mem_taken.mp h
      obtain ⟨j, hj, hm⟩ := K.cov q h2
      have e := (K.col j q hm).2
      have : i = j := nodup_getD K.nd (by rw [K.len]; exact hi) (by rw [K.len]; exact hj) (by rw [← e, h3])
      subst this
      have : frOf row (parts.getD i []) = false := by
        apply Bool.eq_false_iff.mpr
        intro z
        unfold frOf at z
        rw [List.all_eq_true] at z
        have := z q hm
        simp [h1] at this
      rw [this]; rfl
    · rw [decide_eq_false h]
      have : frOf row (parts.getD i []) = true := by
        unfold frOf
        rw [List.all_eq_true]
        intro q hq
        have ⟨h1, h2⟩ := K.col i q hq
        have : q ∉ row := fun z => h (mem_taken.mpr ⟨q, z, h1, h2⟩)
        simp [this]
      rw [this]; rfl
  unfold dyes
  rw [S_filter, S_filter, S_filter]
  have e1 : S (fun d => if (!decide (d ∈ taken r row)) = true then F d else 0) (List.range k) =
      S (fun d => (if (!decide (d ∈ c)) = true then F d else 0) + (if decide (d ∈ c) = true then (if (!decide (d ∈ taken r row)) = true then F d else 0) else 0)) (List.range k) := by
    refine S_congr fun d _ => ?_
    by_cases hc : d ∈ c
    · simp [hc]
    · have : d ∉ taken r row := fun z => hc (tc d z)
      simp [hc, this]
  rw [e1, S_add, ← S_filter (fun d => if (!decide (d ∈ taken r row)) = true then F d else 0) (fun d => decide (d ∈ c)), S_perm _ (range_filter K.nd K.lt)]
  congr 1
  have e2 := range_getD c
  rw [K.len] at e2
  conv => lhs; rw [← e2]
  rw [S_map]
  refine S_congr fun i hi => ?_
  rw [List.mem_range] at hi
  rw [ti i hi, Bool.not_not]
def gv (k : Int) : Nat → Nat → Int
  | _, 0 => 1
  | j, t + 1 => (k - j) * gv k (j + 1) t
theorem gv_last (k : Int) : ∀ (t j : Nat), gv k j (t + 1) = gv k j t * (k - (j + t : Nat))
  | 0, j => by simp [gv]
  | t + 1, j => by
    rw [gv, gv_last k t (j + 1), gv, Int.mul_assoc]
    congr 2
    have : j + 1 + t = j + (t + 1) := by omega
    rw [this]
theorem gv_fv (k : Int) : ∀ m : Nat, gv k 0 m = fv m k
  | 0 => rfl
  | m + 1 => by rw [gv_last, gv_fv k m, fv]; simp
theorem with_len {parts F : Parts} {p : Nat} {row : List Nat} (h : F ∈ partsWith parts p row) : parts.length ≤ F.length ∧ F.length ≤ parts.length + 1 := by
  unfold partsWith at h
  rcases List.mem_cons.mp h with h | h
  · rw [h]; simp
  · obtain ⟨i, _, rfl⟩ := List.mem_map.mp h
    simp
theorem run_len (w : Nat → List Nat) (n : Nat) : ∀ (m p : Nat) (L : List Parts), (∀ x ∈ L, n ≤ x.length) → ∀ F ∈ runP w m p L, n ≤ F.length
  | 0, _, L, h, F, hF => h F hF
  | m + 1, p, L, h, F, hF => run_len w n m (p + 1) _ (fun x hx => by
      obtain ⟨y, hy, hxy⟩ := List.mem_flatMap.mp hx
      exact Nat.le_trans (h y hy) (with_len hxy).1) F hF
/-- how many dyeings go on from one: by its parts -/
theorem go_on (w : Nat → List Nat) (k : Nat) : ∀ (m : Nat) (r : List Nat) (parts : Parts) (c : List Nat), Ker k r parts c →
    ((runD w k m [r]).length : Int) = S (fun F => gv k parts.length (F.length - parts.length)) (runP w m r.length [parts])
  | 0, r, parts, c, K => by simp [runD, runP, S, gv]
  | m + 1, r, parts, c, K => by
    rw [runD, List.flatMap_cons, List.flatMap_nil, List.append_nil, len_run, S_map, S_dyes K]
    rw [runP, List.flatMap_cons, List.flatMap_nil, List.append_nil, S_run]
    unfold partsWith
    rw [S, S_map]
    have eN : S (fun x => ((runD w k m [r ++ [x]]).length : Int)) ((List.range k).filter fun d => !decide (d ∈ c)) = S (fun F => gv k parts.length (F.length - parts.length)) (runP w m (r.length + 1) [parts ++ [[r.length]]]) := by
      have : S (fun x => ((runD w k m [r ++ [x]]).length : Int)) ((List.range k).filter fun d => !decide (d ∈ c)) = S (fun _ => S (fun F => gv k (parts.length + 1) (F.length - (parts.length + 1))) (runP w m (r.length + 1) [parts ++ [[r.length]]])) ((List.range k).filter fun d => !decide (d ∈ c)) := by
        refine S_congr fun d hd => ?_
        rw [List.mem_filter, List.mem_range] at hd
        have hc : d ∉ c := by simpa using hd.2
        have := go_on w k m (r ++ [d]) _ _ (K.new hd.1 hc)
        rw [List.length_append, List.length_append] at this
        exact this
      rw [this, S_const, out_len K.nd K.lt, K.len, ← S_mul]
      refine S_congr fun F hF => ?_
      have hl := run_len w (parts.length + 1) m (r.length + 1) [parts ++ [[r.length]]] (fun x hx => by
        have : x = parts ++ [[r.length]] := by simpa using hx
        rw [this]; simp) F hF
      obtain ⟨t, ht⟩ : ∃ t, F.length = parts.length + 1 + t := ⟨F.length - (parts.length + 1), by omega⟩
      rw [ht, show parts.length + 1 + t - (parts.length + 1) = t by omega, show parts.length + 1 + t - parts.length = t + 1 by omega, gv]
    rw [eN]
    congr 1
    refine S_congr fun i hi => ?_
    rw [List.mem_filter, List.mem_range] at hi
    have := go_on w k m (r ++ [c.getD i 0]) _ _ (K.old hi.1)
    rw [List.length_append, List.length_set] at this
    exact this
theorem dyeings (w : Nat → List Nat) (k n : Nat) : ((runD w k n [[]]).length : Int) = S (fun F => fv F.length k) (runP w n 0 [[]]) := by
  have K : Ker k [] [] [] := ⟨rfl, List.nodup_nil, (fun d h => by cases h), (fun i q h => by simp at h), (fun q h => by simp at h)⟩
  have := go_on w k n [] [] [] K
  rw [this]
  refine S_congr fun F _ => ?_
  show gv k 0 F.length = _
  exact gv_fv _ _
/-! the counts -/
def bump (cs : List Int) (i : Nat) : List Int := cs.set i (cs.getD i 0 + 1)
theorem evC_bump : ∀ (cs : List Int) (i m : Nat) (k : Int), i < cs.length → evC (bump cs i) m k = evC cs m k + fv (m + i) k
  | [], i, m, k, h => by simp at h
  | c :: cs, 0, m, k, h => by
    show (c + 1) * fv m k + evC cs (m + 1) k = c * fv m k + evC cs (m + 1) k + fv m k
    rw [Int.add_mul]; omega
  | c :: cs, i + 1, m, k, h => by
    have := evC_bump cs i (m + 1) k (by simpa using h)
    show c * fv m k + evC (bump cs i) (m + 1) k = _
    rw [this, evC, show m + 1 + i = m + (i + 1) by omega]
    omega
def counts (cs : List Int) (L : List Parts) : List Int := L.foldl (fun cs F => bump cs F.length) cs
theorem counts_len : ∀ (L : List Parts) (cs : List Int), (counts cs L).length = cs.length
  | [], cs => rfl
  | F :: L, cs => by
    show (counts (bump cs F.length) L).length = _
    rw [counts_len L]; unfold bump; simp
theorem evC_counts (k : Int) : ∀ (L : List Parts) (cs : List Int), (∀ F ∈ L, F.length < cs.length) → evC (counts cs L) 0 k = evC cs 0 k + S (fun F => fv F.length k) L
  | [], cs, _ => by simp [counts, S]
  | F :: L, cs, h => by
    show evC (counts (bump cs F.length) L) 0 k = _
    rw [evC_counts k L _ (fun G hG => by unfold bump; rw [List.length_set]; exact h G (List.mem_cons_of_mem _ hG)), evC_bump _ _ _ _ (h F (List.mem_cons_self ..)), S]
    simp
    omega
theorem counts_get (m : Nat) : ∀ (L : List Parts) (cs : List Int), m < cs.length → (counts cs L).getD m 0 = cs.getD m 0 + S (fun F => if F.length = m then 1 else 0) L
  | [], cs, _ => by simp [counts, S]
  | F :: L, cs, h => by
    show (counts (bump cs F.length) L).getD m 0 = _
    rw [counts_get m L _ (by unfold bump; simpa using h), S]
    unfold bump
    rw [getD_set]
    by_cases e : F.length = m
    · rw [if_pos ⟨e, by omega⟩, if_pos e, e]; omega
    · rw [if_neg (fun z => e z.1), if_neg e]; omega
theorem evC_zero (k : Int) : ∀ (n m : Nat), evC (List.replicate n 0) m k = 0
  | 0, m => rfl
  | n + 1, m => by rw [List.replicate_succ, evC, evC_zero k n]; simp
/-! the highest places -/
/-! how many have all parts single, or all but two points -/
theorem run_last (w : Nat → List Nat) : ∀ (m p : Nat) (L : List Parts), runP w (m + 1) p L = (runP w m p L).flatMap fun x => partsWith x (p + m) (w (p + m))
  | 0, p, L => by simp [runP]
  | m + 1, p, L => by
    rw [runP, run_last w m (p + 1), runP]
    rw [show p + 1 + m = p + (m + 1) by omega]
def fal (w : Nat → List Nat) (p : Nat) : List Parts := runP w p 0 [[]]
theorem fal_succ (w : Nat → List Nat) (p : Nat) : fal w (p + 1) = (fal w p).flatMap fun x => partsWith x p (w p) := by
  unfold fal
  rw [run_last, Nat.zero_add]
theorem fal_le (w : Nat → List Nat) : ∀ p, ∀ F ∈ fal w p, F.length ≤ p
  | 0, F, h => by
    have : F = [] := by simpa [fal, runP] using h
    rw [this]; simp
  | p + 1, F, h => by
    rw [fal_succ] at h
    obtain ⟨x, hx, hF⟩ := List.mem_flatMap.mp h
    have := fal_le w p x hx
    have := (with_len hF).2
    omega
/-- the ways of a web of n points -/
def ways (w : Nat → List Nat) (n : Nat) : List Int := toldF (List.replicate (n + 1) 0) (counts (List.replicate (n + 1) 0) (fal w n)) 0
theorem ways_len (w : Nat → List Nat) (n : Nat) : (ways w n).length = n + 1 := by unfold ways; rw [toldF_len, List.length_replicate]
theorem ways_ev (w : Nat → List Nat) (n : Nat) (k : Int) : ev (ways w n) k = S (fun F => fv F.length k) (fal w n) := by
  unfold ways
  rw [ev_told _ _ _ _ (by rw [counts_len]; simp), ev_zero, evC_counts k _ _ (fun F hF => by have := fal_le w n F hF; simp; omega), evC_zero]
  omega
theorem ways_count (w : Nat → List Nat) (n k : Nat) : ev (ways w n) k = ((runD w k n [[]]).length : Int) := by rw [ways_ev, dyeings]; rfl
theorem rep_get (n j : Nat) : (List.replicate n (0 : Int)).getD j 0 = 0 := by
  rw [List.getD_eq_getElem?_getD, List.getElem?_replicate]
  split <;> rfl
/-! sizes -/
def fact : Nat → Nat
  | 0 => 1
  | n + 1 => (n + 1) * fact n
theorem with_size {parts : Parts} {p : Nat} {row : List Nat} : (partsWith parts p row).length ≤ parts.length + 1 := by
  unfold partsWith
  rw [List.length_cons, List.length_map]
  have := List.length_filter_le (fun i => frOf row (parts.getD i [])) (List.range parts.length)
  rw [List.length_range] at this
  omega
theorem flat_size {α β : Type} (g : α → List β) (c : Nat) : ∀ l : List α, (∀ x ∈ l, (g x).length ≤ c) → (l.flatMap g).length ≤ c * l.length
  | [], _ => by simp
  | x :: l, h => by
    rw [List.flatMap_cons, List.length_append, List.length_cons, Nat.mul_succ]
    have h1 := h x (List.mem_cons_self ..)
    have h2 := flat_size g c l fun y hy => h y (List.mem_cons_of_mem _ hy)
    omega
theorem fal_size (w : Nat → List Nat) : ∀ p, (fal w p).length ≤ fact p
  | 0 => by simp [fal, runP, fact]
  | p + 1 => by
    rw [fal_succ, fact]
    refine Nat.le_trans (flat_size _ (p + 1) _ fun x hx => ?_) (Nat.mul_le_mul_left _ (fal_size w p))
    have h1 := fal_le w p x hx
    have := with_size (parts := x) (p := p) (row := w p)
    omega
theorem with_part {parts F : Parts} {p n : Nat} {row : List Nat} (h : F ∈ partsWith parts p row) (hn : ∀ i, (parts.getD i []).length ≤ n) : ∀ i, (F.getD i []).length ≤ n + 1 := fun j => by
  unfold partsWith at h
  rcases List.mem_cons.mp h with h | h
  · rw [h, getD_app]
    split
    · exact Nat.le_succ_of_le (hn j)
    · split
      · simp
      · simp
  · obtain ⟨i, _, rfl⟩ := List.mem_map.mp h
    rw [getD_set]
    split
    · have := hn i
      simp
      exact hn i
    · exact Nat.le_succ_of_le (hn j)
theorem fal_part (w : Nat → List Nat) : ∀ p, ∀ F ∈ fal w p, ∀ i, (F.getD i []).length ≤ p
  | 0, F, h, i => by
    have : F = [] := by simpa [fal, runP] using h
    rw [this]; simp
  | p + 1, F, h, i => by
    rw [fal_succ] at h
    obtain ⟨x, hx, hF⟩ := List.mem_flatMap.mp h
    exact with_part hF (fal_part w p x hx) i
theorem told_snoc (c : Int) : ∀ (cs t : List Int) (m : Nat), toldF t (cs ++ [c]) m = addTo (toldF t cs m) ((fallP (m + cs.length)).map (c * ·))
  | [], t, m => by simp [toldF]
  | d :: cs, t, m => by
    rw [List.cons_append, toldF, told_snoc c cs, toldF, List.length_cons, show m + 1 + cs.length = m + (cs.length + 1) by omega]
theorem addTo_nil (t : List Int) : addTo t [] = t := by cases t <;> rfl
theorem addTo_snoc (b : Int) : ∀ (t l : List Int), l.length < t.length → addTo t (l ++ [b]) = (addTo t l).set l.length ((addTo t l).getD l.length 0 + b)
  | [], l, h => by simp at h
  | a :: t, [], h => by simp [addTo, addTo_nil]
  | a :: t, c :: l, h => by
    have := addTo_snoc b t l (by simpa using h)
    simp only [List.cons_append, addTo, this, List.length_cons]
    simp
theorem ind_le (m : Nat) : ∀ L : List Parts, 0 ≤ S (fun F => if F.length = m then 1 else 0) L ∧ S (fun F => if F.length = m then 1 else 0) L ≤ L.length
  | [] => by simp [S]
  | F :: L => by
    obtain ⟨h1, h2⟩ := ind_le m L
    rw [S, List.length_cons]
    split <;> constructor <;> omega
theorem counts_le (w : Nat → List Nat) (n m : Nat) (h : m < n + 1) : 0 ≤ (counts (List.replicate (n + 1) 0) (fal w n)).getD m 0 ∧ (counts (List.replicate (n + 1) 0) (fal w n)).getD m 0 ≤ fact n := by
  rw [counts_get m _ _ (by simpa using h), rep_get]
  obtain ⟨h1, h2⟩ := ind_le m (fal w n)
  have := fal_size w n
  constructor <;> omega
theorem zip_map (m : Int) : ∀ u v : List Int, (u.zip v).map (fun y => y.1 - m * y.2) = List.zipWith (fun a b => a - m * b) u v
  | [], _ => by simp
  | _ :: _, [] => by simp
  | a :: u, b :: v => by simp [zip_map m u v]
theorem counts_snoc (cs : List Int) (L : List Parts) (F : Parts) : counts cs (L ++ [F]) = bump (counts cs L) F.length := by unfold counts; rw [List.foldl_append]; rfl
theorem ev_rev (l : List Int) (k : Int) : l.reverse.foldl (fun t a => t * k + a) 0 = ev l k := by unfold ev; rw [List.foldl_reverse]
theorem fact_le {n : Nat} (h : n ≤ 8) : fact n ≤ 40320 := by
  match n, h with
  | 0, _ => decide
  | 1, _ => decide
  | 2, _ => decide
  | 3, _ => decide
  | 4, _ => decide
  | 5, _ => decide
  | 6, _ => decide
  | 7, _ => decide
  | 8, _ => decide
theorem runD_last (w : Nat → List Nat) (k : Nat) : ∀ (m : Nat) (L : List (List Nat)), runD w k (m + 1) L = (runD w k m L).flatMap fun r => (dyes k r (w r.length)).map fun d => r ++ [d]
  | 0, L => by simp [runD]
  | m + 1, L => by
    rw [runD, runD_last w k m, runD]
def dyl (w : Nat → List Nat) (k p : Nat) : List (List Nat) := runD w k p [[]]
theorem dyl_succ (w : Nat → List Nat) (k p : Nat) : dyl w k (p + 1) = (dyl w k p).flatMap fun r => (dyes k r (w r.length)).map fun d => r ++ [d] := runD_last w k p _
theorem dyl_len (w : Nat → List Nat) (k : Nat) : ∀ p, ∀ r ∈ dyl w k p, r.length = p
  | 0, r, h => by
    have : r = [] := by simpa [dyl, runD] using h
    rw [this]; rfl
  | p + 1, r, h => by
    rw [dyl_succ] at h
    obtain ⟨x, hx, hr⟩ := List.mem_flatMap.mp h
    obtain ⟨d, _, rfl⟩ := List.mem_map.mp hr
    rw [List.length_append, dyl_len w k p x hx]; rfl
theorem dyl_size (w : Nat → List Nat) (k : Nat) : ∀ p, (dyl w k p).length ≤ k ^ p
  | 0 => by simp [dyl, runD]
  | p + 1 => by
    rw [dyl_succ, Nat.pow_succ, Nat.mul_comm]
    refine Nat.le_trans (flat_size _ k _ fun x hx => ?_) (Nat.mul_le_mul_left _ (dyl_size w k p))
    rw [List.length_map]
    unfold dyes
    have := List.length_filter_le (fun d => !decide (d ∈ taken x (w x.length))) (List.range k)
    rw [List.length_range] at this
    exact this
end Wy

set_option Elab.async false
set_option linter.all false
set_option maxRecDepth 100000
set_option maxHeartbeats 4000000
namespace K82
open PySem L2 Wb
open Wy
def spAtMost : DSp := fun ds P => ∃ (w : W) (m : Int), ds = [.web w, .int m] ∧ (w.length : Int) ≤ m ∧ P .non
theorem ok_need_at_most {P : Program} {w : World} {mg : Str → Option Value} {base : Heap} {Z : DC} (T : Txt Z mg) : FnOk P w Z.K mg base CX0 2 T.d_need_at_most.f T.d_need_at_most.fd ["web", "most"] (liftSp Z spAtMost) := by
  have g_Web_many := ok_Web_many (P := P) (w := w) (base := base) T
  have nd := sc_need_at_most.nd
  refine fn_data T.d_need_at_most.F sc_need_at_most [0, 0] (by decide) (fun ds R h => by obtain ⟨_, _, rfl, _⟩ := h; rfl) (fun cdv A outer s H E ds R hr h => ?_)
  have hu := hr.units
  refine ⟨_, (dss_one (ds_if (dt_cmp od_gt (de_meth0 T.W (de_var 0) T.m_many.m g_Web_many (hr.mono (by decide)) T.m_many.b) (de_var 1) (nomark _)) (dss_one ds_never) dss_nil)), ?_⟩
  obtain ⟨w', m, rfl, hm, q⟩ := h
  refine ⟨_, rfl, w', rfl, w', rfl, _, rfl, _, rfl, ?_⟩
  exact iteN (decide_eq_false (by omega)) ⟨rfl, q⟩
def manyW (L : List Parts) : List D := L.map webW
def spWith : DSp := fun ds P => ∃ (parts : Parts) (p : Nat) (row : List Nat), ds = [webW parts, natD p, rowW row] ∧ parts.length ≤ 100 ∧ (∀ i, (parts.getD i []).length ≤ 100) ∧ P (.lst (manyW (partsWith parts p row)))
theorem cutD_drop {α : Type} (l : List α) (k : Nat) (h : k ≤ l.length) : cutD l (some (k : Int)) none = l.drop k := by
  unfold cutD
  have e1 : HT.sIx l.length 0 (some (k : Int)) = k := by
    simp only [HT.sIx]
    split <;> omega
  have e2 : HT.sIx l.length l.length none = l.length := rfl
  rw [e1, e2]
  exact List.take_of_length_le (by simp)
theorem set_cut {α : Type} (l : List α) (k : Nat) (x : α) (h : k < l.length) : l.take k ++ [x] ++ l.drop (k + 1) = l.set k x := by
  rw [List.set_eq_take_append_cons_drop, if_pos h]; simp
theorem ok_parts_with {P : Program} {w : World} {mg : Str → Option Value} {base : Heap} {Z : DC} (T : Txt Z mg) : FnOk P w Z.K mg base CX0 1 T.d_parts_with.f T.d_parts_with.fd ["parts", "p", "row"] (liftSp Z spWith) := by
  have nd := sc_parts_with.nd
  refine fn_data T.d_parts_with.F sc_parts_with [0, 0, 0, 1, 0, 0] (by decide) (fun ds R h => by obtain ⟨_, _, _, rfl, _⟩ := h; rfl) (fun cdv A outer s H E ds R hr h => ?_)
  have hu := hr.units
  refine ⟨_, (dss_cons (ds_new 3 nd (df_lst (da_cons (de_op od_add (de_var 0) (de_lst (da_cons (de_lst (da_cons (de_var 1) da_nil)) da_nil))) da_nil)))
      (dss_cons (ds_for rfl PassesOwn.never (di_enum rfl T.B.enumerate (da_cons (de_var 0) da_nil)) (dt_tup 2 rfl (dts_cons (dt_name 4 nd) (dts_cons (dt_name 5 nd) dts_nil'))) (dss_one (ds_if (dt_not (dt_tru (de_lc (NC := ["q", "row"]) (src := [none, some 2]) rfl (CompOk.of (defScope s_parts_with) rfl rfl (by decide +kernel) (by decide +kernel) (by decide +kernel)) ⟨rfl, rfl, trivial⟩ (di_list (de_var 5)) (fun _ _ _ => (dg_name 0 (show (["q", "row"] : List Str).Nodup from by decide +kernel))) (fun _ _ _ => (dts_one (dt_cmp od_in (de_var 0) (de_var 1) (by with_unfolding_all rfl)))) (fun _ _ _ => (de_var 0))))) (dss_one (ds_app false 3 (de_op od_add (de_op od_add (de_slice (de_var 0) do_none (do_some (de_var 4))) (de_lst (da_cons (de_op od_add (de_var 5) (de_lst (da_cons (de_var 1) da_nil))) da_nil))) (de_slice (de_var 0) (do_some (de_op od_add (de_var 4) de_int)) do_none)))) dss_nil)))
      (dss_one (ds_ret (de_var 3))))), ?_⟩
  obtain ⟨parts, p, row, rfl, h1, h2, q⟩ := h
  have lp : (parts.map rowW).length = parts.length := List.length_map _
  have big : ∀ n, n ≤ 1000 → n ≤ sizeLine := fun n h => small h
  refine ⟨_, rfl, _, rfl, by show 1 ≤ sizeLine; decide, by show 1 ≤ sizeLine; decide, big _ (by rw [lp]; show parts.length + 1 ≤ 1000; omega), by show 1 ≤ sizeLine; decide, ?_⟩
  have e0 : (.lst (parts.map rowW ++ [.lst [natD p]]) : D) = webW (parts ++ [[p]]) := by unfold webW; rw [List.map_append]; rfl
  refine ⟨_, rfl, for_inv (fun j ρ => ∃ o1 o2, ρ = [some (webW parts), some (natD p), some (rowW row), some (.lst (webW (parts ++ [[p]]) :: manyW (((List.range j).filter fun i => frOf row (parts.getD i [])).map fun i => parts.set i (parts.getD i [] ++ [p])))), o1, o2]) ⟨_, _, by rw [← e0]; rfl⟩ ?_ ?_⟩
  · rintro j d _ hd ⟨o1, o2, rfl⟩ A hA
    obtain ⟨y, hy, rfl⟩ := enumD_get hd
    obtain ⟨part, hp, rfl⟩ := map_get hy
    have hj : j < parts.length := (List.getElem?_eq_some_iff.mp hp).1
    have ep : parts.getD j [] = part := by rw [List.getD_eq_getElem?_getD, hp]; rfl
    have hpl : part.length ≤ 100 := by rw [← ep]; exact h2 j
    refine ⟨rfl, rfl, ?_⟩
    refine ⟨_, rfl, lc_name (ρ := [none, some (rowW row)]) natD (fun q => decide (q ∈ row)) natD part _ [] _ (fun y hy Y Nn t1 t2 => ?_) ⟨none, rfl⟩ (by simp; exact big _ (by omega)) fun ρ' => ⟨rfl, ?_⟩⟩
    · refine ⟨_, rfl, _, rfl, rfl, flat_nat _, _, rfl, ?_⟩
      rw [if_neg Bool.false_ne_true, inD_nat]
      refine ite_of (fun e => ⟨_, rfl, t1 e⟩) (fun e => t2 e)
    · have et : truD (.lst ([] ++ ((part.filter fun q => decide (q ∈ row)).map natD))) = !frOf row part := by
        simp only [truD, List.nil_append]
        congr 1
        unfold frOf
        clear hpl ep hp hy hd
        induction part with
        | nil => rfl
        | cons a l ih =>
          rw [List.filter_cons, List.all_cons]
          by_cases h : a ∈ row
          · simp [h]
          · simp only [h, decide_false, Bool.false_eq_true, if_false, Bool.not_false, Bool.true_and]
            exact ih
      have er : (List.range (j + 1)).filter (fun i => frOf row (parts.getD i [])) = (List.range j).filter (fun i => frOf row (parts.getD i [])) ++ (if frOf row part = true then [j] else []) := by
        rw [List.range_succ, List.filter_append, List.filter_cons, ep]; rfl
      refine ite_of (fun e => ?_) (fun e => ?_)
      · rw [et, Bool.not_not] at e
        have hs : parts.take j ++ [part ++ [p]] ++ parts.drop (j + 1) = parts.set j (parts.getD j [] ++ [p]) := by rw [set_cut _ _ _ hj, ep]
        have ec1 : cutD (parts.map rowW) none (some (j : Int)) = (parts.take j).map rowW := by rw [cutD_take _ _ (by rw [lp]; omega), List.map_take]
        have ec2 : cutD (parts.map rowW) (some ((j : Int) + 1)) none = (parts.drop (j + 1)).map rowW := by
          have := cutD_drop (parts.map rowW) (j + 1) (by rw [lp]; omega)
          rw [List.map_drop, ← this]; rfl
        have l1 : (parts.take j).length ≤ 100 := by rw [List.length_take]; omega
        have l2 : (parts.drop (j + 1)).length ≤ 100 := by rw [List.length_drop]; omega
        refine ⟨_, rfl, _, rfl, _, rfl, _, rfl, _, rfl, by show 1 ≤ sizeLine; decide, big _ ?_, by show 1 ≤ sizeLine; decide, big _ ?_, _, rfl, _, rfl, big _ ?_, trivial, ?_, ?_⟩
        · rw [List.length_map]; show part.length + 1 ≤ 1000; omega
        · rw [ec1, List.length_map]; show _ + 1 ≤ 1000; omega
        · rw [ec1]
          refine (?_ : _ + (cutD (parts.map rowW) (some ((j : Int) + 1)) none).length ≤ 1000)
          rw [ec2, List.length_append, List.length_map, List.length_map]; show _ + 1 + _ ≤ 1000; omega
        · refine small1000 ?_
          show _ + 1 ≤ 1000
          unfold manyW
          rw [List.length_map, List.length_map]
          have := List.length_filter_le (fun i => frOf row (parts.getD i [])) (List.range j)
          rw [List.length_range] at this
          omega
        · refine hA _ ⟨some (.int (j : Int)), some (rowW part), ?_⟩
          have : D.lst (cutD (parts.map rowW) none (some (j : Int)) ++ [.lst (part.map natD ++ [natD p])] ++ cutD (parts.map rowW) (some ((j : Int) + 1)) none) = webW (parts.take j ++ [part ++ [p]] ++ parts.drop (j + 1)) := by
            rw [ec1, ec2]
            unfold webW
            rw [List.map_append, List.map_append]
            unfold rowW
            simp
          rw [er, e, if_pos rfl, this, hs]
          unfold manyW
          rw [List.map_append, List.map_append]
          rfl
      · rw [et, Bool.not_not] at e
        rw [e, if_neg Bool.false_ne_true, List.append_nil] at er
        exact hA _ ⟨_, _, by rw [er]; rfl⟩
  · rintro _ ⟨o1, o2, rfl⟩
    refine ⟨_, rfl, ?_⟩
    rw [enumD_len, lp]
    exact q
def intsD (l : List Int) : List D := l.map D.int
theorem intsD_len (l : List Int) : (intsD l).length = l.length := List.length_map _
theorem intsD_get {l : List Int} {i : Nat} (h : i < l.length) : (intsD l)[i]? = some (.int (l.getD i 0)) := by
  unfold intsD
  rw [List.getElem?_map, List.getD_eq_getElem?_getD, List.getElem?_eq_getElem h]; rfl
theorem intsD_set (l : List Int) (i : Nat) (x : Int) : (intsD l).set i (.int x) = intsD (l.set i x) := by unfold intsD; rw [List.map_set]
theorem rep_intsD (n : Nat) : (rangeD 0 n).map (fun _ => D.int 0) = intsD (List.replicate n 0) := by
  unfold rangeD intsD
  rw [List.map_map, List.map_replicate]
  refine List.ext_getElem? fun i => ?_
  rw [List.getElem?_map, List.getElem?_replicate]
  by_cases h : i < n
  · rw [List.getElem?_range h, if_pos h]; rfl
  · rw [List.getElem?_eq_none (by simpa using Nat.le_of_not_lt h), if_neg h]; rfl
theorem lc_zero {te : DTE} {n : Nat} {N : DN → List D → Prop} (ht : te = dC (.int 0)) (hz : n ≤ sizeLine) (h : ∀ ρ', N ρ' (intsD (List.replicate n 0))) : lcW (dgName 0) dYes te (rangeD 0 n) [none] [] N := by
  subst ht
  have := lc_all (i := 0) (ρ := [none]) (fun d : D => d) (fun _ => D.int 0) (rangeD 0 n) N (fun y hy Y h => h) rfl (by unfold rangeD; simpa using hz) (fun ρ' => by rw [rep_intsD]; exact h ρ') (te := dC (.int 0))
  simpa using this
def spCounted : DSp := fun ds P => ∃ (w : W), ds = [.web w] ∧ 1 ≤ w.length ∧ w.length ≤ 8 ∧ P (.lst (intsD (counts (List.replicate (w.length + 1) 0) (fal (row w) w.length))))
theorem ok_counted_by_parts {P : Program} {w : World} {mg : Str → Option Value} {base : Heap} {Z : DC} (T : Txt Z mg) : FnOk P w Z.K mg base CX0 2 T.d_counted_by_parts.f T.d_counted_by_parts.fd ["web"] (liftSp Z spCounted) := by
  have g_Web_many := ok_Web_many (P := P) (w := w) (base := base) T
  have g_Web_turns := ok_Web_turns (P := P) (w := w) (base := base) T
  have g_parts_with := ok_parts_with (P := P) (w := w) (base := base) T
  have nd := sc_counted_by_parts.nd
  refine fn_data T.d_counted_by_parts.F sc_counted_by_parts [0, 0, 0, 0, 1, 0] (by decide) (fun ds R h => by obtain ⟨_, rfl, _⟩ := h; rfl) (fun cdv A outer s H E ds R hr h => ?_)
  have hu := hr.units
  refine ⟨_, (dss_cons (ds_set false 1 nd (de_lst (da_cons (de_lst da_nil) da_nil)))
      (dss_cons (ds_for rfl PassesOwn.never (di_enum rfl T.B.enumerate (da_cons (de_meth0 T.W (de_var 0) T.m_turns.m g_Web_turns (hr.mono (by decide)) T.m_turns.b) da_nil)) (dt_tup 2 rfl (dts_cons (dt_name 2 nd) (dts_cons (dt_name 3 nd) dts_nil'))) (dss_one (ds_setlc2 1 (NC := ["parts", "told", "p", "row"]) (src := [none, none, some 2, some 3]) rfl nd (CompOk.of (defScope s_counted_by_parts) rfl rfl (by decide +kernel) (by decide +kernel) (by decide +kernel)) ⟨rfl, rfl, rfl, rfl, trivial⟩ (di_list (de_var 1)) (fun _ _ _ => (dg_name 0 (show (["parts", "told", "p", "row"] : List Str).Nodup from by decide +kernel))) (fun _ _ _ => dts_nil) (fun _ _ _ => (di_list (de_call g_parts_with (hr.mono (by decide)) rfl T.d_parts_with.m T.d_parts_with.F.kp T.d_parts_with.b (da_cons (de_var 0) (da_cons (de_var 2) (da_cons (de_var 3) da_nil)))))) (fun _ _ _ => (dg_name 1 (show (["parts", "told", "p", "row"] : List Str).Nodup from by decide +kernel))) (fun _ _ _ => dts_nil) (fun _ _ _ => (de_var 1)) )))
      (dss_cons (ds_newlc 4 (NC := ["place"]) (src := [none]) rfl nd (CompOk.of (defScope s_counted_by_parts) rfl rfl (by decide +kernel) (by decide +kernel) (by decide +kernel)) trivial (di_range1 rfl T.B.range (da_cons (de_op od_add (de_meth0 T.W (de_var 0) T.m_many.m g_Web_many (hr.mono (by decide)) T.m_many.b) de_int) da_nil)) (fun _ _ _ => (dg_name 0 (show (["place"] : List Str).Nodup from by decide +kernel))) (fun _ _ _ => dts_nil) (fun _ _ _ => de_int))
      (dss_cons (ds_for rfl PassesOwn.never (di_list (de_var 1)) (dt_name 5 nd) (dss_one (ds_augix 4 (de_callB cd_len rfl T.B.len bd_len (da_cons (de_var 5) da_nil)) ip_add de_int)))
      (dss_one (ds_ret (de_var 4))))))), ?_⟩
  obtain ⟨w', rfl, h1, h8, q⟩ := h
  have f8 := fact_le h8
  have big : ∀ n, n ≤ 1000000 → n < sizeLine := fun n h => Nat.lt_of_le_of_lt h (by decide)
  refine ⟨by show 0 ≤ sizeLine; decide, by show 1 ≤ sizeLine; decide, trivial, ?_⟩
  refine ⟨_, rfl, w', rfl, w', rfl, by omega, for_inv (fun j ρ => ∃ o2 o3 o4 o5, ρ = [some (.web w'), some (.lst (manyW (fal (row w') j))), o2, o3, o4, o5]) ⟨_, _, _, _, rfl⟩ ?_ ?_⟩
  · rintro j d _ hd ⟨o2, o3, o4, o5, rfl⟩ A hA
    obtain ⟨hj, rfl⟩ := web3 hd
    refine ⟨rfl, rfl, ?_⟩
    have hs : (fal (row w') (j + 1)).length ≤ 1000000 := by
      have := fal_size (row w') (j + 1)
      have := fact_le (n := j + 1) (by omega)
      omega
    refine ⟨_, rfl, lc2_inv (fun ρ => ∃ o0 o1, ρ = [o0, o1, some (natD j), some (rowW (row w' j))]) webW (fun parts => partsWith parts j (row w' j)) webW (fal (row w') j) _ [] _ ?_ ?_ ⟨_, _, rfl⟩ (by rw [← fal_succ]; simpa using Nat.le_of_lt (big _ hs)) ⟨trivial, ?_⟩⟩
    · rintro parts hp _ ⟨o0, o1, rfl⟩ Y hY
      have l1 := fal_le _ _ _ hp
      have l2 := fal_part _ _ _ hp
      exact ⟨_, rfl, _, rfl, _, rfl, parts, j, row w' j, rfl, by omega, fun i => Nat.le_trans (l2 i) (by omega), hY _ ⟨_, _, rfl⟩⟩
    · rintro parts hp b hb _ ⟨o0, o1, rfl⟩ Y hY
      exact ⟨_, rfl, hY _ ⟨_, _, rfl⟩⟩
    · rw [List.nil_append, ← fal_succ]
      exact hA _ ⟨_, _, _, _, rfl⟩
  · rintro _ ⟨o2, o3, o4, o5, rfl⟩
    rw [enumD_len, List.length_map]
    refine ⟨_, rfl, w', rfl, w', rfl, ⟨by omega, by omega⟩, ?_⟩
    rw [show ((w'.length : Int) + 1).toNat = w'.length + 1 by omega]
    refine lc_zero rfl (Nat.le_of_lt (big _ (by omega))) fun ρ' => ?_
    refine ⟨_, rfl, for_inv (fun j ρ => ∃ o2 o3 o5, ρ = [some (.web w'), some (.lst (manyW (fal (row w') w'.length))), o2, o3, some (.lst (intsD (counts (List.replicate (w'.length + 1) 0) ((fal (row w') w'.length).take j)))), o5]) ⟨_, _, _, rfl⟩ ?_ ?_⟩
    · rintro j d _ hd ⟨o2, o3, o5, rfl⟩ A hA
      obtain ⟨F, hF, rfl⟩ := map_get hd
      have hl := fal_le _ _ _ (List.mem_of_getElem? hF)
      have hc : (counts (List.replicate (w'.length + 1) 0) ((fal (row w') w'.length).take j)).length = w'.length + 1 := by rw [counts_len]; simp
      have hFl : F.length < (counts (List.replicate (w'.length + 1) 0) ((fal (row w') w'.length).take j)).length := by omega
      have lF : ((F.map rowW).length : Int) = ((F.length : Nat) : Int) := by rw [List.length_map]
      refine ⟨_, rfl, _, rfl, _, F.length, _, rfl, ?_, intsD_get hFl, _, rfl, ?_⟩
      · rw [lF, intsD_len]; exact ixN_natD hFl
      · rw [intsD_set]
        refine hA _ ⟨o2, o3, some (webW F), ?_⟩
        rw [List.take_succ, hF, Option.toList_some, counts_snoc]
        rfl
    · rintro _ ⟨o2, o3, o5, rfl⟩
      refine ⟨_, rfl, ?_⟩
      have : (manyW (fal (row w') w'.length)).length = (fal (row w') w'.length).length := List.length_map _
      rw [this, List.take_length]
      exact q
def spWays : DSp := fun ds P => ∃ (w : W), ds = [.web w] ∧ 1 ≤ w.length ∧ w.length ≤ 8 ∧ P (.lst (intsD (ways (row w) w.length)))
theorem okF_ways {P : Program} {w : World} {mg : Str → Option Value} {base : Heap} {Z : DC} (T : Txt Z mg) : FnOk P w Z.K mg base CX0 3 T.d_ways.f T.d_ways.fd ["web"] (liftSpF Z 1 spWays) := by
  have g_Web_many := ok_Web_many (P := P) (w := w) (base := base) T
  have g_counted_by_parts := ok_counted_by_parts (P := P) (w := w) (base := base) T
  have g_need_at_most := ok_need_at_most (P := P) (w := w) (base := base) T
  have nd := sc_ways.nd
  refine fn_dataF 1 T.d_ways.F sc_ways [0, 1, 0, 0, 0, 0, 0] (by decide) (fun ds R h => by obtain ⟨_, rfl, _⟩ := h; rfl) (fun cdv A outer s H E ds R hr h => ?_)
  have hu := hr.units
  refine ⟨_, (dss_cons (ds_drop (de_call g_need_at_most (hr.mono (by decide)) rfl T.d_need_at_most.m T.d_need_at_most.F.kp T.d_need_at_most.b (da_cons (de_var 0) (da_cons (de_globI rfl T.c_MOST_COUNTED) da_nil))))
      (dss_cons (ds_newlc 1 (NC := ["place"]) (src := [none]) rfl nd (CompOk.of (defScope s_ways) rfl rfl (by decide +kernel) (by decide +kernel) (by decide +kernel)) trivial (di_range1 rfl T.B.range (da_cons (de_op od_add (de_meth0 T.W (de_var 0) T.m_many.m g_Web_many (hr.mono (by decide)) T.m_many.b) de_int) da_nil)) (fun _ _ _ => (dg_name 0 (show (["place"] : List Str).Nodup from by decide +kernel))) (fun _ _ _ => dts_nil) (fun _ _ _ => de_int))
      (dss_cons (ds_set false 2 nd (de_lst (da_cons de_int da_nil)))
      (dss_cons (ds_for rfl PassesOwn.never (di_enum rfl T.B.enumerate (da_cons (de_call g_counted_by_parts (hr.mono (by decide)) rfl T.d_counted_by_parts.m T.d_counted_by_parts.F.kp T.d_counted_by_parts.b (da_cons (de_var 0) da_nil)) da_nil)) (dt_tup 2 rfl (dts_cons (dt_name 3 nd) (dts_cons (dt_name 4 nd) dts_nil'))) (dss_cons (ds_for rfl PassesOwn.never (di_enum rfl T.B.enumerate (da_cons (de_var 2) da_nil)) (dt_tup 2 rfl (dts_cons (dt_name 5 nd) (dts_cons (dt_name 6 nd) dts_nil'))) (dss_one (ds_augix 1 (de_var 5) ip_add (de_op od_mul (de_var 4) (de_var 6)))))
      (dss_one (ds_setlc 2 (NC := ["up", "same", "less"]) (src := [none, none, some 3]) rfl nd (CompOk.of (defScope s_ways) rfl rfl (by decide +kernel) (by decide +kernel) (by decide +kernel)) ⟨rfl, rfl, trivial⟩ (di_zip rfl T.B.zip (da_cons (de_op od_add (de_lst (da_cons de_int da_nil)) (de_var 2)) (da_cons (de_op od_add (de_var 2) (de_lst (da_cons de_int da_nil))) da_nil))) (fun _ _ _ => (dg_tup 2 rfl (dgs_cons (dg_name 0 (show (["up", "same", "less"] : List Str).Nodup from by decide +kernel)) (dgs_cons (dg_name 1 (show (["up", "same", "less"] : List Str).Nodup from by decide +kernel)) dgs_nil)))) (fun _ _ _ => dts_nil) (fun _ _ _ => (de_op od_sub (de_var 0) (de_op od_mul (de_var 2) (de_var 1))))))))
      (dss_one (ds_retO 1)))))), ?_⟩
  obtain ⟨w', rfl, h1, h8, q⟩ := h
  have f8 := fact_le h8
  have big : ∀ n, n ≤ 1000000 → n < sizeLine := fun n h => Nat.lt_of_le_of_lt h (by decide)
  refine ⟨_, rfl, w', 8, rfl, by omega, ?_⟩
  refine ⟨_, rfl, w', rfl, w', rfl, ⟨by omega, by omega⟩, ?_⟩
  rw [show ((w'.length : Int) + 1).toNat = w'.length + 1 by omega]
  refine lc_zero rfl (Nat.le_of_lt (big _ (by omega))) fun ρ' => ?_
  refine ⟨by show 1 ≤ sizeLine; decide, trivial, ?_⟩
  generalize hcs : counts (List.replicate (w'.length + 1) 0) (fal (row w') w'.length) = cs
  have lcs : cs.length = w'.length + 1 := by rw [← hcs, counts_len]; simp
  refine ⟨_, rfl, w', rfl, h1, h8, ?_⟩
  rw [hcs]
  refine for_inv (fun j ρ => ∃ o3 o4 o5 o6, ρ = [some (.web w'), some (.lst (intsD (toldF (List.replicate (w'.length + 1) 0) (cs.take j) 0))), some (.lst (intsD (fallP j))), o3, o4, o5, o6]) ⟨_, _, _, _, rfl⟩ ?_ ?_
  · rintro j d _ hd ⟨o3, o4, o5, o6, rfl⟩ A hA
    obtain ⟨y, hy, rfl⟩ := enumD_get hd
    obtain ⟨c, hc, rfl⟩ := map_get hy
    have hj : j < cs.length := (List.getElem?_eq_some_iff.mp hc).1
    have cb := counts_le (row w') w'.length j (by omega)
    rw [hcs, List.getD_eq_getElem?_getD, hc] at cb
    have cb : 0 ≤ c ∧ c ≤ fact w'.length := cb
    generalize ht : toldF (List.replicate (w'.length + 1) 0) (cs.take j) 0 = t
    have lt : t.length = w'.length + 1 := by rw [← ht, toldF_len]; simp
    refine ⟨rfl, rfl, ?_⟩
    refine ⟨_, rfl, for_inv (fun i ρ => ∃ o5 o6, ρ = [some (.web w'), some (.lst (intsD (addTo t (((fallP j).take i).map (c * ·))))), some (.lst (intsD (fallP j))), some (.int (j : Int)), some (.int c), o5, o6]) ⟨_, _, by rw [List.take_zero, List.map_nil, addTo_nil]; rfl⟩ ?_ ?_⟩
    · rintro i d' _ hd' ⟨o5, o6, rfl⟩ A' hA'
      obtain ⟨y', hy', rfl⟩ := enumD_get hd'
      obtain ⟨f, hf, rfl⟩ := map_get hy'
      have hi : i < (fallP j).length := (List.getElem?_eq_some_iff.mp hf).1
      rw [fallP_len] at hi
      have lta : (addTo t (((fallP j).take i).map (c * ·))).length = w'.length + 1 := by rw [addTo_len, lt]
      have hii : i < (addTo t (((fallP j).take i).map (c * ·))).length := by omega
      refine ⟨rfl, rfl, ?_⟩
      refine ⟨_, rfl, _, rfl, _, i, _, rfl, by rw [intsD_len]; exact ixN_natD hii, intsD_get hii, _, rfl, _, rfl, .inl ⟨by omega, by omega⟩, _, rfl, ?_⟩
      rw [intsD_set]
      refine hA' _ ⟨some (.int (i : Int)), some (.int f), ?_⟩
      have e : addTo t (((fallP j).take (i + 1)).map (c * ·)) = (addTo t (((fallP j).take i).map (c * ·))).set i ((addTo t (((fallP j).take i).map (c * ·))).getD i 0 + c * f) := by
        have hl : (((fallP j).take i).map (c * ·)).length = i := by rw [List.length_map, List.length_take, fallP_len]; omega
        rw [List.take_succ, hf, Option.toList_some, List.map_append]
        have := addTo_snoc (c * f) t (((fallP j).take i).map (c * ·)) (by rw [hl]; omega)
        rw [hl] at this
        exact this
      rw [e]
      rfl
    · rintro _ ⟨o5, o6, rfl⟩
      rw [enumD_len, intsD_len, List.take_length]
      refine ⟨by show 1 ≤ sizeLine; decide, _, rfl, ?_⟩
      refine ⟨by rw [intsD_len, fallP_len]; show 1 + (j + 1) ≤ sizeLine; exact Nat.le_of_lt (big _ (by omega)), _, rfl, by show 1 ≤ sizeLine; decide, by rw [intsD_len, fallP_len]; show j + 1 + 1 ≤ sizeLine; exact Nat.le_of_lt (big _ (by omega)), ?_⟩
      have e1 : [D.int 0] ++ intsD (fallP j) = intsD (0 :: fallP j) := rfl
      have e2 : intsD (fallP j) ++ [D.int 0] = intsD (fallP j ++ [0]) := by unfold intsD; rw [List.map_append]; rfl
      have e0 : zipD (intsD (0 :: fallP j)) (intsD (fallP j ++ [0])) = ((0 :: fallP j).zip (fallP j ++ [0])).map fun y => D.tup [.int y.1, .int y.2] := zipD_map D.int _ _
      rw [e1, e2]
      refine (?_ : lcW _ _ _ (zipD (intsD (0 :: fallP j)) (intsD (fallP j ++ [0]))) _ _ _)
      rw [e0]
      refine lc_inv (fun ρ => ∃ o0 o1, ρ = [o0, o1, some (.int (j : Int))]) (fun y : Int × Int => D.tup [.int y.1, .int y.2]) (fun _ => true) (fun y => .int (y.1 - j * y.2)) _ _ [] _ ?_ ⟨_, _, rfl⟩ ?_ ?_
      · rintro y hy _ ⟨o0, o1, rfl⟩ Y Nn hY _
        refine ⟨rfl, rfl, ?_⟩
        exact yesT ⟨_, rfl, _, rfl, _, rfl, .inl ⟨by omega, by omega⟩, hY _ ⟨_, _, rfl⟩ rfl⟩
      · rw [List.length_zip, List.length_append, List.length_cons, fallP_len]
        show 0 + _ ≤ sizeLine
        have := big (j + 2) (by omega)
        simp
        omega
      · rintro _ ⟨o0, o1, rfl⟩
        refine ⟨trivial, hA _ ⟨some (.int (j : Int)), some (.int c), o5, o6, ?_⟩⟩
        rw [List.filter_eq_self.mpr (fun _ _ => rfl), List.nil_append]
        have e3 : ((0 :: fallP j).zip (fallP j ++ [0])).map (fun y : Int × Int => D.int (y.1 - j * y.2)) = intsD (fallP (j + 1)) := by
          unfold intsD
          rw [fallP, nextF, ← zip_map, List.map_map]; rfl
        rw [e3]
        have e4 : toldF (List.replicate (w'.length + 1) 0) (cs.take (j + 1)) 0 = addTo t ((fallP j).map (c * ·)) := by
          rw [List.take_succ, hc, Option.toList_some, told_snoc, ht]
          rw [List.length_take, show 0 + min j cs.length = j by omega]
        rw [e4]
        rfl
  · rintro _ ⟨o3, o4, o5, o6, rfl⟩
    refine ⟨_, rfl, ?_⟩
    rw [enumD_len, intsD_len, List.take_length]
    unfold ways at q
    rw [hcs] at q
    exact q
end K82


set_option linter.all false
/-! dyeings from lists that are all alike, and the dyeings that are counted -/
namespace Ws
open Wb Wy
theorem mem_dyl (w : Nat → List Nat) (k : Nat) : ∀ (p : Nat) (r : List Nat), r ∈ dyl w k p ↔ r.length = p ∧ ∀ i, i < p → r.getD i 0 < k ∧ ∀ x ∈ w i, x < i → r.getD x 0 ≠ r.getD i 0
  | 0, r => by
    have : r ∈ dyl w k 0 ↔ r = [] := by simp [dyl, runD]
    rw [this]
    constructor
    · rintro rfl; exact ⟨rfl, fun i h => by omega⟩
    · rintro ⟨h, _⟩; exact List.length_eq_zero_iff.mp h
  | p + 1, r => by
    rw [dyl_succ, List.mem_flatMap]
    constructor
    · rintro ⟨r0, h0, hr⟩
      obtain ⟨d, hd, rfl⟩ := List.mem_map.mp hr
      obtain ⟨hl, hall⟩ := (mem_dyl w k p r0).mp h0
      unfold dyes at hd
      rw [List.mem_filter, List.mem_range] at hd
      obtain ⟨hk, hn⟩ := hd
      have hn : d ∉ taken r0 (w r0.length) := by simpa using hn
      have g0 : ∀ x, x < p → (r0 ++ [d]).getD x 0 = r0.getD x 0 := fun x hx => by
        rw [List.getD_eq_getElem?_getD, List.getElem?_append_left (by omega), ← List.getD_eq_getElem?_getD]
      have g1 : (r0 ++ [d]).getD p 0 = d := by
        rw [List.getD_eq_getElem?_getD, List.getElem?_append_right (by omega), hl, Nat.sub_self]; rfl
      refine ⟨by simp [hl], fun i hi => ?_⟩
      by_cases e : i < p
      · obtain ⟨a, b⟩ := hall i e
        rw [g0 i e]
        exact ⟨a, fun x hx hlt => by rw [g0 x (by omega)]; exact b x hx hlt⟩
      · have : i = p := by omega
        subst this
        rw [g1]
        refine ⟨hk, fun x hx hlt z => hn ?_⟩
        unfold taken
        rw [List.mem_map]
        rw [g0 x hlt] at z
        refine ⟨x, ?_, z⟩
        rw [List.mem_filter, hl]
        exact ⟨hx, by simpa using hlt⟩
    · rintro ⟨hl, hall⟩
      have hp : p < r.length := by omega
      refine ⟨r.take p, (mem_dyl w k p _).mpr ⟨by rw [List.length_take]; omega, fun i hi => ?_⟩, List.mem_map.mpr ⟨r.getD p 0, ?_, ?_⟩⟩
      · have g0 : ∀ x, x < p → (r.take p).getD x 0 = r.getD x 0 := fun x hx => by
          rw [List.getD_eq_getElem?_getD, List.getElem?_take_of_lt hx, ← List.getD_eq_getElem?_getD]
        obtain ⟨a, b⟩ := hall i (by omega)
        rw [g0 i hi]
        exact ⟨a, fun x hx hlt => by rw [g0 x (by omega)]; exact b x hx hlt⟩
      · obtain ⟨a, b⟩ := hall p (by omega)
        have lt : (r.take p).length = p := by rw [List.length_take]; omega
        unfold dyes
        rw [List.mem_filter, List.mem_range]
        refine ⟨a, ?_⟩
        have : r.getD p 0 ∉ taken (r.take p) (w (r.take p).length) := by
          unfold taken
          rw [List.mem_map]
          rintro ⟨x, hx, e⟩
          rw [List.mem_filter, lt] at hx
          have hxp : x < p := by simpa using hx.2
          rw [List.getD_eq_getElem?_getD, List.getElem?_take_of_lt hxp, ← List.getD_eq_getElem?_getD] at e
          exact b x hx.1 hxp e
        simpa using this
      · have e : r.getD p 0 = r[p] := by rw [List.getD_eq_getElem?_getD, List.getElem?_eq_getElem hp]; rfl
        rw [e, List.take_append_getElem hp, show p + 1 = r.length by omega, List.take_length]
end Ws

set_option linter.all false
set_option maxRecDepth 100000
/-! the ways, told by taking ties away: a second telling of the same numbers -/
namespace Wy
open Wb Ws
theorem dyl_nodup (g : Nat → List Nat) (k : Nat) : ∀ n, (dyl g k n).Nodup
  | 0 => by simp [dyl, runD]
  | n + 1 => by
    rw [dyl_succ]
    unfold List.Nodup
    rw [List.pairwise_flatMap]
    refine ⟨fun r hr => ?_, ?_⟩
    · rw [List.pairwise_map]
      have : (dyes k r (g r.length)).Nodup := by unfold dyes; exact List.nodup_range.filter _
      exact this.imp fun h e => h (by simpa using e)
    · refine List.Pairwise.imp_of_mem (fun {a b} ha hb h => ?_) (dyl_nodup g k n)
      intro x hx y hy e
      obtain ⟨d, _, rfl⟩ := List.mem_map.mp hx
      obtain ⟨c, _, rfl⟩ := List.mem_map.mp hy
      have h1 := dyl_len g k n a ha
      have h2 := dyl_len g k n b hb
      exact h (List.append_inj e (by omega)).1
theorem perm_len {α : Type} {l m : List α} (a : l.Nodup) (b : m.Nodup) (h : ∀ x, x ∈ l ↔ x ∈ m) : l.length = m.length := ((List.perm_ext_iff_of_nodup a b).mpr h).length_eq
/-! ### two lists of numbers that are worth the same -/
theorem ev_inj : ∀ (a b : List Int) (m : Nat), a.length = b.length → (∀ k : Nat, m ≤ k → ev a k = ev b k) → a = b
  | [], [], _, _, _ => rfl
  | [], _ :: _, _, h, _ => by simp at h
  | _ :: _, [], _, h, _ => by simp at h
  | x :: a, y :: b, m, h, e => by
    have hz : ∀ k : Nat, m ≤ k → (ev a k - ev b k) * (k : Int) = y - x := fun k hk => by
      have := e k hk
      rw [ev_cons, ev_cons] at this
      rw [Int.sub_mul]; omega
    have exy : y - x = 0 := by
      have hk := hz (m + (y - x).natAbs + 1) (by omega)
      apply Classical.byContradiction
      intro hne
      have hd : (((m + (y - x).natAbs + 1 : Nat) : Int)) ∣ y - x := ⟨_, hk.symm.trans (Int.mul_comm _ _)⟩
      have := Int.natAbs_dvd_natAbs.mpr hd
      have := Nat.le_of_dvd (by omega) this
      rw [Int.natAbs_natCast] at this
      omega
    have ea : a = b := by
      refine ev_inj a b (m + 1) (by simpa using h) fun k hk => ?_
      have := hz k (by omega)
      rw [exy] at this
      rcases Int.mul_eq_zero.mp this with z | z
      · omega
      · omega
    rw [ea, show x = y by omega]
/-! ### a tie taken away -/
def addE (g : Nat → List Nat) (u : Nat) (T : List Nat) : Nat → List Nat := fun p => g p ++ (if p ∈ T then [u] else []) ++ (if p = u then T else [])
def nbs (g : Nat → List Nat) (n : Nat) : List Nat := (List.range n).filter fun q => decide (q ∈ g n)
def polyS (P : (Nat → List Nat) → List Int) (g : Nat → List Nat) : List Nat → List Int
  | [] => 0 :: P g
  | u :: T => addTo (polyS P g T) ((P (addE g u T)).map ((-1) * ·))
def poly : Nat → (Nat → List Nat) → List Int
  | 0, _ => [1]
  | n + 1, g => polyS (poly n) g (nbs g n)
theorem polyS_len {P : (Nat → List Nat) → List Int} {n : Nat} (h : ∀ g, (P g).length = n) (g : Nat → List Nat) : ∀ T, (polyS P g T).length = n + 1
  | [] => by rw [polyS, List.length_cons, h]
  | u :: T => by rw [polyS, addTo_len, polyS_len h g T]
theorem poly_len : ∀ (n : Nat) (g : Nat → List Nat), (poly n g).length = n + 1
  | 0, _ => rfl
  | n + 1, g => by rw [poly, polyS_len (n := n + 1) (poly_len n)]
theorem nbs_mem {g : Nat → List Nat} {n q : Nat} : q ∈ nbs g n ↔ q < n ∧ q ∈ g n := by
  unfold nbs
  rw [List.mem_filter, List.mem_range]; simp
theorem nbs_nodup (g : Nat → List Nat) (n : Nat) : (nbs g n).Nodup := List.nodup_range.filter _
def outs (k : Nat) (A : List Nat) : Nat := ((List.range k).filter fun d => !decide (d ∈ A)).length
theorem outs_succ (k : Nat) (A : List Nat) : outs (k + 1) A = outs k A + if k ∈ A then 0 else 1 := by
  unfold outs
  rw [List.range_succ, List.filter_append, List.length_append]
  by_cases h : k ∈ A <;> simp [h]
theorem outs_cons (c : Nat) (A : List Nat) : ∀ k, outs k A = outs k (c :: A) + if c < k ∧ c ∉ A then 1 else 0
  | 0 => by simp [outs]
  | k + 1 => by
    rw [outs_succ, outs_succ, outs_cons c A k]
    by_cases e : c = k
    · subst e
      by_cases h : c ∈ A <;> simp [h]
    · have e' : ¬ k = c := fun z => e z.symm
      have : (k ∈ c :: A) ↔ k ∈ A := by simp [e']
      simp only [this]
      have e2 : (c < k + 1 ∧ c ∉ A) ↔ (c < k ∧ c ∉ A) := ⟨fun h => ⟨by omega, h.2⟩, fun h => ⟨by omega, h.2⟩⟩
      simp only [e2]
      split <;> split <;> omega
def cntS (g : Nat → List Nat) (k n : Nat) (T : List Nat) : Int := S (fun r => (outs k (T.map fun q => r.getD q 0) : Int)) (dyl g k n)
theorem cnt_nil (g : Nat → List Nat) (k n : Nat) : cntS g k n [] = ((dyl g k n).length : Int) * k := by
  unfold cntS
  have : (fun (r : List Nat) => (outs k ((([] : List Nat)).map fun q => r.getD q 0) : Int)) = fun _ => (k : Int) := by
    funext r
    unfold outs
    rw [List.map_nil, List.filter_eq_self.mpr (fun a _ => by simp), List.length_range]
  rw [this, S_const]
theorem addE_filter {g : Nat → List Nat} {k n u : Nat} {T : List Nat} (hu : u < n) (hT : ∀ s ∈ T, s < n) (hn : u ∉ T) : ((dyl g k n).filter fun r => !decide (r.getD u 0 ∈ T.map fun q => r.getD q 0)).length = (dyl (addE g u T) k n).length := by
  refine perm_len ((dyl_nodup g k n).filter _) (dyl_nodup _ k n) fun r => ?_
  rw [List.mem_filter, mem_dyl, mem_dyl]
  constructor
  · rintro ⟨⟨hl, h⟩, hr⟩
    have hr : r.getD u 0 ∉ T.map fun q => r.getD q 0 := by simpa using hr
    refine ⟨hl, fun i hi => ⟨(h i hi).1, fun x hx hlt => ?_⟩⟩
    unfold addE at hx
    rcases List.mem_append.mp hx with hx | hx
    · rcases List.mem_append.mp hx with hx | hx
      · exact (h i hi).2 x hx hlt
      · split at hx
        · rename_i hi'
          have : x = u := by simpa using hx
          subst this
          exact fun e => hr (List.mem_map.mpr ⟨i, hi', e.symm⟩)
        · cases hx
    · by_cases hi' : i = u
      · rw [if_pos hi'] at hx
        rw [hi']
        exact fun e => hr (List.mem_map.mpr ⟨x, hx, e⟩)
      · rw [if_neg hi'] at hx; cases hx
  · rintro ⟨hl, h⟩
    refine ⟨⟨hl, fun i hi => ⟨(h i hi).1, fun x hx hlt => (h i hi).2 x (List.mem_append_left _ (List.mem_append_left _ hx)) hlt⟩⟩, ?_⟩
    have : r.getD u 0 ∉ T.map fun q => r.getD q 0 := by
      rw [List.mem_map]
      rintro ⟨s, hs, e⟩
      have ne : s ≠ u := fun z => hn (z ▸ hs)
      rcases Nat.lt_or_ge u s with c | c
      · refine (h s (hT s hs)).2 u ?_ c e.symm
        unfold addE
        exact List.mem_append_left _ (List.mem_append_right _ (by rw [if_pos hs]; simp))
      · refine (h u hu).2 s ?_ (by omega) e
        unfold addE
        exact List.mem_append_right _ (by rw [if_pos rfl]; exact hs)
    simpa using this
theorem cnt_cons {g : Nat → List Nat} {k n u : Nat} {T : List Nat} (hu : u < n) (hT : ∀ s ∈ T, s < n) (hn : u ∉ T) : cntS g k n (u :: T) = cntS g k n T - ((dyl (addE g u T) k n).length : Int) := by
  have h1 : cntS g k n T = cntS g k n (u :: T) + S (fun r => if (!decide (r.getD u 0 ∈ T.map fun q => r.getD q 0)) = true then (1 : Int) else 0) (dyl g k n) := by
    unfold cntS
    rw [← S_add]
    refine S_congr fun r hr => ?_
    have lt : r.getD u 0 < k := ((((mem_dyl _ _ _ _).mp hr).2) u hu).1
    have := outs_cons (r.getD u 0) (T.map fun q => r.getD q 0) k
    rw [List.map_cons, this]
    by_cases c : r.getD u 0 ∈ T.map fun q => r.getD q 0
    · rw [if_neg (fun z => z.2 c), if_neg (by simpa using c)]; rfl
    · rw [if_pos ⟨lt, c⟩, if_pos (by simpa using c)]; rfl
  have h2 : S (fun r => if (!decide (r.getD u 0 ∈ T.map fun q => r.getD q 0)) = true then (1 : Int) else 0) (dyl g k n) = ((dyl (addE g u T) k n).length : Int) := by
    rw [← S_filter (fun _ => 1), S_one, addE_filter hu hT hn]
  omega
theorem cnt_poly {P : (Nat → List Nat) → List Int} {n : Nat} (k : Nat) (hl : ∀ g, (P g).length = n + 1) (he : ∀ g, ev (P g) k = ((dyl g k n).length : Int)) (g : Nat → List Nat) : ∀ T : List Nat, (∀ s ∈ T, s < n) → T.Nodup → ev (polyS P g T) k = cntS g k n T
  | [], _, _ => by rw [polyS, ev_cons, he, cnt_nil]; omega
  | u :: T, h, nd => by
    obtain ⟨n1, n2⟩ := List.nodup_cons.mp nd
    rw [polyS, ev_add _ _ _ (by rw [List.length_map, hl, polyS_len hl]; omega), ev_map, he, cnt_poly k hl he g T (fun s hs => h s (List.mem_cons_of_mem _ hs)) n2, cnt_cons (h u (List.mem_cons_self ..)) (fun s hs => h s (List.mem_cons_of_mem _ hs)) n1]
    omega
theorem dyl_cnt (g : Nat → List Nat) (k n : Nat) : ((dyl g k (n + 1)).length : Int) = cntS g k n (nbs g n) := by
  rw [← S_one, dyl_succ, S_flat]
  unfold cntS
  refine S_congr fun r hr => ?_
  rw [S_one, List.length_map]
  have hl := dyl_len g k n r hr
  unfold dyes outs
  congr 2
  refine List.filter_congr fun d _ => ?_
  congr 1
  rw [decide_eq_decide, hl, mem_taken, List.mem_map]
  constructor
  · rintro ⟨q, a, b, c⟩
    exact ⟨q, nbs_mem.mpr ⟨by omega, a⟩, c⟩
  · rintro ⟨q, a, c⟩
    obtain ⟨h1, h2⟩ := nbs_mem.mp a
    exact ⟨q, h2, by omega, c⟩
theorem poly_ev (k : Nat) : ∀ (n : Nat) (g : Nat → List Nat), ev (poly n g) k = ((dyl g k n).length : Int)
  | 0, g => by simp [poly, dyl, runD, ev]
  | n + 1, g => by
    rw [poly, cnt_poly k (poly_len n) (poly_ev k n) g _ (fun s hs => (nbs_mem.mp hs).1) (nbs_nodup g n), dyl_cnt]
theorem ways_poly (g : Nat → List Nat) (n : Nat) : ways g n = poly n g :=
  ev_inj _ _ 0 (by rw [ways_len, poly_len]) fun k _ => by rw [ways_count, poly_ev]; rfl
/-! ### the signs turn about -/
/-! ### how great they are -/
def sumA (l : List Int) : Nat := (l.map Int.natAbs).sum
theorem sumA_add : ∀ t l : List Int, sumA (addTo t l) ≤ sumA t + sumA l
  | [], l => by cases l <;> simp [addTo, sumA]
  | a :: t, [] => by simp [addTo, sumA]
  | a :: t, b :: l => by
    have := sumA_add t l
    simp only [addTo, sumA, List.map_cons, List.sum_cons] at this ⊢
    omega
theorem sumA_neg (l : List Int) : sumA (l.map ((-1) * ·)) = sumA l := by
  unfold sumA
  rw [List.map_map]
  congr 1
  refine List.map_congr_left fun a _ => ?_
  show ((-1) * a).natAbs = a.natAbs
  omega
theorem sumA_S {P : (Nat → List Nat) → List Int} {c : Nat} (h : ∀ g, sumA (P g) ≤ c) (g : Nat → List Nat) : ∀ T : List Nat, sumA (polyS P g T) ≤ (T.length + 1) * c
  | [] => by
    rw [polyS]
    have := h g
    simp only [sumA, List.map_cons, List.sum_cons, List.length_nil] at this ⊢
    omega
  | u :: T => by
    have h1 := sumA_S h g T
    have h2 := sumA_add (polyS P g T) ((P (addE g u T)).map ((-1) * ·))
    rw [sumA_neg] at h2
    have h3 := h (addE g u T)
    rw [polyS, List.length_cons, Nat.add_mul (T.length + 1) 1 c]
    omega
theorem sumA_poly : ∀ (n : Nat) (g : Nat → List Nat), sumA (poly n g) ≤ fact n
  | 0, g => by simp [poly, sumA, fact]
  | n + 1, g => by
    have h1 := sumA_S (sumA_poly n) g (nbs g n)
    have h2 : (nbs g n).length ≤ n := by
      have := List.length_filter_le (fun q => decide (q ∈ g n)) (List.range n)
      rw [List.length_range] at this
      exact this
    rw [poly]
    have : ((nbs g n).length + 1) * fact n ≤ (n + 1) * fact n := Nat.mul_le_mul_right _ (by omega)
    show _ ≤ fact (n + 1)
    unfold fact
    omega
theorem mem_sumA {l : List Int} {a : Int} (h : a ∈ l) : a.natAbs ≤ sumA l := by
  induction l with
  | nil => cases h
  | cons b l ih =>
    simp only [sumA, List.map_cons, List.sum_cons] at ih ⊢
    rcases List.mem_cons.mp h with rfl | h
    · omega
    · have := ih h; omega
theorem ways_size {g : Nat → List Nat} {n : Nat} (h : n ≤ 8) {a : Int} (ha : a ∈ ways g n) : a.natAbs ≤ 40320 := by
  rw [ways_poly] at ha
  have := mem_sumA ha
  have := sumA_poly n g
  have := fact_le h
  omega
/-! ### more dyes, more ways -/
/-! ### other names -/
end Wy

set_option Elab.async false
set_option linter.all false
set_option maxRecDepth 100000
set_option maxHeartbeats 4000000
namespace L2
open PySem PySem.Spec PyProof.Rows
section
variable {Z : DC} {X : Cx}
/-! ### * of numbers of up to 10,000 bits -/
def CMulW (i j : Int) : Prop := i.natAbs < 2 ^ 10000 ∧ j.natAbs < 2 ^ 10000
theorem bits_of {a : Int} (h : a.natAbs < 2 ^ 10000) : Builtin.Int.intBits a ≤ 2 ^ 20 := Nat.le_trans (intBits_le h) (by decide)
theorem op_mulW : OpR X (binaryOp .Mult) (rI CMulW fun i j => .int (i * j)) := opI fun _ _ _ _ _ _ _ hc q => mul_int q (IntMulOk.of_bits (bits_of hc.1) (bits_of hc.2))
def dMulW : DR2 := dI CMulW fun i j => i * j
theorem od_mulW : OpR X (binaryOp .Mult) (liftR Z dMulW) := liftI2 op_mulW
theorem grow_bits {t k a : Int} {m j : Nat} (ht : t.natAbs < 2 ^ m) (hk : k.natAbs < 2 ^ j) (ha : a.natAbs < 2 ^ (m + j)) : (t * k + a).natAbs < 2 ^ (m + (j + 1)) := by
  have h1 := Int.natAbs_add_le (t * k) a
  rw [Int.natAbs_mul] at h1
  have h2 : t.natAbs * k.natAbs ≤ 2 ^ m * 2 ^ j := Nat.mul_le_mul (Nat.le_of_lt ht) (Nat.le_of_lt hk)
  rw [← Nat.pow_add] at h2
  have h3 : 2 ^ (m + (j + 1)) = 2 ^ (m + j) * 2 := by rw [← Nat.add_assoc, Nat.pow_succ]
  omega
end
end L2
namespace L2
open PySem PySem.Spec PyProof.Rows
end L2

set_option Elab.async false
set_option linter.all false
set_option maxRecDepth 100000
set_option maxHeartbeats 4000000
namespace K82
open PySem L2 Wb
open Wy
def spWaysBB : DSp := fun ds P => ∃ (w : W) (k : Int), ds = [.web w, .int k] ∧ 1 ≤ w.length ∧ w.length ≤ 8 ∧ k.natAbs < 2 ^ 200 ∧ P (.int (ev (ways (row w) w.length) k))
theorem pow_mono2 {a b : Nat} (h : a ≤ b) : 2 ^ a ≤ 2 ^ b := Nat.pow_le_pow_right (by decide) h
theorem ok_ways_by {P : Program} {w : World} {mg : Str → Option Value} {base : Heap} {Z : DC} (T : Txt Z mg) : FnOk P w Z.K mg base CX0 4 T.d_ways_by.f T.d_ways_by.fd ["web", "many"] (liftSp Z spWaysBB) := by
  have g_ways := (okF_ways (P := P) (w := w) (base := base) T).imp spF
  have nd := sc_ways_by.nd
  refine fn_data T.d_ways_by.F sc_ways_by [0, 0, 0, 0] (by decide) (fun ds R h => by obtain ⟨_, _, rfl, _⟩ := h; rfl) (fun cdv A outer s H E ds R hr h => ?_)
  have hu := hr.units
  refine ⟨_, (dss_cons (ds_set false 2 nd de_int)
      (dss_cons (ds_for rfl PassesOwn.never (di_rev rfl T.B.reversed (da_cons (de_call g_ways (hr.mono (by decide)) rfl T.d_ways.m T.d_ways.F.kp T.d_ways.b (da_cons (de_var 0) da_nil)) da_nil)) (dt_name 3 nd) (dss_one (ds_set false 2 nd (de_op od_add (de_op od_mulW (de_var 2) (de_var 1)) (de_var 3)))))
      (dss_one (ds_ret (de_var 2))))), ?_⟩
  obtain ⟨w', k, rfl, h1, h8, hk, q⟩ := h
  refine ⟨trivial, ?_⟩
  refine ⟨_, rfl, w', rfl, h1, h8, ?_⟩
  have sz : ∀ a ∈ ways (row w') w'.length, a.natAbs < 2 ^ 16 := fun a ha => by have := ways_size h8 ha; omega
  have ll := ways_len (row w') w'.length
  generalize hl : ways (row w') w'.length = l at q sz ll
  have er : (intsD l).reverse = l.reverse.map D.int := by unfold intsD; rw [List.map_reverse]
  refine (?_ : forW _ _ _ (intsD l).reverse _)
  rw [er]
  refine for_inv (fun j ρ => ∃ o3 t, ρ = [some (.web w'), some (.int k), some (.int t), o3] ∧ t = (l.reverse.take j).foldl (fun t a => t * k + a) 0 ∧ t.natAbs < 2 ^ (16 + j * 201)) ⟨_, 0, rfl, rfl, by decide⟩ ?_ ?_
  · rintro j d _ hd ⟨o3, t, rfl, et, ht⟩ A hA
    obtain ⟨a, ha, rfl⟩ := map_get hd
    have hj : j < l.length := by have := (List.getElem?_eq_some_iff.mp ha).1; simpa using this
    have ham : a ∈ l := List.mem_reverse.mp (List.mem_of_getElem? ha)
    refine ⟨_, rfl, _, rfl, ⟨Nat.lt_of_lt_of_le ht (pow_mono2 (by omega)), Nat.lt_of_lt_of_le hk (pow_mono2 (by omega))⟩, _, rfl, trivial, hA _ ⟨some (.int a), t * k + a, rfl, ?_, ?_⟩⟩
    · rw [List.take_succ, ha, Option.toList_some, List.foldl_append, et]
      rfl
    · have := grow_bits ht hk (Nat.lt_of_lt_of_le (sz a ham) (pow_mono2 (by omega)))
      rw [show 16 + (j + 1) * 201 = 16 + j * 201 + (200 + 1) by omega]
      exact this
  · rintro _ ⟨o3, t, rfl, et, ht⟩
    refine ⟨_, rfl, ?_⟩
    rw [List.length_map, List.take_length, ev_rev] at et
    rw [et]
    exact q
end K82

set_option linter.all false
namespace Wb
/-! webs of ties -/
structure TiesOk (n : Nat) (ts : List (Nat × Nat)) : Prop where
  lt : ∀ t ∈ ts, t.1 < t.2 ∧ t.2 < n
  nd : ts.Nodup
  sure : ∀ q, 1 ≤ q → q < n → ∃ p, (p, q) ∈ ts
def addTie (w : W) (t : Nat × Nat) : W := (w.set t.1 (row w t.1 ++ [t.2])).set t.2 (row (w.set t.1 (row w t.1 ++ [t.2])) t.2 ++ [t.1])
def turnsOf (n : Nat) (ts : List (Nat × Nat)) : W := ts.foldl addTie (List.replicate n [])
theorem addTie_len (w : W) (t : Nat × Nat) : (addTie w t).length = w.length := by unfold addTie; simp
theorem turns_len (n : Nat) : ∀ ts : List (Nat × Nat), ∀ w : W, (ts.foldl addTie w).length = w.length
  | [], w => rfl
  | t :: ts, w => by rw [List.foldl_cons, turns_len n ts, addTie_len]
theorem turnsOf_len (n : Nat) (ts : List (Nat × Nat)) : (turnsOf n ts).length = n := by unfold turnsOf; rw [turns_len n]; simp
theorem row_set' (w : W) (i x : Nat) (r : List Nat) (h : i < w.length) : row (w.set i r) x = if i = x then r else row w x := by
  unfold row
  rw [Wy.getD_set]
  by_cases e : i = x
  · rw [if_pos ⟨e, h⟩, if_pos e]
  · rw [if_neg (fun z => e z.1), if_neg e]
def nbT (t : Nat × Nat) (x : Nat) : List Nat := if t.1 = x then [t.2] else if t.2 = x then [t.1] else []
theorem row_add (w : W) (t : Nat × Nat) (x : Nat) (h1 : t.1 < t.2) (h2 : t.2 < w.length) : row (addTie w t) x = row w x ++ nbT t x := by
  unfold addTie nbT
  rw [row_set' _ _ _ _ (by simp; omega), row_set' _ _ _ _ (by omega), row_set' _ _ _ _ (by omega)]
  by_cases e1 : t.1 = x
  · have : ¬ t.2 = x := by omega
    rw [if_neg this, if_pos e1, if_pos e1, e1]
  · by_cases e2 : t.2 = x
    · rw [if_pos e2, if_neg (by omega), if_neg e1, if_pos e2, e2]
    · rw [if_neg e2, if_neg e1, if_neg e1, if_neg e2]; simp
def nb (ts : List (Nat × Nat)) (x : Nat) : List Nat := ts.flatMap fun t => nbT t x
theorem row_fold (x : Nat) : ∀ (ts : List (Nat × Nat)) (w : W), (∀ t ∈ ts, t.1 < t.2 ∧ t.2 < w.length) → row (ts.foldl addTie w) x = row w x ++ nb ts x
  | [], w, _ => by simp [nb]
  | t :: ts, w, h => by
    obtain ⟨h1, h2⟩ := h t (List.mem_cons_self ..)
    rw [List.foldl_cons, row_fold x ts _ (fun u hu => by rw [addTie_len]; exact h u (List.mem_cons_of_mem _ hu)), row_add w t x h1 h2, List.append_assoc]
    rfl
theorem row_turns {n : Nat} {ts : List (Nat × Nat)} (h : ∀ t ∈ ts, t.1 < t.2 ∧ t.2 < n) (x : Nat) : row (turnsOf n ts) x = nb ts x := by
  unfold turnsOf
  rw [row_fold x ts _ (by simpa using h)]
  have : row (List.replicate n []) x = [] := by
    unfold row
    rw [List.getD_eq_getElem?_getD, List.getElem?_replicate]
    split <;> rfl
  rw [this]; simp
theorem mem_nb {ts : List (Nat × Nat)} {x y : Nat} (h : ∀ t ∈ ts, t.1 < t.2) : y ∈ nb ts x ↔ (x, y) ∈ ts ∨ (y, x) ∈ ts := by
  unfold nb
  rw [List.mem_flatMap]
  constructor
  · rintro ⟨t, ht, hy⟩
    obtain ⟨a, b⟩ := t
    unfold nbT at hy
    by_cases e1 : a = x
    · rw [if_pos e1] at hy
      have : y = b := by simpa using hy
      subst e1 this
      exact .inl ht
    · rw [if_neg e1] at hy
      by_cases e2 : b = x
      · rw [if_pos e2] at hy
        have : y = a := by simpa using hy
        subst e2 this
        exact .inr ht
      · rw [if_neg e2] at hy; cases hy
  · rintro (h1 | h1)
    · exact ⟨_, h1, by unfold nbT; rw [if_pos rfl]; simp⟩
    · refine ⟨_, h1, ?_⟩
      have := h _ h1
      unfold nbT
      rw [if_neg (by intro z; have z' : y = x := z; simp at this; omega), if_pos rfl]
      simp
theorem nd_nb {x : Nat} : ∀ {ts : List (Nat × Nat)}, (∀ t ∈ ts, t.1 < t.2) → ts.Nodup → (nb ts x).Nodup
  | [], _, _ => List.nodup_nil
  | t :: ts, h, nd => by
    have ih := nd_nb (x := x) (ts := ts) (fun u hu => h u (List.mem_cons_of_mem _ hu)) (List.nodup_cons.mp nd).2
    show (nbT t x ++ nb ts x).Nodup
    obtain ⟨a, b⟩ := t
    have hab := h (a, b) (List.mem_cons_self ..)
    have hn := (List.nodup_cons.mp nd).1
    have mem : ∀ y, y ∈ nb ts x → (x, y) ∈ ts ∨ (y, x) ∈ ts := fun y hy => (mem_nb fun u hu => h u (List.mem_cons_of_mem _ hu)).mp hy
    have hlt : ∀ u v, (u, v) ∈ ts → u < v := fun u v hu => h (u, v) (List.mem_cons_of_mem _ hu)
    unfold nbT
    by_cases e1 : a = x
    · rw [if_pos e1]
      refine List.nodup_append.mpr ⟨by simp, ih, fun y hy z hz e => ?_⟩
      have : y = b := by simpa using hy
      subst e1
      subst this
      subst e
      rcases mem _ hz with m | m
      · exact hn m
      · have := hlt _ _ m; simp at hab; omega
    · rw [if_neg e1]
      by_cases e2 : b = x
      · rw [if_pos e2]
        refine List.nodup_append.mpr ⟨by simp, ih, fun y hy z hz e => ?_⟩
        have : y = a := by simpa using hy
        subst e2
        subst this
        subst e
        rcases mem _ hz with m | m
        · have := hlt _ _ m; simp at hab; omega
        · exact hn m
      · rw [if_neg e2]; simpa using ih
theorem good_turns {n : Nat} {ts : List (Nat × Nat)} (h1 : 1 ≤ n) (T : TiesOk n ts) : Good (turnsOf n ts) := by
  have lt1 : ∀ t ∈ ts, t.1 < t.2 := fun t ht => (T.lt t ht).1
  have rw' : ∀ x, row (turnsOf n ts) x = nb ts x := row_turns T.lt
  refine ⟨fun p q h => ?_, fun p h => ?_, fun p => by rw [rw']; exact nd_nb lt1 T.nd, fun p q h => ?_, fun p hp => ?_⟩
  · rw [rw', mem_nb lt1] at h
    rw [turnsOf_len]
    rcases h with h | h
    · exact (T.lt _ h).2
    · have := T.lt _ h; simp at this; omega
  · rw [rw', mem_nb lt1] at h
    rcases h with h | h <;> (have := lt1 _ h; simp at this)
  · rw [rw', mem_nb lt1] at h ⊢
    exact h.symm
  · rw [turnsOf_len] at hp
    induction p using Nat.strongRecOn with
    | _ p ih =>
      by_cases e : p = 0
      · rw [e]; exact .refl _
      · obtain ⟨r, hr⟩ := T.sure p (by omega) hp
        have := lt1 _ hr
        simp at this
        exact .step (ih r this (by omega)) (by rw [rw', mem_nb lt1]; exact .inl hr)
/-! how many ties there are -/
theorem nd_map {α β : Type} (f : α → β) : ∀ {l : List α}, l.Nodup → (∀ a ∈ l, ∀ b ∈ l, f a = f b → a = b) → (l.map f).Nodup
  | [], _, _ => List.nodup_nil
  | x :: l, nd, h => by
    obtain ⟨n1, n2⟩ := List.nodup_cons.mp nd
    rw [List.map_cons]
    refine List.nodup_cons.mpr ⟨fun z => ?_, nd_map f n2 fun a ha b hb => h a (List.mem_cons_of_mem _ ha) b (List.mem_cons_of_mem _ hb)⟩
    obtain ⟨y, hy, e⟩ := List.mem_map.mp z
    have := h y (List.mem_cons_of_mem _ hy) x (List.mem_cons_self ..) e
    exact n1 (by rw [← this]; exact hy)
end Wb

set_option Elab.async false
set_option linter.all false
set_option maxRecDepth 100000
set_option maxHeartbeats 4000000
namespace K82
open PySem L2 Wb
open Wy
/-! ### the law's own defs -/
def spCellAt : DSp := fun ds P => ∃ (ns : List Int) (k : Nat), ds = [.scr ns, natD k] ∧ ∀ v : Int, P (.int v)
theorem ok__law_cell_at {P : Program} {w : World} {mg : Str → Option Value} {base : Heap} {Z : DC} (T : Txt Z mg) : FnOk P w Z.K mg base CX0 1 T.d__law_cell_at.f T.d__law_cell_at.fd ["_law_script", "_law_k"] (liftSp Z spCellAt) := by
  have nd := sc__law_cell_at.nd
  refine fn_data T.d__law_cell_at.F sc__law_cell_at [0, 0] (by decide) (fun ds R h => by obtain ⟨_, _, rfl, _⟩ := h; rfl) (fun cdv A outer s H E ds R hr h => ?_)
  have hu := hr.units
  refine ⟨_, (dss_cons (ds_if (dt_cmp od_lt (de_var 1) (de_callB cd_len rfl T.B.len bd_len (da_cons (de_var 0) da_nil)) (nomark _)) (dss_one (ds_ret (de_ix (de_var 0) (de_var 1)))) dss_nil)
      (dss_one (ds_ret de_int))), ?_⟩
  obtain ⟨ns, k, rfl, q⟩ := h
  refine ⟨_, rfl, _, rfl, ?_⟩
  refine ⟨_, rfl, ite_of (fun e => ?_) (fun e => ?_)⟩
  · have hk : k < ns.length := by
      have := of_decide_eq_true e
      omega
    exact ⟨_, rfl, _, rfl, _, atI_nat (List.getElem?_eq_getElem hk), q _⟩
  · exact q 0
def spWhole : DSp := fun ds P => ∃ (i : Int), ds = [.int i] ∧ P (.bl true)
theorem ok__law_whole {P : Program} {w : World} {mg : Str → Option Value} {base : Heap} {Z : DC} (T : Txt Z mg) : FnOk P w Z.K mg base CX0 1 T.d__law_whole.f T.d__law_whole.fd ["_law_found"] (liftSp Z spWhole) := by
  have nd := sc__law_whole.nd
  refine fn_data T.d__law_whole.F sc__law_whole [0] (by decide) (fun ds R h => by obtain ⟨_, rfl, _⟩ := h; rfl) (fun cdv A outer s H E ds R hr h => ?_)
  have hu := hr.units
  refine ⟨_, (dss_one (ds_ret (de_and (de_isI "int" (de_var 0) rfl T.B.isinstance rfl T.B.int bd_int) (de_one (de_not (de_isI "bool" (de_var 0) rfl T.B.isinstance rfl T.B.bool bd_bool)))))), ?_⟩
  obtain ⟨i, rfl, q⟩ := h
  exact ⟨_, rfl, rfl, true, rfl, iteT ⟨_, rfl, rfl, false, rfl, q⟩⟩
def spReserve : DSp := fun ds P => ∃ (c k : Int), ds = [.int c, .int k] ∧ (0 ≤ k ∧ k < 1000) ∧ ∀ v : Int, P (.int v)
theorem mod_lt (x : Int) : 0 ≤ x % 2147483629 ∧ x % 2147483629 < 2147483629 := ⟨Int.emod_nonneg _ (by decide), Int.emod_lt_of_pos _ (by decide)⟩
theorem ok__law_reserve {P : Program} {w : World} {mg : Str → Option Value} {base : Heap} {Z : DC} (T : Txt Z mg) : FnOk P w Z.K mg base CX0 1 T.d__law_reserve.f T.d__law_reserve.fd ["_law_cell", "_law_k"] (liftSp Z spReserve) := by
  have nd := sc__law_reserve.nd
  refine fn_data T.d__law_reserve.F sc__law_reserve [0, 0, 0] (by decide) (fun ds R h => by obtain ⟨_, _, rfl, _⟩ := h; rfl) (fun cdv A outer s H E ds R hr h => ?_)
  have hu := hr.units
  refine ⟨_, (dss_cons (ds_set false 2 nd (de_op od_mod (de_op od_add (de_op od_mod (de_var 0) de_int) (de_op od_mul de_int (de_op od_add (de_var 1) de_int))) de_int))
      (dss_one (ds_ret (de_op od_add de_int (de_op od_mod (de_op od_add (de_op od_add (de_op od_mul (de_var 2) (de_var 2)) (de_op od_mul de_int (de_var 2))) (de_op od_mul de_int (de_var 1))) de_int))))), ?_⟩
  obtain ⟨c, k, rfl, hk, q⟩ := h
  refine ⟨_, rfl, (by show (0 : Int) < 2147483629; decide), _, rfl, .inl ⟨by decide, by decide⟩, (by show (0 : Int) < 2147483629; decide), trivial, ?_⟩
  have := mod_lt (c % 2147483629 + 48271 * (k + 1))
  refine ⟨_, rfl, _, rfl, .inl ⟨by dsimp only; omega, by dsimp only; omega⟩, _, rfl, .inl ⟨by decide, by decide⟩, _, rfl, .inl ⟨by decide, by decide⟩, (by show (0 : Int) < 2147483629; decide), q _⟩
theorem modOk (a b : Int) (h : 0 < b) : 0 ≤ a % b ∧ a % b < b := ⟨Int.emod_nonneg _ (by omega), Int.emod_lt_of_pos _ h⟩
theorem eqC {i j : Int} {P : D → Prop} {ρ : DN} (h : P (.bl (decide (i = j)))) : dC (.int j) ρ (fun b => dEq (.int i) b P) := dEq_int h
theorem dSeq_of {t u : DTS} {E : DEnds} {ρ : DN} (h : t { E with nx := u E } ρ) : dSeq t u E ρ := h
/-- an if that may set a number -/
theorem if_setI {c : DTT} {md : List Nat} {m : Bool} {i : Nat} {te : DTE} {E : DEnds} {ρ : DN} {x0 : Int} (Ok : Int → Prop) (h0 : ρ[i]? = some (some (.int x0))) (ok0 : Ok x0) (hc : ∀ Q : Bool → Prop, (∀ b, Q b) → c ρ Q) (ht : ∀ Q : D → Prop, (∀ x : Int, Ok x → Q (.int x)) → te (vis md m ρ) Q)
    (hk : ∀ x : Int, Ok x → E.nx (ρ.set i (some (.int x)))) : dIfS c (dSet md m i te) dNext E ρ := by
  refine hc _ fun b => ite_of (fun _ => ht _ fun x hx => ⟨?_, hk x hx⟩) (fun _ => ?_)
  · cases m
    · trivial
    · rfl
  · have := hk x0 ok0
    obtain ⟨hi, e⟩ := List.getElem?_eq_some_iff.mp h0
    rw [← e, List.set_getElem_self] at this
    exact this
def spTied : DSp := fun ds P => ∃ (c m : Int) (n : Nat), ds = [.int c, .int m, natD n] ∧ 1 ≤ n ∧ n ≤ 8 ∧ ∀ ts, TiesOk n ts → ts.length ≤ 64 → P (.lst (ts.map pairD))
theorem ok__law_tied {P : Program} {w : World} {mg : Str → Option Value} {base : Heap} {Z : DC} (T : Txt Z mg) : FnOk P w Z.K mg base CX0 2 T.d__law_tied.f T.d__law_tied.fd ["_law_cell", "_law_mode", "_law_many"] (liftSp Z spTied) := by
  have g__law_reserve := ok__law_reserve (P := P) (w := w) (base := base) T
  have nd := sc__law_tied.nd
  refine fn_data T.d__law_tied.F sc__law_tied [0, 0, 0, 0, 1, 0, 0, 0, 0, 0] (by decide) (fun ds R h => by obtain ⟨_, _, _, rfl, _⟩ := h; rfl) (fun cdv A outer s H E ds R hr h => ?_)
  have hu := hr.units
  refine ⟨_, (dss_cons (ds_set false 3 nd (de_op od_mod (de_var 0) de_int))
      (dss_cons (ds_new 4 nd (df_lst da_nil))
      (dss_cons (ds_set false 5 nd (de_var 0))
      (dss_cons (ds_forR rfl PassesOwn.never (dr_range2 rfl T.B.range (da_cons de_int (da_cons (de_var 2) da_nil))) (dt_name 6 nd) (dss_cons (ds_if (dt_cmp od_lt (de_var 0) de_int (nomark _)) (dss_one (ds_set false 0 nd (de_call g__law_reserve (hr.mono (by decide)) rfl T.d__law_reserve.m T.d__law_reserve.F.kp T.d__law_reserve.b (da_cons (de_var 5) (da_cons (de_var 6) da_nil))))) dss_nil)
      (dss_cons (ds_set false 7 nd (de_op od_mod (de_var 0) (de_var 6)))
      (dss_cons (ds_set false 0 nd (de_op od_div (de_var 0) (de_var 6)))
      (dss_cons (ds_if (dt_cmp (od_eq hu) (de_op od_mod (de_var 1) de_int) de_int (nomark _)) (dss_one (ds_set false 7 nd (de_op od_mod (de_op od_div (de_var 3) de_int) (de_var 6)))) dss_nil)
      (dss_one (ds_forR rfl PassesOwn.never (dr_range1 rfl T.B.range (da_cons (de_var 6) da_nil)) (dt_name 8 nd) (dss_cons (ds_set false 9 nd (de_op od_mod (de_var 0) de_int))
      (dss_cons (ds_set false 0 nd (de_op od_div (de_var 0) de_int))
      (dss_cons (ds_if (dt_cmp (od_eq hu) (de_op od_mod (de_var 1) de_int) de_int (nomark _)) (dss_cons (ds_set false 3 nd (de_op od_mod (de_op od_add (de_op od_add (de_op od_add (de_op od_mul (de_var 3) (de_var 3)) (de_op od_mul de_int (de_var 3))) (de_op od_mul de_int (de_var 8))) (de_var 6)) de_int))
      (dss_one (ds_set false 9 nd (de_op od_div (de_op od_mod (de_op od_div (de_var 3) de_int) (de_op od_add de_int (de_op od_mod (de_op od_div (de_var 1) de_int) de_int))) (de_op od_add de_int (de_op od_mod (de_op od_div (de_var 1) de_int) de_int)))))) dss_nil)
      (dss_one (ds_if (DW.dt (dw_or (dt_cmp (od_eq hu) (de_var 9) de_int (nomark _)) (dw_or1 (dt_cmp (od_eq hu) (de_var 8) (de_var 7) (nomark _))))) (dss_one (ds_app false 4 (de_tup (da_cons (de_var 8) (da_cons (de_var 6) da_nil))))) dss_nil))))))))))))
      (dss_one (ds_ret (de_var 4))))))), ?_⟩
  obtain ⟨c, m, n, rfl, h1, h8, q⟩ := h
  refine ⟨_, rfl, (by show (0 : Int) < 2147483629; decide), trivial, ?_⟩
  refine ⟨by show 0 ≤ sizeLine; decide, ?_⟩
  refine ⟨_, rfl, trivial, ?_⟩
  refine ⟨_, rfl, ⟨by decide, by decide, by show -(2 ^ 62) ≤ (n : Int); omega, by show (n : Int) < 2 ^ 62; omega⟩, ?_⟩
  rw [show ((n : Int) - 1).toNat = n - 1 by omega]
  refine for_rng (fun j ρ => ∃ (x y : Int) (ts : List (Nat × Nat)) (o6 o7 o8 o9 : Option D), ρ = [some (.int x), some (.int m), some (natD n), some (.int y), some (.lst (ts.map pairD)), some (.int c), o6, o7, o8, o9] ∧ (0 ≤ y ∧ y < 2147483629) ∧ TiesOk (j + 1) ts ∧ ts.length ≤ 8 * j) ?_ ?_ ?_
  · exact ⟨_, _, [], _, _, _, _, rfl, mod_lt c, ⟨(fun t h => by cases h), List.nodup_nil, (fun q h1 h2 => by omega)⟩, by simp⟩
  · rintro j _ hj ⟨x, y, ts, o6, o7, o8, o9, rfl, hy, T, hl⟩ A hA
    have hq0 : (0 : Int) < 1 + (j : Int) := by omega
    have hqn : (1 : Int) + (j : Int) < 1073741824 := by omega
    refine if_setI (fun _ => True) rfl trivial (fun Q hQ => ⟨_, rfl, _, rfl, hQ _⟩) (fun Q hQ => ⟨_, rfl, _, rfl, _, _, rfl, ⟨by omega, by omega⟩, fun v => hQ _ trivial⟩) fun x1 _ => ?_
    refine ⟨_, rfl, _, rfl, hq0, trivial, ?_⟩
    refine ⟨_, rfl, _, rfl, ⟨hq0, hqn⟩, trivial, ?_⟩
    dsimp only
    refine dSeq_of ?_
    refine if_setI (fun z => 0 ≤ z ∧ z < 1 + (j : Int)) rfl ?ok (fun Q hQ => ⟨_, rfl, (by show (0 : Int) < 2; decide), eqC ⟨_, rfl, hQ _⟩⟩) (fun Q hQ => ⟨_, rfl, ⟨by decide, by decide⟩, _, rfl, hq0, hQ _ (modOk _ _ hq0)⟩) fun z hz => ?_
    case ok => exact modOk _ _ hq0
    refine ⟨_, rfl, ⟨by show -(2 ^ 62) ≤ 1 + (j : Int); omega, by show 1 + (j : Int) < 2 ^ 62; omega⟩, ?_⟩
    rw [show ((1 : Int) + (j : Int)).toNat = j + 1 by omega]
    refine for_rng (fun p ρ => ∃ (x y : Int) (us : List (Nat × Nat)) (o8 o9 : Option D), ρ = [some (.int x), some (.int m), some (natD n), some (.int y), some (.lst ((ts ++ us).map pairD)), some (.int c), some (.int (1 + (j : Int))), some (.int z), o8, o9] ∧ (0 ≤ y ∧ y < 2147483629) ∧ (∀ t ∈ us, t.2 = j + 1 ∧ t.1 < p) ∧ us.Nodup ∧ us.length ≤ p ∧ (z < p → (z.toNat, j + 1) ∈ us)) ?_ ?_ ?_
    · exact ⟨_, _, [], _, _, by rw [List.append_nil]; rfl, hy, (fun t h => by cases h), List.nodup_nil, by simp, fun h => by omega⟩
    · rintro p _ hp ⟨x2, y2, us, p8, p9, rfl, hy2, hu, und, hul, hz2⟩ A' hA'
      refine ⟨_, rfl, (by show (0 : Int) < 2; decide), trivial, ?_⟩
      refine ⟨_, rfl, ⟨by decide, by decide⟩, trivial, ?_⟩
      have zp : (0 : Int) + (p : Int) = (p : Int) := by omega
      have fin : ∀ (E' : DEnds) (x3 y3 b : Int), E'.nx = A' → (0 ≤ y3 ∧ y3 < 2147483629) → dIfS (dOr (dTest (dOp dEq (dVar 9) (dC (D.int 1)))) (dTest (dOp dEq (dVar 8) (dVar 7)))) (dApp [0, 0, 0, 0, 1, 0, 0, 0, 0, 0] false 4 (dTup (dCons (dVar 8) (dCons (dVar 6) dNil)))) dNext E' [some (.int x3), some (.int m), some (natD n), some (.int y3), some (.lst ((ts ++ us).map pairD)), some (.int c), some (.int (1 + (j : Int))), some (.int z), some (.int (0 + (p : Int))), some (.int b)] := by
        intro E' x3 y3 b hE hy3
        have put : dApp [0, 0, 0, 0, 1, 0, 0, 0, 0, 0] false 4 (dTup (dCons (dVar 8) (dCons (dVar 6) dNil))) E' [some (.int x3), some (.int m), some (natD n), some (.int y3), some (.lst ((ts ++ us).map pairD)), some (.int c), some (.int (1 + (j : Int))), some (.int z), some (.int (0 + (p : Int))), some (.int b)] := by
          refine ⟨_, rfl, _, rfl, _, rfl, by show 2 ≤ sizeLine; decide, trivial, small1000 (by rw [List.length_map, List.length_append]; omega), ?_⟩
          rw [hE]
          refine hA' _ ⟨x3, y3, us ++ [(p, j + 1)], some (.int (0 + (p : Int))), some (.int b), ?_, hy3, ?_, ?_, by simp; omega, ?_⟩
          · have : (D.tup [.int (0 + (p : Int)), .int (1 + (j : Int))]) = pairD (p, j + 1) := by
              unfold pairD
              rw [zp, show (1 : Int) + (j : Int) = ((j + 1 : Nat) : Int) by omega]
            have e : (ts ++ (us ++ [(p, j + 1)])).map pairD = (ts ++ us).map pairD ++ [pairD (p, j + 1)] := by simp
            rw [e, ← this]
            rfl
          · intro t ht
            rcases List.mem_append.mp ht with ht | ht
            · exact ⟨(hu t ht).1, Nat.lt_succ_of_lt (hu t ht).2⟩
            · have : t = (p, j + 1) := by simpa using ht
              rw [this]; exact ⟨rfl, Nat.lt_succ_self _⟩
          · refine List.nodup_append.mpr ⟨und, by simp, fun t ht u hu' => ?_⟩
            have : u = (p, j + 1) := by simpa using hu'
            rw [this]
            intro e
            have := (hu t ht).2
            rw [e] at this
            exact Nat.lt_irrefl _ this
          · intro hzp
            by_cases e : z < p
            · exact List.mem_append_left _ (hz2 e)
            · have : z.toNat = p := by omega
              rw [this]; exact List.mem_append_right _ (by simp)
        refine ⟨_, rfl, eqC ⟨_, rfl, ite_of (fun _ => iteT put) (fun _ => ?_)⟩⟩
        refine ⟨_, rfl, _, rfl, dEq_int ⟨_, rfl, ite_of (fun _ => put) (fun e => ?_)⟩⟩
        have hne : ¬ (0 : Int) + (p : Int) = z := of_decide_eq_false e
        show E'.nx _
        rw [hE]
        refine hA' _ ⟨x3, y3, us, some (.int (0 + (p : Int))), some (.int b), rfl, hy3, fun t ht => ⟨(hu t ht).1, Nat.lt_succ_of_lt (hu t ht).2⟩, und, by omega, fun h => hz2 (by omega)⟩
      refine ⟨_, rfl, (by show (0 : Int) < 2; decide), eqC ⟨_, rfl, ite_of (fun _ => ?_) (fun _ => fin _ _ _ _ rfl hy2)⟩⟩
      refine ⟨_, rfl, _, rfl, .inl ⟨by omega, by omega⟩, _, rfl, .inl ⟨by decide, by decide⟩, _, rfl, .inl ⟨by decide, by decide⟩, _, rfl, (by show (0 : Int) < 2147483629; decide), trivial, ?_⟩
      have h2 : (0 : Int) < 2 + m / 2 % 3 := by have := Int.emod_nonneg (m / 2) (show (3 : Int) ≠ 0 by decide); omega
      have h3 : (0 : Int) < 1 + m / 2 % 3 := by have := Int.emod_nonneg (m / 2) (show (3 : Int) ≠ 0 by decide); omega
      have h4 : (1 : Int) + m / 2 % 3 < 1073741824 := by have := Int.emod_lt_of_pos (m / 2) (show (0 : Int) < 3 by decide); omega
      refine ⟨_, rfl, ⟨by decide, by decide⟩, _, rfl, ⟨by decide, by decide⟩, (by show (0 : Int) < 3; decide), h2, _, rfl, ⟨by decide, by decide⟩, (by show (0 : Int) < 3; decide), ⟨h3, h4⟩, trivial, ?_⟩
      exact fin _ _ _ _ rfl (mod_lt _)
    · rintro _ ⟨x2, y2, us, p8, p9, rfl, hy2, hu, und, hul, hz2⟩
      refine hA _ ⟨x2, y2, ts ++ us, _, _, _, _, rfl, hy2, ⟨fun t ht => ?_, ?_, fun r h1 h2 => ?_⟩, by rw [List.length_append]; omega⟩
      · rcases List.mem_append.mp ht with ht | ht
        · have := T.lt t ht; exact ⟨this.1, by omega⟩
        · have := hu t ht; exact ⟨by omega, by omega⟩
      · refine List.nodup_append.mpr ⟨T.nd, und, fun t ht u hu' e => ?_⟩
        have h1 := (T.lt t ht).2
        have h2 := (hu u hu').1
        rw [e] at h1; omega
      · by_cases e : r < j + 1
        · obtain ⟨p, hp⟩ := T.sure r h1 e
          exact ⟨p, List.mem_append_left _ hp⟩
        · have : r = j + 1 := by omega
          rw [this]
          exact ⟨_, List.mem_append_right _ (hz2 (by omega))⟩
  · rintro _ ⟨x, y, ts, o6, o7, o8, o9, rfl, hy, T, hl⟩
    refine ⟨_, rfl, q ts ?_ (by omega)⟩
    rw [show n - 1 + 1 = n by omega] at T
    exact T

theorem lcF_nil {i : Nat} : ∀ (items : List D) (ρ : DN) (acc : List D) (N : List D → Prop), acc.length + items.length ≤ sizeLine → N (acc ++ List.replicate items.length (.lst [])) → lcF (dgName i) (fLst dNil) items ρ acc N
  | [], ρ, acc, N, _, h => by
    show N acc
    simpa using h
  | x :: xs, ρ, acc, N, hz, h => by
    rw [List.length_cons] at hz
    refine ⟨by show 0 ≤ sizeLine; decide, by omega, ?_⟩
    refine lcF_nil xs _ (acc ++ [.lst []]) N (by simp; omega) ?_
    rw [List.append_assoc]
    exact h
def spTurnsL : DSp := fun ds P => ∃ (n : Nat) (ts : List (Nat × Nat)), ds = [natD n, .lst (ts.map pairD)] ∧ n ≤ 14 ∧ (∀ t ∈ ts, t.1 < t.2 ∧ t.2 < n) ∧ ts.length ≤ 100 ∧ P (webW (turnsOf n ts))
theorem nb_len (x : Nat) : ∀ ts : List (Nat × Nat), (nb ts x).length ≤ ts.length
  | [] => by simp [nb]
  | t :: ts => by
    have := nb_len x ts
    have h1 : (nbT t x).length ≤ 1 := by
      unfold nbT
      split
      · simp
      · split <;> simp
    show (nbT t x ++ nb ts x).length ≤ _
    rw [List.length_append, List.length_cons]; omega
theorem webW_set (w : W) (i : Nat) (r : List Nat) : (w.map rowW).set i (rowW r) = (w.set i r).map rowW := by rw [List.map_set]
theorem ok__law_turns {P : Program} {w : World} {mg : Str → Option Value} {base : Heap} {Z : DC} (T : Txt Z mg) : FnOk P w Z.K mg base CX0 1 T.d__law_turns.f T.d__law_turns.fd ["_law_many", "_law_ties"] (liftSp Z spTurnsL) := by
  have nd := sc__law_turns.nd
  refine fn_data T.d__law_turns.F sc__law_turns [0, 0, 2, 0, 0] (by decide) (fun ds R h => by obtain ⟨_, _, rfl, _⟩ := h; rfl) (fun cdv A outer s H E ds R hr h => ?_)
  have hu := hr.units
  refine ⟨_, (dss_cons (ds_newlcF 2 (NC := ["_law_p"]) (src := [none]) rfl nd (CompOk.of (defScope s__law_turns) rfl rfl (by decide +kernel) (by decide +kernel) (by decide +kernel)) trivial (di_range1 rfl T.B.range (da_cons (de_var 0) da_nil)) (fun _ _ _ => (dg_name 0 (show (["_law_p"] : List Str).Nodup from by decide +kernel))) (fun _ _ _ => (df_lst da_nil)))
      (dss_cons (ds_for rfl PassesOwn.never (di_list (de_var 1)) (dt_tup 2 rfl (dts_cons (dt_name 3 nd) (dts_cons (dt_name 4 nd) dts_nil'))) (dss_cons (ds_app2 false 2 (de_var 3) (de_var 4))
      (dss_one (ds_app2 false 2 (de_var 4) (de_var 3)))))
      (dss_one (ds_ret (de_var 2))))), ?_⟩
  obtain ⟨n, ts, rfl, hn, hlt, hl, q⟩ := h
  refine ⟨_, rfl, ⟨by show -(2 ^ 62) ≤ (n : Int); omega, by show (n : Int) < 2 ^ 62; omega⟩, ?_⟩
  have lr : (rangeD 0 n).length = n := by unfold rangeD; simp
  refine lcF_nil _ _ [] _ (by show 0 + (rangeD 0 n).length ≤ _; rw [lr]; exact small (by omega)) ?_
  have e0 : D.lst ([] ++ List.replicate (rangeD 0 n).length (.lst [])) = webW (List.replicate n []) := by
    unfold webW
    rw [lr, List.map_replicate]; rfl
  refine ⟨_, rfl, for_inv (fun j ρ => ∃ o3 o4, ρ = [some (natD n), some (.lst (ts.map pairD)), some (webW (turnsOf n (ts.take j))), o3, o4]) ⟨_, _, by rw [← show _ = webW (turnsOf n (ts.take 0)) from e0]; rfl⟩ ?_ ?_⟩
  · rintro j d _ hd ⟨o3, o4, rfl⟩ A hA
    obtain ⟨t, ht, rfl⟩ := map_get hd
    obtain ⟨p, r⟩ := t
    obtain ⟨h1, h2⟩ := hlt _ (List.mem_of_getElem? ht)
    have h1 : p < r := h1
    have h2 : r < n := h2
    generalize hw : turnsOf n (ts.take j) = w'
    have lw : w'.length = n := by rw [← hw, turnsOf_len]
    have rl : ∀ x, (row w' x).length ≤ 100 := fun x => by
      rw [← hw, row_turns (fun t ht => hlt t (List.mem_of_mem_take ht))]
      have := nb_len x (ts.take j)
      rw [List.length_take] at this
      omega
    have lm : ∀ v : W, (v.map rowW).length = v.length := fun v => List.length_map _
    refine ⟨rfl, rfl, ?_⟩
    refine ⟨_, rfl, _, rfl, _, p, _, rfl, by rw [lm, lw]; exact ixN_natD (by omega), web_row (by omega), _, rfl, trivial, small1000 (by rw [List.length_map]; have := rl p; omega), ?_⟩
    have er : (.lst ((row w' p).map natD ++ [.int ((r : Nat) : Int)]) : D) = rowW (row w' p ++ [r]) := by unfold rowW; rw [List.map_append]; rfl
    have e1 : (w'.map rowW).set p (.lst ((row w' p).map natD ++ [.int ((r : Nat) : Int)])) = (w'.set p (row w' p ++ [r])).map rowW := by rw [er, webW_set]
    have lw1 : (w'.set p (row w' p ++ [r])).length = n := by rw [List.length_set, lw]
    have rl1 : (row (w'.set p (row w' p ++ [r])) r).length ≤ 101 := by
      rw [row_set' _ _ _ _ (by omega), if_neg (by omega)]
      have := rl r
      omega
    refine ⟨(w'.set p (row w' p ++ [r])).map rowW, by rw [← e1]; rfl, _, rfl, _, r, _, rfl, by rw [lm, lw1]; exact ixN_natD h2, web_row (by omega), _, rfl, trivial, small1000 (by rw [List.length_map]; omega), ?_⟩
    refine hA _ ⟨some (.int ((p : Nat) : Int)), some (.int ((r : Nat) : Int)), ?_⟩
    have er2 : (.lst ((row (w'.set p (row w' p ++ [r])) r).map natD ++ [.int ((p : Nat) : Int)]) : D) = rowW (row (w'.set p (row w' p ++ [r])) r ++ [p]) := by unfold rowW; rw [List.map_append]; rfl
    rw [er2, webW_set]
    have : turnsOf n (ts.take (j + 1)) = addTie w' (p, r) := by
      unfold turnsOf at hw ⊢
      rw [List.take_succ, ht, Option.toList_some, List.foldl_append, hw]; rfl
    rw [this]
    rfl
  · rintro _ ⟨o3, o4, rfl⟩
    rw [List.length_map, List.take_length]
    exact ⟨_, rfl, q⟩
end K82

set_option Elab.async false
set_option linter.all false
set_option maxRecDepth 100000
set_option maxHeartbeats 4000000
namespace K82
open PySem L2 Wb
open Wy
theorem pyAll_map {α : Type} {f : α → D} {g : α → PyData} (h : ∀ a, (f a).py = some (g a)) : ∀ l : List α, pyAll (l.map f) = some (l.map g)
  | [] => rfl
  | a :: l => by
    have := pyAll_map h l
    rw [List.map_cons, pyAll, h a, this]; rfl
theorem pyAll_ints (l : List Int) : pyAll (intsD l) = some (l.map PyData.int) := pyAll_map (f := D.int) (g := PyData.int) (fun _ => rfl) l
theorem depth_ints (l : List Int) : (PyData.list (l.map PyData.int)).depth ≤ 64 := by
  rw [PyData.depth]
  have := depthAll_map (f := PyData.int) (k := 1) (fun n => by simp [PyData.depth]) l
  omega
theorem eqv_int (a b : Int) : PyData.eqv (.int a) (.int b) = true ↔ a = b := by simp [PyData.eqv]
theorem dEq_ints {l m : List Int} {P : D → Prop} (h : P (.bl (decide (l = m)))) : dEq (.lst (intsD l)) (.lst (intsD m)) P := by
  refine ⟨.list (l.map PyData.int), .list (m.map PyData.int), by rw [D.py, pyAll_ints]; rfl, by rw [D.py, pyAll_ints]; rfl, depth_ints l, ?_⟩
  have : PyData.eqv (.list (l.map PyData.int)) (.list (m.map PyData.int)) = decide (l = m) := by
    rw [PyData.eqv]
    by_cases e : l = m
    · rw [decide_eq_true e]; exact (eqvAll_map eqv_int l m).mpr e
    · rw [decide_eq_false e]
      apply Bool.eq_false_iff.mpr
      exact fun z => e ((eqvAll_map eqv_int l m).mp z)
  rw [if_neg Bool.false_ne_true, this]; exact h
theorem py_row (r : List Nat) : (rowW r).py = some (rowD r) := by
  unfold rowW rowD
  rw [D.py, pyAll_map (g := nD) (fun n => rfl)]; rfl
end K82

set_option Elab.async false
set_option linter.all false
set_option maxRecDepth 100000
set_option maxHeartbeats 4000000
namespace K82
open PySem L2 Wb
open Wy
theorem for_rng0 {g : DTG} {tb : DTS} {E : DEnds} {n : Nat} {ρ : DN} (I : Nat → DN → Prop) (h0 : I 0 ρ) (hs : ∀ (j : Nat) (ρ : DN), j < n → I j ρ → ∀ A : DN → Prop, (∀ ρ, I (j + 1) ρ → A ρ) → g (natD j) ρ fun ρ1 => tb { nx := A, ct := A, bk := E.nx, rt := E.rt } ρ1)
    (he : ∀ ρ, I n ρ → E.nx ρ) : forW g tb E (rangeD 0 n) ρ := for_rng I h0 (fun j ρ hj h A hA => by
  have := hs j ρ hj h A hA
  unfold natD at this
  rw [Int.zero_add]; exact this) he
theorem lt_idx {x : Nat} : ∀ (ns : List Nat) (m : Nat), m < ns.idxOf x → ns[m]? ≠ some x
  | [], m, h => by simp at h
  | a :: ns, m, h => by
    rw [List.idxOf_cons] at h
    by_cases e : (a == x) = true
    · rw [e] at h; simp at h
    · rw [Bool.eq_false_iff.mpr e] at h
      cases m with
      | zero => intro z; simp at z; exact e (by simp [z])
      | succ m => rw [List.getElem?_cons_succ]; exact lt_idx ns m (by simpa using h)
theorem index_nat {ns : List Nat} {x : Nat} {P : D → Prop} (h : x ∈ ns) (q : P (natD (ns.idxOf x))) : flatD (natD x) = true ∧ (ns.map natD).all flatD = true ∧ ∃ (j : Nat) (z : D), (ns.map natD)[j]? = some z ∧ eqFD z (natD x) = true ∧ (∀ (m : Nat) z, m < j → (ns.map natD)[m]? = some z → eqFD z (natD x) = false) ∧ P (.int (j : Nat)) := by
  have hl := List.idxOf_lt_length_iff.mpr h
  have e : ns[ns.idxOf x]? = some x := by rw [List.getElem?_eq_getElem hl]; exact congrArg some (List.getElem_idxOf hl)
  refine ⟨rfl, flat_nat _, ns.idxOf x, natD x, by rw [List.getElem?_map, e]; rfl, by simp [eqFD, natD], fun m z hm hz => ?_, q⟩
  obtain ⟨y, hy, rfl⟩ := map_get hz
  have : y ≠ x := by
    rintro rfl
    exact lt_idx _ _ hm hy
  have : ¬ ((y : Int) = (x : Int)) := by omega
  simpa [eqFD, natD] using this
theorem range_map (n : Nat) : rangeD 0 n = (List.range n).map fun (x : Nat) => natD x := by unfold rangeD natD; simp
theorem row_atI {w : W} {p : Nat} (h : p < w.length) : atI (w.map rowW) (p : Int) = some (rowW (row w p)) := atI_natD (web_row h)
theorem nat_atI {ns : List Nat} {p : Nat} (h : p < ns.length) : atI (ns.map natD) (p : Int) = some (natD (ns.getD p 0)) := atI_natD (by rw [List.getElem?_map, List.getD_eq_getElem?_getD, List.getElem?_eq_getElem h]; rfl)
theorem int_atI {l : List Int} {p : Nat} (h : p < l.length) : atI (intsD l) (p : Int) = some (.int (l.getD p 0)) := atI_natD (intsD_get h)
theorem py_pair (t : Nat × Nat) : (pairD t).py = some (.tuple [.int (t.1 : Nat), .int (t.2 : Nat)]) := rfl
theorem index_facts {ns : List Nat} {x : Nat} (h : x ∈ ns) : (ns.map natD)[ns.idxOf x]? = some (natD x) ∧ eqFD (natD x) (natD x) = true ∧ ∀ (m : Nat) z, m < ns.idxOf x → (ns.map natD)[m]? = some z → eqFD z (natD x) = false := by
  have := index_nat (P := fun d => d = natD (ns.idxOf x)) h rfl
  obtain ⟨_, _, j, z, h1, h2, h3, h4⟩ := this
  have hl := List.idxOf_lt_length_iff.mpr h
  have e : ns[ns.idxOf x]? = some x := by rw [List.getElem?_eq_getElem hl]; exact congrArg some (List.getElem_idxOf hl)
  refine ⟨by rw [List.getElem?_map, e]; rfl, by simp [eqFD, natD], fun m z hm hz => ?_⟩
  obtain ⟨y, hy, rfl⟩ := map_get hz
  have : y ≠ x := by
    rintro rfl
    exact lt_idx _ _ hm hy
  have : ¬ ((y : Int) = (x : Int)) := by omega
  simpa [eqFD, natD] using this
end K82

set_option linter.all false
set_option maxRecDepth 100000
/-! ties taken away, points made one: the ways -/
namespace Wy
open Wb Ws
structure TO (m : Nat) (ts : List (Nat × Nat)) : Prop where
  lt : ∀ t ∈ ts, t.1 < t.2 ∧ t.2 < m
  nd : ts.Nodup
theorem TO.lt1 {m : Nat} {ts : List (Nat × Nat)} (T : TO m ts) : ∀ t ∈ ts, t.1 < t.2 := fun t h => (T.lt t h).1
theorem TO.row {m : Nat} {ts : List (Nat × Nat)} (T : TO m ts) {x y : Nat} : y ∈ row (turnsOf m ts) x ↔ (x, y) ∈ ts ∨ (y, x) ∈ ts := by
  rw [row_turns T.lt, mem_nb T.lt1]
theorem TO.sym {m : Nat} {ts : List (Nat × Nat)} (T : TO m ts) (x y : Nat) (h : y ∈ Wb.row (turnsOf m ts) x) : x ∈ Wb.row (turnsOf m ts) y := by
  rw [T.row] at h ⊢
  exact h.symm
theorem TO.good {m : Nat} {ts : List (Nat × Nat)} (T : TO m ts) (con : ∀ p, p < m → Reach (turnsOf m ts) 0 p) : Good (turnsOf m ts) := by
  refine ⟨fun p q h => ?_, fun p h => ?_, fun p => by rw [row_turns T.lt]; exact nd_nb T.lt1 T.nd, T.sym, fun p hp => con p (by rw [turnsOf_len] at hp; exact hp)⟩
  · rw [T.row] at h
    rw [turnsOf_len]
    rcases h with h | h
    · exact (T.lt _ h).2
    · have := T.lt _ h; simp at this; omega
  · rw [T.row] at h
    rcases h with h | h <;> (have := T.lt1 _ h; simp at this)
theorem TO.dyl {m k : Nat} {ts : List (Nat × Nat)} (T : TO m ts) (r : List Nat) : r ∈ dyl (Wb.row (turnsOf m ts)) k m ↔ r.length = m ∧ (∀ i, i < m → r.getD i 0 < k) ∧ ∀ t ∈ ts, r.getD t.1 0 ≠ r.getD t.2 0 := by
  rw [mem_dyl]
  constructor
  · rintro ⟨hl, h⟩
    refine ⟨hl, fun i hi => (h i hi).1, fun t ht => ?_⟩
    have := T.lt t ht
    exact (h t.2 this.2).2 t.1 (T.row.mpr (.inr ht)) this.1
  · rintro ⟨hl, h1, h2⟩
    refine ⟨hl, fun i hi => ⟨h1 i hi, fun x hx hlt => ?_⟩⟩
    rcases T.row.mp hx with h | h
    · have := T.lt1 _ h; simp at this; omega
    · exact h2 _ h
/-! ### some of the points -/
structure Pts (n : Nat) (pts : List Nat) : Prop where
  up : pts.Pairwise (· < ·)
  lt : ∀ x ∈ pts, x < n
theorem Pts.nd {n : Nat} {pts : List Nat} (P : Pts n pts) : pts.Nodup := P.up.imp fun h => by omega
theorem idxG {pts : List Nat} {x : Nat} (h : x ∈ pts) : pts.getD (pts.idxOf x) 0 = x ∧ pts.idxOf x < pts.length := by
  have hl := List.idxOf_lt_length_iff.mpr h
  refine ⟨?_, hl⟩
  rw [List.getD_eq_getElem?_getD, List.getElem?_eq_getElem hl]
  exact List.getElem_idxOf hl
theorem idxI {pts : List Nat} (nd : pts.Nodup) {i : Nat} (h : i < pts.length) : pts.idxOf (pts.getD i 0) = i := by
  rw [List.getD_eq_getElem?_getD, List.getElem?_eq_getElem h]
  exact nd.idxOf_getElem i h
theorem getM {pts : List Nat} {i : Nat} (h : i < pts.length) : pts.getD i 0 ∈ pts := getD_mem h
theorem Pts.mono {n : Nat} {pts : List Nat} (P : Pts n pts) {i j : Nat} (h : i < j) (hj : j < pts.length) : pts.getD i 0 < pts.getD j 0 := by
  have := List.pairwise_iff_getElem.mp P.up i j (by omega) hj h
  rw [List.getD_eq_getElem?_getD, List.getElem?_eq_getElem (by omega), List.getD_eq_getElem?_getD, List.getElem?_eq_getElem hj]
  exact this
theorem Pts.idx_lt {n : Nat} {pts : List Nat} (P : Pts n pts) {x y : Nat} (hx : x ∈ pts) (hy : y ∈ pts) (h : x < y) : pts.idxOf x < pts.idxOf y := by
  apply Classical.byContradiction
  intro hn
  have a := idxG hx
  have b := idxG hy
  by_cases e : pts.idxOf y = pts.idxOf x
  · rw [e] at b; omega
  · have := P.mono (i := pts.idxOf y) (j := pts.idxOf x) (by omega) a.2
    omega
theorem idx_inj {pts : List Nat} {x y : Nat} (hx : x ∈ pts) (hy : y ∈ pts) (e : pts.idxOf x = pts.idxOf y) : x = y := by
  have a := (idxG hx).1
  have b := (idxG hy).1
  rw [e, b] at a
  exact a.symm
def subT (pts : List Nat) (ts : List (Nat × Nat)) : List (Nat × Nat) := (ts.filter fun t => decide (t.1 ∈ pts)).map fun t => (pts.idxOf t.1, pts.idxOf t.2)
theorem subT_mem {pts : List Nat} {ts : List (Nat × Nat)} {u : Nat × Nat} : u ∈ subT pts ts ↔ ∃ t ∈ ts, t.1 ∈ pts ∧ u = (pts.idxOf t.1, pts.idxOf t.2) := by
  unfold subT
  rw [List.mem_map]
  constructor
  · rintro ⟨t, ht, rfl⟩
    rw [List.mem_filter] at ht
    exact ⟨t, ht.1, by simpa using ht.2, rfl⟩
  · rintro ⟨t, h1, h2, rfl⟩
    exact ⟨t, List.mem_filter.mpr ⟨h1, by simpa using h2⟩, rfl⟩
theorem subT_ok {n : Nat} {pts : List Nat} {ts : List (Nat × Nat)} (P : Pts n pts) (lt : ∀ t ∈ ts, t.1 < t.2) (nd : ts.Nodup) (cl : ∀ t ∈ ts, t.1 ∈ pts → t.2 ∈ pts) : TO pts.length (subT pts ts) := by
  refine ⟨fun u hu => ?_, ?_⟩
  · obtain ⟨t, h1, h2, rfl⟩ := subT_mem.mp hu
    exact ⟨P.idx_lt h2 (cl t h1 h2) (lt t h1), (idxG (cl t h1 h2)).2⟩
  · refine nd_map _ (nd.filter _) fun a ha b hb e => ?_
    rw [List.mem_filter] at ha hb
    have a1 : a.1 ∈ pts := by simpa using ha.2
    have b1 : b.1 ∈ pts := by simpa using hb.2
    have e1 := idx_inj a1 b1 (congrArg Prod.fst e)
    have e2 := idx_inj (cl a ha.1 a1) (cl b hb.1 b1) (congrArg Prod.snd e)
    exact Prod.ext e1 e2
/-- the way from one point to another, by the new numbers -/
theorem sub_reach {n : Nat} {pts : List Nat} {ts : List (Nat × Nat)} (T : TO n ts) (P : Pts n pts) (cl : ∀ t ∈ ts, t.1 ∈ pts ↔ t.2 ∈ pts) {p q : Nat} (hp : p ∈ pts) (h : Reach (turnsOf n ts) p q) : q ∈ pts ∧ Reach (turnsOf pts.length (subT pts ts)) (pts.idxOf p) (pts.idxOf q) := by
  have T' := subT_ok P T.lt1 T.nd (fun t ht => (cl t ht).mp)
  induction h with
  | refl => exact ⟨hp, .refl _⟩
  | @step x y hr hy ih =>
    obtain ⟨hx, ih⟩ := ih
    rcases T.row.mp hy with h | h
    · have hy' := (cl _ h).mp hx
      exact ⟨hy', .step ih (T'.row.mpr (.inl (subT_mem.mpr ⟨_, h, hx, rfl⟩)))⟩
    · have hy' := (cl _ h).mpr hx
      exact ⟨hy', .step ih (T'.row.mpr (.inr (subT_mem.mpr ⟨_, h, hy', rfl⟩)))⟩
def res (pts c : List Nat) : List Nat := pts.map fun p => c.getD p 0
theorem res_get {pts c : List Nat} {p : Nat} (h : p ∈ pts) : (res pts c).getD (pts.idxOf p) 0 = c.getD p 0 := by
  unfold res
  rw [List.getD_eq_getElem?_getD, List.getElem?_map, List.getElem?_eq_getElem (idxG h).2, List.getElem_idxOf]; rfl
theorem res_at {pts c : List Nat} {i : Nat} (h : i < pts.length) : (res pts c).getD i 0 = c.getD (pts.getD i 0) 0 := by
  unfold res
  rw [List.getD_eq_getElem?_getD, List.getElem?_map, List.getElem?_eq_getElem h, List.getD_eq_getElem?_getD (l := pts), List.getElem?_eq_getElem h]; rfl
theorem rng_at (φ : Nat → Nat) {n x : Nat} (h : x < n) : ((List.range n).map φ).getD x 0 = φ x := by
  rw [List.getD_eq_getElem?_getD, List.getElem?_map, List.getElem?_range h]; rfl
theorem ext_getD {a b : List Nat} (hl : a.length = b.length) (h : ∀ i, i < a.length → a.getD i 0 = b.getD i 0) : a = b := by
  refine List.ext_getElem hl fun i h1 h2 => ?_
  have := h i h1
  rw [List.getD_eq_getElem?_getD, List.getElem?_eq_getElem h1, List.getD_eq_getElem?_getD, List.getElem?_eq_getElem h2] at this
  exact this
/-- two parts -/
theorem two_parts {n k : Nat} {ts : List (Nat × Nat)} {p1 p2 : List Nat} (T : TO n ts) (P1 : Pts n p1) (P2 : Pts n p2) (c1 : ∀ t ∈ ts, t.1 ∈ p1 ↔ t.2 ∈ p1) (cov : ∀ p, p < n → (p ∈ p1 ↔ p ∉ p2)) :
    (dyl (row (turnsOf n ts)) k n).length = (dyl (row (turnsOf p1.length (subT p1 ts))) k p1.length).length * (dyl (row (turnsOf p2.length (subT p2 ts))) k p2.length).length := by
  have c2 : ∀ t ∈ ts, t.1 ∈ p2 ↔ t.2 ∈ p2 := fun t ht => by
    have := T.lt t ht
    have a := cov t.1 (by omega)
    have b := cov t.2 this.2
    have := c1 t ht
    constructor
    · intro h
      apply Classical.byContradiction
      intro hn
      exact a.mp (this.mpr (b.mpr hn)) h
    · intro h
      apply Classical.byContradiction
      intro hn
      exact b.mp (this.mp (a.mpr hn)) h
  have T1 := subT_ok P1 T.lt1 T.nd (fun t ht => (c1 t ht).mp)
  have T2 := subT_ok P2 T.lt1 T.nd (fun t ht => (c2 t ht).mp)
  generalize hA : dyl (row (turnsOf p1.length (subT p1 ts))) k p1.length = A
  generalize hB : dyl (row (turnsOf p2.length (subT p2 ts))) k p2.length = B
  have ndA : A.Nodup := hA ▸ dyl_nodup _ _ _
  have ndB : B.Nodup := hB ▸ dyl_nodup _ _ _
  have memA : ∀ r, r ∈ A ↔ r.length = p1.length ∧ (∀ i, i < p1.length → r.getD i 0 < k) ∧ ∀ t ∈ subT p1 ts, r.getD t.1 0 ≠ r.getD t.2 0 := fun r => by rw [← hA]; exact T1.dyl r
  have memB : ∀ r, r ∈ B ↔ r.length = p2.length ∧ (∀ i, i < p2.length → r.getD i 0 < k) ∧ ∀ t ∈ subT p2 ts, r.getD t.1 0 ≠ r.getD t.2 0 := fun r => by rw [← hB]; exact T2.dyl r
  let glue : List Nat → List Nat → List Nat := fun r s => (List.range n).map fun p => if p ∈ p1 then r.getD (p1.idxOf p) 0 else s.getD (p2.idxOf p) 0
  have g1 : ∀ r s p, p ∈ p1 → (glue r s).getD p 0 = r.getD (p1.idxOf p) 0 := fun r s p hp => by
    show ((List.range n).map _).getD p 0 = _
    rw [rng_at _ (P1.lt p hp), if_pos hp]
  have g2 : ∀ r s p, p ∈ p2 → (glue r s).getD p 0 = s.getD (p2.idxOf p) 0 := fun r s p hp => by
    have hn : p ∉ p1 := fun h => (cov p (P2.lt p hp)).mp h hp
    show ((List.range n).map _).getD p 0 = _
    rw [rng_at _ (P2.lt p hp), if_neg hn]
  have inv1 : ∀ r s, r.length = p1.length → res p1 (glue r s) = r := fun r s hl => by
    refine ext_getD (by unfold res; simp [hl]) fun i hi => ?_
    have hi' : i < p1.length := by unfold res at hi; simpa using hi
    rw [res_at hi', g1 _ _ _ (getM hi'), idxI P1.nd hi']
  have inv2 : ∀ r s, s.length = p2.length → res p2 (glue r s) = s := fun r s hl => by
    refine ext_getD (by unfold res; simp [hl]) fun i hi => ?_
    have hi' : i < p2.length := by unfold res at hi; simpa using hi
    rw [res_at hi', g2 _ _ _ (getM hi'), idxI P2.nd hi']
  have e : (dyl (row (turnsOf n ts)) k n).length = (A.flatMap fun r => B.map fun s => glue r s).length := by
    refine perm_len (dyl_nodup _ _ _) ?_ fun c => ?_
    · unfold List.Nodup
      rw [List.pairwise_flatMap]
      refine ⟨fun r hr => ?_, ?_⟩
      · rw [List.pairwise_map]
        refine List.Pairwise.imp_of_mem (fun {a b} ha hb h e => h ?_) ndB
        rw [← inv2 r a ((memB a).mp ha).1, e, inv2 r b ((memB b).mp hb).1]
      · refine List.Pairwise.imp_of_mem (fun {a b} ha hb h x hx y hy e => h ?_) ndA
        obtain ⟨s, hs, rfl⟩ := List.mem_map.mp hx
        obtain ⟨t, ht, rfl⟩ := List.mem_map.mp hy
        rw [← inv1 a s ((memA a).mp ha).1, e, inv1 b t ((memA b).mp hb).1]
    · rw [T.dyl, List.mem_flatMap]
      constructor
      · rintro ⟨hl, h1, h2⟩
        refine ⟨res p1 c, (memA _).mpr ⟨by unfold res; simp, fun i hi => ?_, fun u hu => ?_⟩, List.mem_map.mpr ⟨res p2 c, (memB _).mpr ⟨by unfold res; simp, fun i hi => ?_, fun u hu => ?_⟩, ?_⟩⟩
        · rw [res_at hi]; exact h1 _ (P1.lt _ (getM hi))
        · obtain ⟨t, ht, hm, rfl⟩ := subT_mem.mp hu
          rw [res_get hm, res_get ((c1 t ht).mp hm)]
          exact h2 t ht
        · rw [res_at hi]; exact h1 _ (P2.lt _ (getM hi))
        · obtain ⟨t, ht, hm, rfl⟩ := subT_mem.mp hu
          rw [res_get hm, res_get ((c2 t ht).mp hm)]
          exact h2 t ht
        · refine ext_getD (by show ((List.range n).map _).length = _; simp [hl]) fun i hi => ?_
          have hi : i < n := by
            have : (glue (res p1 c) (res p2 c)).length = n := by show ((List.range n).map _).length = _; simp
            omega
          by_cases m : i ∈ p1
          · rw [g1 _ _ _ m, res_get m]
          · have m2 : i ∈ p2 := by
              apply Classical.byContradiction
              exact fun z => m ((cov i hi).mpr z)
            rw [g2 _ _ _ m2, res_get m2]
      · rintro ⟨r, hr, hc⟩
        obtain ⟨s, hs, rfl⟩ := List.mem_map.mp hc
        obtain ⟨rl, r1, r2⟩ := (memA r).mp hr
        obtain ⟨sl, s1, s2⟩ := (memB s).mp hs
        refine ⟨by show ((List.range n).map _).length = _; simp, fun i hi => ?_, fun t ht => ?_⟩
        · by_cases m : i ∈ p1
          · rw [g1 _ _ _ m]; exact r1 _ (idxG m).2
          · have m2 : i ∈ p2 := by
              apply Classical.byContradiction
              exact fun z => m ((cov i hi).mpr z)
            rw [g2 _ _ _ m2]; exact s1 _ (idxG m2).2
        · by_cases m : t.1 ∈ p1
          · rw [g1 _ _ _ m, g1 _ _ _ ((c1 t ht).mp m)]
            exact r2 _ (subT_mem.mpr ⟨t, ht, m, rfl⟩)
          · have lt := T.lt t ht
            have m2 : t.1 ∈ p2 := by
              apply Classical.byContradiction
              exact fun z => m ((cov t.1 (by omega)).mpr z)
            rw [g2 _ _ _ m2, g2 _ _ _ ((c2 t ht).mp m2)]
            exact s2 _ (subT_mem.mpr ⟨t, ht, m2, rfl⟩)
  rw [e]
  have : ((A.flatMap fun r => B.map fun s => glue r s).length : Int) = (A.length : Int) * B.length := by
    rw [← S_one, S_flat]
    have : (fun (r : List Nat) => S (fun _ => (1 : Int)) (B.map fun s => glue r s)) = fun _ => (B.length : Int) := by
      funext r
      rw [S_one, List.length_map]
    rw [this, S_const]
  exact_mod_cast this
/-! ### two points made one -/
def one1 (a b p : Nat) : Nat := if p = b then a else p
structure Merged (n a b : Nat) (ts found : List (Nat × Nat)) : Prop where
  lt : ∀ t ∈ found, t.1 < t.2 ∧ t.2 < n ∧ t.1 ≠ b ∧ t.2 ≠ b
  nd : found.Nodup
  of : ∀ u ∈ found, ∃ t ∈ ts, (one1 a b t.1 = u.1 ∧ one1 a b t.2 = u.2) ∨ (one1 a b t.1 = u.2 ∧ one1 a b t.2 = u.1)
  all : ∀ t ∈ ts, one1 a b t.1 = one1 a b t.2 ∨ (one1 a b t.1, one1 a b t.2) ∈ found ∨ (one1 a b t.2, one1 a b t.1) ∈ found
def butP (n b : Nat) : List Nat := (List.range n).filter fun p => decide (p ≠ b)
theorem butP_mem {n b p : Nat} : p ∈ butP n b ↔ p < n ∧ p ≠ b := by unfold butP; rw [List.mem_filter, List.mem_range]; simp
theorem butP_pts (n b : Nat) : Pts n (butP n b) := ⟨List.pairwise_lt_range.filter _, fun x hx => (butP_mem.mp hx).1⟩
theorem butP_len {n b : Nat} (h : b < n) : (butP n b).length + 1 = n := by
  have h1 := len_part (fun p => decide (p ≠ b)) (List.range n)
  rw [List.length_range] at h1
  have h2 : (List.range n).filter (fun p => !decide (p ≠ b)) = [b] := by
    have : (List.range n).filter (fun p => !decide (p ≠ b)) = (List.range n).filter (fun p => decide (p ∈ [b])) := List.filter_congr fun x _ => by simp
    rw [this]
    exact List.perm_singleton.mp (range_filter (c := [b]) (by simp) (by simpa using h))
  rw [h2] at h1
  exact h1
theorem Merged.sub {n a b : Nat} {ts found : List (Nat × Nat)} (M : Merged n a b ts found) : TO (butP n b).length (subT (butP n b) found) :=
  subT_ok (butP_pts n b) (fun t h => (M.lt t h).1) M.nd fun t h _ => butP_mem.mpr ⟨(M.lt t h).2.1, (M.lt t h).2.2.2⟩
theorem made_one {n k a b : Nat} {ts found : List (Nat × Nat)} (T : TO n ts) (he : (a, b) ∈ ts) (M : Merged n a b ts found) :
    (dyl (row (turnsOf n (ts.filter fun t => decide (t ≠ (a, b))))) k n).length = (dyl (row (turnsOf n ts)) k n).length + (dyl (row (turnsOf (butP n b).length (subT (butP n b) found))) k (butP n b).length).length := by
  have hab := T.lt _ he
  have hab1 : a < b := hab.1
  have hab2 : b < n := hab.2
  have TL : TO n (ts.filter fun t => decide (t ≠ (a, b))) := ⟨fun t h => T.lt t (List.mem_filter.mp h).1, T.nd.filter _⟩
  have TM := M.sub
  have leftm : ∀ t, t ∈ ts.filter (fun t => decide (t ≠ (a, b))) ↔ t ∈ ts ∧ t ≠ (a, b) := fun t => by rw [List.mem_filter]; simp
  have oneP : ∀ p, p < n → one1 a b p ∈ butP n b := fun p hp => by
    rw [butP_mem]; unfold one1
    split <;> omega
  rw [← len_part (fun c => decide (c.getD a 0 ≠ c.getD b 0))]
  congr 1
  · refine perm_len ((dyl_nodup _ _ _).filter _) (dyl_nodup _ _ _) fun c => ?_
    rw [List.mem_filter, TL.dyl, T.dyl]
    constructor
    · rintro ⟨⟨hl, h1, h2⟩, h3⟩
      refine ⟨hl, h1, fun t ht => ?_⟩
      by_cases e : t = (a, b)
      · rw [e]; simpa using h3
      · exact h2 t ((leftm t).mpr ⟨ht, e⟩)
    · rintro ⟨hl, h1, h2⟩
      exact ⟨⟨hl, h1, fun t ht => h2 t ((leftm t).mp ht).1⟩, by simpa using h2 _ he⟩
  · let expand : List Nat → List Nat := fun r => (List.range n).map fun p => r.getD ((butP n b).idxOf (one1 a b p)) 0
    have ga : ∀ r p, p < n → (expand r).getD p 0 = r.getD ((butP n b).idxOf (one1 a b p)) 0 := fun r p hp => rng_at _ hp
    have selfP : ∀ p, p ∈ butP n b → one1 a b p = p := fun p hp => by unfold one1; rw [if_neg (butP_mem.mp hp).2]
    have inv : ∀ r, r.length = (butP n b).length → res (butP n b) (expand r) = r := fun r hl => by
      refine ext_getD (by unfold res; simp [hl]) fun i hi => ?_
      have hi' : i < (butP n b).length := by unfold res at hi; simpa using hi
      have m := getM hi'
      rw [res_at hi', ga _ _ (butP_mem.mp m).1, selfP _ m, idxI (butP_pts n b).nd hi']
    have e : ((dyl (row (turnsOf (butP n b).length (subT (butP n b) found))) k (butP n b).length).map expand).length = ((dyl (row (turnsOf n (ts.filter fun t => decide (t ≠ (a, b))))) k n).filter fun c => !decide (c.getD a 0 ≠ c.getD b 0)).length := by
      refine perm_len ?_ ((dyl_nodup _ _ _).filter _) fun c => ?_
      · unfold List.Nodup
        rw [List.pairwise_map]
        refine List.Pairwise.imp_of_mem (fun {x y} hx hy h e => h ?_) (dyl_nodup _ _ _)
        rw [← inv x (dyl_len _ _ _ _ hx), e, inv y (dyl_len _ _ _ _ hy)]
      · rw [List.mem_map, List.mem_filter, TL.dyl]
        constructor
        · rintro ⟨r, hr, rfl⟩
          obtain ⟨rl, r1, r2⟩ := (TM.dyl r).mp hr
          have eab : (expand r).getD a 0 = (expand r).getD b 0 := by
            rw [ga _ _ (by omega), ga _ _ hab2]
            unfold one1
            rw [if_neg (by omega), if_pos rfl]
          refine ⟨⟨by show ((List.range n).map _).length = _; simp, fun i hi => ?_, fun t ht => ?_⟩, by simpa using eab⟩
          · rw [ga _ _ hi]; exact r1 _ (idxG (oneP i hi)).2
          · obtain ⟨h1, h2⟩ := (leftm t).mp ht
            have lt := T.lt t h1
            rw [ga _ _ (by omega), ga _ _ lt.2]
            rcases M.all t h1 with h | h | h
            · exfalso
              unfold one1 at h
              by_cases z1 : t.1 = b
              · rw [if_pos z1] at h
                split at h <;> omega
              · rw [if_neg z1] at h
                by_cases z2 : t.2 = b
                · rw [if_pos z2] at h
                  exact h2 (Prod.ext h z2)
                · rw [if_neg z2] at h; omega
            · exact r2 _ (subT_mem.mpr ⟨_, h, oneP _ (by omega), rfl⟩)
            · exact (r2 _ (subT_mem.mpr ⟨_, h, oneP _ lt.2, rfl⟩)).symm
        · rintro ⟨⟨hl, h1, h2⟩, h3⟩
          have eab : c.getD a 0 = c.getD b 0 := by simpa using h3
          have one_c : ∀ p, c.getD (one1 a b p) 0 = c.getD p 0 := fun p => by
            unfold one1
            split
            · rename_i z; rw [z]; exact eab
            · rfl
          refine ⟨res (butP n b) c, (TM.dyl _).mpr ⟨by unfold res; simp, fun i hi => ?_, fun u hu => ?_⟩, ?_⟩
          · rw [res_at hi]; exact h1 _ (butP_mem.mp (getM hi)).1
          · obtain ⟨v, hv, hm, rfl⟩ := subT_mem.mp hu
            have lv := M.lt v hv
            rw [res_get hm, res_get (butP_mem.mpr ⟨lv.2.1, lv.2.2.2⟩)]
            obtain ⟨t, ht, h⟩ := M.of v hv
            have hne : t ≠ (a, b) := by
              rintro rfl
              have e1 : one1 a b a = a := by unfold one1; rw [if_neg (by omega)]
              have e2 : one1 a b b = a := by unfold one1; rw [if_pos rfl]
              rcases h with ⟨x, y⟩ | ⟨x, y⟩ <;> (simp only [e1, e2] at x y; omega)
            have := h2 t ((leftm t).mpr ⟨ht, hne⟩)
            rcases h with ⟨x, y⟩ | ⟨x, y⟩
            · rw [← x, ← y, one_c, one_c]; exact this
            · rw [← x, ← y, one_c, one_c]; exact this.symm
          · refine ext_getD (by show ((List.range n).map _).length = _; simp [hl]) fun i hi => ?_
            have hi : i < n := by
              have : (expand (res (butP n b) c)).length = n := by show ((List.range n).map _).length = _; simp
              omega
            rw [ga _ _ hi, res_get (oneP i hi), one_c]
    rw [← e, List.length_map]
theorem Merged.reach {n a b : Nat} {ts found : List (Nat × Nat)} (T : TO n ts) (he : (a, b) ∈ ts) (M : Merged n a b ts found) {p q : Nat} (hp : p < n) (h : Reach (turnsOf n ts) p q) :
    Reach (turnsOf (butP n b).length (subT (butP n b) found)) ((butP n b).idxOf (one1 a b p)) ((butP n b).idxOf (one1 a b q)) := by
  have hab := T.lt _ he
  have hab1 : a < b := hab.1
  have hab2 : b < n := hab.2
  have TM := M.sub
  have oneP : ∀ p, p < n → one1 a b p ∈ butP n b := fun p hp => by
    rw [butP_mem]; unfold one1
    split <;> omega
  induction h with
  | refl => exact .refl _
  | @step x y hr hy ih =>
    have go : ∀ t ∈ ts, (t = (x, y) ∨ t = (y, x)) → Reach (turnsOf (butP n b).length (subT (butP n b) found)) ((butP n b).idxOf (one1 a b p)) ((butP n b).idxOf (one1 a b y)) := fun t ht hxy => by
      have lt := T.lt t ht
      rcases M.all t ht with h | h | h
      · rcases hxy with rfl | rfl
        · have h : one1 a b x = one1 a b y := h
          rw [← h]; exact ih
        · have h : one1 a b y = one1 a b x := h
          rw [h]; exact ih
      · have mm := subT_mem.mpr ⟨_, h, oneP t.1 (by omega), rfl⟩
        rcases hxy with rfl | rfl
        · exact .step ih (TM.row.mpr (.inl mm))
        · exact .step ih (TM.row.mpr (.inr mm))
      · have mm := subT_mem.mpr ⟨_, h, oneP t.2 lt.2, rfl⟩
        rcases hxy with rfl | rfl
        · exact .step ih (TM.row.mpr (.inr mm))
        · exact .step ih (TM.row.mpr (.inl mm))
    rcases T.row.mp hy with h | h
    · exact go _ h (.inl rfl)
    · exact go _ h (.inr rfl)
theorem Merged.good {n a b : Nat} {ts found : List (Nat × Nat)} (T : TO n ts) (he : (a, b) ∈ ts) (M : Merged n a b ts found) (con : ∀ p, p < n → Reach (turnsOf n ts) 0 p) : Good (turnsOf (butP n b).length (subT (butP n b) found)) := by
  have hab := T.lt _ he
  have hab1 : a < b := hab.1
  have hab2 : b < n := hab.2
  refine M.sub.good fun i hi => ?_
  have m := butP_mem.mp (getM hi)
  have h := M.reach T he (show 0 < n by omega) (con _ m.1)
  have e0 : one1 a b 0 = 0 := by unfold one1; rw [if_neg (by omega)]
  have e1 : one1 a b ((butP n b).getD i 0) = (butP n b).getD i 0 := by unfold one1; rw [if_neg m.2]
  have z : (butP n b).idxOf 0 = 0 := by
    have m0 : 0 ∈ butP n b := butP_mem.mpr ⟨by omega, by omega⟩
    have g := idxG m0
    apply Classical.byContradiction
    intro hne
    have := (butP_pts n b).mono (i := 0) (j := (butP n b).idxOf 0) (by omega) g.2
    omega
  rw [e0, e1, z, idxI (butP_pts n b).nd hi] at h
  exact h
/-! ### the part of 0, and the rest -/
structure Part (n : Nat) (ts : List (Nat × Nat)) (first : List Nat) : Prop where
  pts : Pts n first
  zero : 0 ∈ first
  cl : ∀ t ∈ ts, t.1 ∈ first ↔ t.2 ∈ first
  re : ∀ x ∈ first, Reach (turnsOf n ts) 0 x
def outP (n : Nat) (first : List Nat) : List Nat := (List.range n).filter fun p => decide (p ∉ first)
theorem outP_mem {n p : Nat} {first : List Nat} : p ∈ outP n first ↔ p < n ∧ p ∉ first := by unfold outP; rw [List.mem_filter, List.mem_range]; simp
theorem outP_pts (n : Nat) (first : List Nat) : Pts n (outP n first) := ⟨List.pairwise_lt_range.filter _, fun x hx => (outP_mem.mp hx).1⟩
theorem Part.good {n : Nat} {ts : List (Nat × Nat)} {first : List Nat} (T : TO n ts) (F : Part n ts first) : Good (turnsOf first.length (subT first ts)) := by
  have T1 := subT_ok F.pts T.lt1 T.nd (fun t ht => (F.cl t ht).mp)
  have z : first.idxOf 0 = 0 := by
    have g := idxG F.zero
    apply Classical.byContradiction
    intro hne
    have := F.pts.mono (i := 0) (j := first.idxOf 0) (by omega) g.2
    omega
  refine T1.good fun i hi => ?_
  have h := (sub_reach T F.pts F.cl F.zero (F.re _ (getM hi))).2
  rw [z, idxI F.pts.nd hi] at h
  exact h
theorem Part.cov {n : Nat} {ts : List (Nat × Nat)} {first : List Nat} (F : Part n ts first) : ∀ p, p < n → (p ∈ first ↔ p ∉ outP n first) := fun p hp => by
  rw [outP_mem]
  constructor
  · rintro h ⟨_, hn⟩; exact hn h
  · intro h
    apply Classical.byContradiction
    exact fun hn => h ⟨hp, hn⟩
theorem Part.clO {n : Nat} {ts : List (Nat × Nat)} {first : List Nat} (T : TO n ts) (F : Part n ts first) : ∀ t ∈ ts, t.1 ∈ outP n first ↔ t.2 ∈ outP n first := fun t ht => by
  have := T.lt t ht
  have := F.cl t ht
  rw [outP_mem, outP_mem]
  constructor
  · rintro ⟨h1, h2⟩; exact ⟨by omega, fun z => h2 (this.mpr z)⟩
  · rintro ⟨h1, h2⟩; exact ⟨by omega, fun z => h2 (this.mp z)⟩
theorem Part.rest {n a b : Nat} {ts : List (Nat × Nat)} {first : List Nat} (T : TO n ts) (he : (a, b) ∈ ts) (con : ∀ p, p < n → Reach (turnsOf n ts) 0 p) (F : Part n (ts.filter fun t => decide (t ≠ (a, b))) first) :
    Good (turnsOf (outP n first).length (subT (outP n first) (ts.filter fun t => decide (t ≠ (a, b))))) := by
  have TL : TO n (ts.filter fun t => decide (t ≠ (a, b))) := ⟨fun t h => T.lt t (List.mem_filter.mp h).1, T.nd.filter _⟩
  have leftm : ∀ t, t ∈ ts.filter (fun t => decide (t ≠ (a, b))) ↔ t ∈ ts ∧ t ≠ (a, b) := fun t => by rw [List.mem_filter]; simp
  have key : ∀ y, Reach (turnsOf n ts) 0 y → y ∈ first ∨ (∃ z, ((z = a ∧ b ∈ first) ∨ (z = b ∧ a ∈ first)) ∧ z ∉ first ∧ Reach (turnsOf n (ts.filter fun t => decide (t ≠ (a, b)))) z y) := by
    intro y hy
    generalize hz : 0 = z0 at hy
    induction hy with
    | refl => subst hz; exact .inl F.zero
    | @step x y hr hy ih =>
      have hxy : (x, y) ∈ ts ∨ (y, x) ∈ ts := T.row.mp hy
      by_cases e : (x = a ∧ y = b) ∨ (x = b ∧ y = a)
      · by_cases my : y ∈ first
        · exact .inl my
        · have mx : x ∈ first ∨ x ∉ first := Classical.em _
          rcases mx with mx | mx
          · refine .inr ⟨y, ?_, my, .refl _⟩
            rcases e with ⟨e1, e2⟩ | ⟨e1, e2⟩
            · exact .inr ⟨e2, e1 ▸ mx⟩
            · exact .inl ⟨e2, e1 ▸ mx⟩
          · rcases ih with h | ⟨z, hz1, hz2, _⟩
            · exact absurd h mx
            · exfalso
              rcases hz1 with ⟨_, h⟩ | ⟨_, h⟩
              · rcases e with ⟨e1, e2⟩ | ⟨e1, e2⟩
                · exact my (e2 ▸ h)
                · exact mx (e1 ▸ h)
              · rcases e with ⟨e1, e2⟩ | ⟨e1, e2⟩
                · exact mx (e1 ▸ h)
                · exact my (e2 ▸ h)
      · have st : y ∈ row (turnsOf n (ts.filter fun t => decide (t ≠ (a, b)))) x := by
          rw [TL.row, leftm, leftm]
          rcases hxy with h | h
          · exact .inl ⟨h, fun z => e (.inl ⟨congrArg Prod.fst z, congrArg Prod.snd z⟩)⟩
          · exact .inr ⟨h, fun z => e (.inr ⟨congrArg Prod.snd z, congrArg Prod.fst z⟩)⟩
        rcases ih with h | ⟨z, h1, h2, h3⟩
        · left
          rcases TL.row.mp st with m | m
          · exact (F.cl _ m).mp h
          · exact (F.cl _ m).mpr h
        · exact .inr ⟨z, h1, h2, .step h3 st⟩
  have T2 := subT_ok (outP_pts n first) TL.lt1 TL.nd (fun t ht => (F.clO TL t ht).mp)
  refine T2.good fun i hi => ?_
  have m0 := getM (show 0 < (outP n first).length by omega)
  have mi := getM hi
  have q0 := outP_mem.mp m0
  have qi := outP_mem.mp mi
  rcases key _ (con _ q0.1) with h | ⟨z, hz1, hz2, hz3⟩
  · exact absurd h q0.2
  rcases key _ (con _ qi.1) with h | ⟨y, hy1, hy2, hy3⟩
  · exact absurd h qi.2
  have : y = z := by
    rcases hz1 with ⟨h1, h2⟩ | ⟨h1, h2⟩ <;> rcases hy1 with ⟨h3, h4⟩ | ⟨h3, h4⟩
    · rw [h1, h3]
    · rw [h3] at hy2; exact absurd h2 hy2
    · rw [h3] at hy2; exact absurd h2 hy2
    · rw [h1, h3]
  subst this
  have h := (sub_reach TL (outP_pts n first) (F.clO TL) m0 ((hz3.symm TL.sym).trans hy3)).2
  rw [idxI (outP_pts n first).nd (by omega), idxI (outP_pts n first).nd hi] at h
  exact h
end Wy

set_option Elab.async false
set_option linter.all false
set_option maxRecDepth 100000
set_option maxHeartbeats 4000000
namespace L2
open PySem PySem.Spec PyProof.Rows
/-! ### x in a list of tuples, lists .. -/
section
variable {X : Cx} {Z : DC} {pins : List (Addr × Obj)} {σ : St} {H : Hp} {s : Shared}
open Classical in
noncomputable def eqR (h : Heap) (d : PyData) (u : Value) : Bool := decide (∃ e as, Reads h u e as ∧ e.canLay0 = true ∧ PyData.eqv e d = true)
open Classical in
theorem eqR_of {h : Heap} {d e : PyData} {u : Value} {as : List Addr} (r : Reads h u e as) (c : e.canLay0 = true) : eqR h d u = PyData.eqv e d := by
  unfold eqR
  by_cases z : PyData.eqv e d = true
  · rw [z]; exact decide_eq_true ⟨e, as, r, c, z⟩
  · rw [Bool.eq_false_iff.mpr z]
    refine decide_eq_false ?_
    rintro ⟨e', as', r', c', z'⟩
    rw [(r.unique e' as' r').1] at z
    exact z z'
theorem items_eq (I : Inv X pins σ H s) {d : PyData} {v : Value} {bs : List Addr} (rv : Reads s.heap v d bs) (cv : d.canLay0 = true) (hz : d.depth ≤ 60) (hu : X.A.units + 64 < cLine) : ∀ {vs : List V} {ds : List PyData} {us : List Value}, DpAll X.K H vs ds → Vals vs us →
    us.any (eqR s.heap d) = ds.any (fun e => PyData.eqv e d) ∧ ∀ u ∈ us, SeqAt.EqAt X.A.in1 s u v (eqR s.heap d u)
  | _, _, _, .nil, .nil => ⟨rfl, fun u h => by cases h⟩
  | _, _, _, .cons (d := e) a as, .cons r rs => by
    obtain ⟨h1, h2⟩ := items_eq I rv cv hz hu as rs
    obtain ⟨⟨cs, re⟩, ce⟩ := a.reads I r
    have e1 := eqR_of (d := d) re ce
    refine ⟨by rw [List.any_cons, List.any_cons, h1, e1], fun u hm => ?_⟩
    rcases List.mem_cons.mp hm with rfl | hm
    · rw [e1]
      exact SeqAt.eqAt_reads e d X.A.in1 s _ _ cs bs re rv ce cv (by have := Nat.min_le_right e.depth d.depth; simp only [Around.in1_units]; omega)
    · exact h2 u hm
def rInD (K : PySem.W.Frag) (neg : Bool) : R2 := fun x y H Q => ∃ p xs d ds, y = .ref p ∧ SqL K H p xs ∧ Dp K H x d ∧ DpAll K H xs ds ∧ d.depth ≤ 60 ∧ Q (.bl (if neg then !(ds.any fun e => PyData.eqv e d) else ds.any fun e => PyData.eqv e d)) H
theorem op_notInD (hu : X.A.units + 64 < cLine) : OpR X (compareOp .NotIn) (rInD X.K true) := by
  intro pins s σ H x y v u Q I rx ry h
  obtain ⟨p, xs, d, ds, rfl, hq, hd, hds, hz, q⟩ := h
  cases ry
  obtain ⟨⟨bs, rv⟩, cv⟩ := hd.reads I rx
  obtain ⟨its, r, pl, _⟩ := I.list hq
  obtain ⟨h1, h2⟩ := items_eq I rv cv hz hu hds r
  refine SeqAt.notIn_listAt (eqR s.heap d) pl.isList (fun w hw => h2 w (by simpa using hw)) ⟨.bl _, H, I, rfl, ?_⟩
  rw [show its.toArray.any (eqR s.heap d) = its.any (eqR s.heap d) by simp, h1]
  exact q
def dInD (neg : Bool) : DR2 := fun x y P => match y with
  | .lst l => ∃ a as, x.py = some a ∧ pyAll l = some as ∧ a.depth ≤ 60 ∧ P (.bl (if neg then !(as.any fun e => PyData.eqv e a) else as.any fun e => PyData.eqv e a))
  | _ => False
theorem rd_inD {neg : Bool} {K : PySem.W.Frag} : ∀ x y H Q, liftR Z (dInD neg) x y H Q → rInD K neg x y H Q := by
  rintro x y H Q ⟨G, a, b, P, sm, da, db, hr, q⟩
  unfold dInD at hr
  split at hr
  · obtain ⟨p, xs, rfl, hp, e⟩ := db.ofLst
    obtain ⟨c, cs, h1, h2, h3, hp'⟩ := hr
    exact ⟨p, xs, c, cs, rfl, SqL.of (sm _ _ hp), (da.dp h1).mono sm, (e.dp h2).mono sm, h3, q _ hp' _ G H (.refl sm) (.bl _)⟩
  · exact hr.elim
theorem od_notinD (hu : X.A.units + 64 < cLine) : OpR X (compareOp .NotIn) (liftR Z (dInD true)) := (op_notInD hu).imp rd_inD
/-! ### min, max of a list of ints -/
theorem argB_int {f : Nat → Int} (g : Int → Int → Bool) (hg : ∀ a b, g a b = decide (a < b)) : ∀ k, argBest (fun i j => g (f i) (f j)) k ≤ k ∧ ∀ i, i ≤ k → f (argBest (fun i j => g (f i) (f j)) k) ≤ f i
  | 0 => ⟨Nat.le_refl _, fun i h => by obtain rfl : i = 0 := by omega
                                       exact Int.le_refl _⟩
  | k + 1 => by
    obtain ⟨h1, h2⟩ := argB_int (f := f) g hg k
    unfold argBest
    simp only [hg] at h1 h2 ⊢
    by_cases c : f (k + 1) < f (argBest (fun i j => decide (f i < f j)) k)
    · rw [if_pos (decide_eq_true c)]
      refine ⟨Nat.le_refl _, fun i hi => ?_⟩
      by_cases z : i = k + 1
      · subst z; exact Int.le_refl _
      · have := h2 i (by omega); omega
    · rw [if_neg (by simpa using c)]
      refine ⟨by omega, fun i hi => ?_⟩
      by_cases z : i = k + 1
      · subst z; omega
      · exact h2 i (by omega)
theorem call_minI (hc : X.calm = true) : CallR X (.builtin "min") (fun xs H Q => ∃ (p : Addr) (ns : List Int), xs = [.ref p] ∧ H p = some (.lst (ns.map V.int)) ∧ ns ≠ [] ∧ ∀ n ∈ ns, (∀ m ∈ ns, n ≤ m) → Q (.int n) H) := by
  intro pins s σ H xs us Q I rv h
  obtain ⟨p, ns, rfl, hp, hne0, q⟩ := h
  obtain ⟨u, rfl, ru⟩ := rv.one
  cases ru
  obtain ⟨its, r, pl, hz⟩ := I.list (SqL.of hp)
  have hl := r.length
  rw [List.length_map] at hl
  have hpos : 0 < ns.length := List.length_pos_iff.mpr hne0
  have itv : ∀ i : Nat, (hi : i < ns.length) → ∃ t, its[i]? = some (.int ns[i] t) := fun i hi => by
    obtain ⟨w, hw, rw'⟩ := r.get (i := i) (x := .int ns[i]) (by rw [List.getElem?_map, List.getElem?_eq_getElem hi]; rfl)
    obtain ⟨t, rfl⟩ := rw'
    exact ⟨t, hw⟩
  refine call_min_walk (wpAny_pyIter_list pl.isList ?_)
  have hne : p ≠ s.heap.objs.size := by
    obtain ⟨o, ho, _⟩ := pl.isList
    exact Nat.ne_of_lt (Heap.lt_size ho)
  let f : Nat → Int := fun i => ns.getD i 0
  have ef : ∀ k, (hk : k < ns.length) → f k = ns[k] := fun k hk => by
    show ns.getD k 0 = _
    rw [List.getD_eq_getElem?_getD, List.getElem?_eq_getElem hk]; rfl
  refine ⟨_, _, _, its.toArray.size, _, _, fun i j => (fun a b => decide (a < b)) (f i) (f j), rfl, Walks.list (show X.A.in1.handled = none from I.ok.hd hc) s.heap.objs.size p hne its.toArray, ⟨⟨_, Heap.get?_push_size _ rfl, rfl, rfl⟩, pl.isList.push _⟩, ?_, ?_, ?_, ?_⟩
  · intro b hb
    have : b = s.heap.objs.size ∨ b = p := by simpa using hb
    obtain ⟨o, ho, _⟩ := pl.isList
    have lt := Heap.lt_size ho
    have e : (s.heap.push { cls := .type "list_iterator", data := .fields #[.ref p, .int 0 0] }).objs.size = s.heap.objs.size + 1 := by simp [Heap.push]
    rcases this with rfl | rfl
    · exact Nat.lt_of_lt_of_eq (Nat.lt_succ_self _) e.symm
    · exact Nat.lt_of_lt_of_eq (Nat.lt_succ_of_lt lt) e.symm
  · rw [List.size_toArray]; omega
  · intro i j u v s' Q' E' hu' hv' hq
    have hu2 : its[i]? = some u := by simpa using hu'
    have hv2 : its[j]? = some v := by simpa using hv'
    have hi : i < ns.length := by have := (List.getElem?_eq_some_iff.mp hu2).1; omega
    have hj : j < ns.length := by have := (List.getElem?_eq_some_iff.mp hv2).1; omega
    obtain ⟨t1, h1⟩ := itv i hi
    obtain ⟨t2, h2⟩ := itv j hj
    rw [h1] at hu2
    rw [h2] at hv2
    cases hu2
    cases hv2
    have hq' : Q' (.bool (decide (ns[i] < ns[j]))) s' := by rw [← ef i hi, ← ef j hj]; exact hq
    exact HT.rcLt_int _ _ _ _ _ _ _ _ _ _ hq'
  · intro v h' tk hP kk
    have kept : ∀ b o, s.heap.get? b = some o → h'.get? b = some o := fun b o e => kk b o (by simp; exact Nat.ne_of_lt (Heap.lt_size e)) (Heap.get?_push_of_some _ e)
    obtain ⟨hk, hm⟩ := argB_int (f := f) (fun a b => decide (a < b)) (fun _ _ => rfl) (its.toArray.size - 1)
    generalize argBest (fun i j => (fun a b => decide (a < b)) (f i) (f j)) (its.toArray.size - 1) = k at hP hk hm
    rw [List.size_toArray] at hk hm
    have hkl : k < ns.length := by omega
    have hv2 : its[k]? = some v := by simpa using hP
    obtain ⟨t, ht⟩ := itv k hkl
    rw [ht] at hv2
    cases hv2
    refine ⟨.int ns[k], H, I.kept kept, ⟨t, rfl⟩, q _ (List.getElem_mem hkl) fun m hm' => ?_⟩
    obtain ⟨i, hi, rfl⟩ := List.mem_iff_getElem.mp hm'
    have := hm i (by omega)
    rw [ef i hi, ef k hkl] at this
    exact this
def bMinI : DSp := fun ds P => ∃ ns : List Int, ds = [.lst (ns.map D.int)] ∧ ns ≠ [] ∧ ∀ n ∈ ns, (∀ m ∈ ns, n ≤ m) → P (.int n)
theorem cd_minI (hc : X.calm = true) : CallR X (.builtin "min") (liftC Z bMinI) := by
  refine (call_minI hc).imp ?_
  rintro xs H Q ⟨G, ds, P, s, dv, ⟨ns, rfl, hne, hp⟩, q⟩
  obtain ⟨v, rfl, a⟩ := dv.ofOne
  obtain ⟨p, vs, rfl, h, e⟩ := a.ofLst
  rw [dv_ints e] at h
  exact ⟨p, ns, rfl, s _ _ h, hne, fun n hn hm => q _ (hp n hn hm) _ G H (.refl s) (.int n)⟩
theorem argM_int {f : Nat → Int} (g : Int → Int → Bool) (hg : ∀ a b, g a b = decide (b < a)) : ∀ k, argBest (fun i j => g (f i) (f j)) k ≤ k ∧ ∀ i, i ≤ k → f i ≤ f (argBest (fun i j => g (f i) (f j)) k)
  | 0 => ⟨Nat.le_refl _, fun i h => by obtain rfl : i = 0 := by omega
                                       exact Int.le_refl _⟩
  | k + 1 => by
    obtain ⟨h1, h2⟩ := argM_int (f := f) g hg k
    unfold argBest
    simp only [hg] at h1 h2 ⊢
    by_cases c : f (argBest (fun i j => decide (f j < f i)) k) < f (k + 1)
    · rw [if_pos (decide_eq_true c)]
      refine ⟨Nat.le_refl _, fun i hi => ?_⟩
      by_cases z : i = k + 1
      · subst z; exact Int.le_refl _
      · have := h2 i (by omega); omega
    · rw [if_neg (by simpa using c)]
      refine ⟨by omega, fun i hi => ?_⟩
      by_cases z : i = k + 1
      · subst z; omega
      · exact h2 i (by omega)
theorem call_maxI (hc : X.calm = true) : CallR X (.builtin "max") (fun xs H Q => ∃ (p : Addr) (ns : List Int), xs = [.ref p] ∧ H p = some (.lst (ns.map V.int)) ∧ ns ≠ [] ∧ ∀ n ∈ ns, (∀ m ∈ ns, m ≤ n) → Q (.int n) H) := by
  intro pins s σ H xs us Q I rv h
  obtain ⟨p, ns, rfl, hp, hne0, q⟩ := h
  obtain ⟨u, rfl, ru⟩ := rv.one
  cases ru
  obtain ⟨its, r, pl, hz⟩ := I.list (SqL.of hp)
  have hl := r.length
  rw [List.length_map] at hl
  have hpos : 0 < ns.length := List.length_pos_iff.mpr hne0
  have itv : ∀ i : Nat, (hi : i < ns.length) → ∃ t, its[i]? = some (.int ns[i] t) := fun i hi => by
    obtain ⟨w, hw, rw'⟩ := r.get (i := i) (x := .int ns[i]) (by rw [List.getElem?_map, List.getElem?_eq_getElem hi]; rfl)
    obtain ⟨t, rfl⟩ := rw'
    exact ⟨t, hw⟩
  refine call_max_walk (wpAny_pyIter_list pl.isList ?_)
  have hne : p ≠ s.heap.objs.size := by
    obtain ⟨o, ho, _⟩ := pl.isList
    exact Nat.ne_of_lt (Heap.lt_size ho)
  let f : Nat → Int := fun i => ns.getD i 0
  have ef : ∀ k, (hk : k < ns.length) → f k = ns[k] := fun k hk => by
    show ns.getD k 0 = _
    rw [List.getD_eq_getElem?_getD, List.getElem?_eq_getElem hk]; rfl
  refine ⟨_, _, _, its.toArray.size, _, _, fun i j => (fun a b => decide (b < a)) (f i) (f j), rfl, Walks.list (show X.A.in1.handled = none from I.ok.hd hc) s.heap.objs.size p hne its.toArray, ⟨⟨_, Heap.get?_push_size _ rfl, rfl, rfl⟩, pl.isList.push _⟩, ?_, ?_, ?_, ?_⟩
  · intro b hb
    have : b = s.heap.objs.size ∨ b = p := by simpa using hb
    obtain ⟨o, ho, _⟩ := pl.isList
    have lt := Heap.lt_size ho
    have e : (s.heap.push { cls := .type "list_iterator", data := .fields #[.ref p, .int 0 0] }).objs.size = s.heap.objs.size + 1 := by simp [Heap.push]
    rcases this with rfl | rfl
    · exact Nat.lt_of_lt_of_eq (Nat.lt_succ_self _) e.symm
    · exact Nat.lt_of_lt_of_eq (Nat.lt_succ_of_lt lt) e.symm
  · rw [List.size_toArray]; omega
  · intro i j u v s' Q' E' hu' hv' hq
    have hu2 : its[i]? = some u := by simpa using hu'
    have hv2 : its[j]? = some v := by simpa using hv'
    have hi : i < ns.length := by have := (List.getElem?_eq_some_iff.mp hu2).1; omega
    have hj : j < ns.length := by have := (List.getElem?_eq_some_iff.mp hv2).1; omega
    obtain ⟨t1, h1⟩ := itv i hi
    obtain ⟨t2, h2⟩ := itv j hj
    rw [h1] at hu2
    rw [h2] at hv2
    cases hu2
    cases hv2
    have hq' : Q' (.bool (decide (ns[j] < ns[i]))) s' := by rw [← ef i hi, ← ef j hj]; exact hq
    exact (PyProof.Rows.gt_int hq' : wpAny _ _ (compareOp .Gt _ _) _ _ _)
  · intro v h' tk hP kk
    have kept : ∀ b o, s.heap.get? b = some o → h'.get? b = some o := fun b o e => kk b o (by simp; exact Nat.ne_of_lt (Heap.lt_size e)) (Heap.get?_push_of_some _ e)
    obtain ⟨hk, hm⟩ := argM_int (f := f) (fun a b => decide (b < a)) (fun _ _ => rfl) (its.toArray.size - 1)
    generalize argBest (fun i j => (fun a b => decide (b < a)) (f i) (f j)) (its.toArray.size - 1) = k at hP hk hm
    rw [List.size_toArray] at hk hm
    have hkl : k < ns.length := by omega
    have hv2 : its[k]? = some v := by simpa using hP
    obtain ⟨t, ht⟩ := itv k hkl
    rw [ht] at hv2
    cases hv2
    refine ⟨.int ns[k], H, I.kept kept, ⟨t, rfl⟩, q _ (List.getElem_mem hkl) fun m hm' => ?_⟩
    obtain ⟨i, hi, rfl⟩ := List.mem_iff_getElem.mp hm'
    have := hm i (by omega)
    rw [ef i hi, ef k hkl] at this
    exact this
def bMaxI : DSp := fun ds P => ∃ ns : List Int, ds = [.lst (ns.map D.int)] ∧ ns ≠ [] ∧ ∀ n ∈ ns, (∀ m ∈ ns, m ≤ n) → P (.int n)
theorem cd_maxI (hc : X.calm = true) : CallR X (.builtin "max") (liftC Z bMaxI) := by
  refine (call_maxI hc).imp ?_
  rintro xs H Q ⟨G, ds, P, s, dv, ⟨ns, rfl, hne, hp⟩, q⟩
  obtain ⟨v, rfl, a⟩ := dv.ofOne
  obtain ⟨p, vs, rfl, h, e⟩ := a.ofLst
  rw [dv_ints e] at h
  exact ⟨p, ns, rfl, s _ _ h, hne, fun n hn hm => q _ (hp n hn hm) _ G H (.refl s) (.int n)⟩
end
end L2
namespace L2
open PySem PySem.Spec PyProof.Rows
/-! ### list(range(n)) -/
section
variable {X : Cx} {Z : DC}
theorem call_rng1 : CallR X (.type "range") (fun xs H Q => ∃ i : Int, xs = [.int i] ∧ ∀ q, H q = none → Q (.ref q) (upd H q (.rng 0 i))) := by
  intro pins s σ H xs us Q I rv h
  obtain ⟨i, rfl, q⟩ := h
  obtain ⟨u1, rfl, ⟨t1, rfl⟩⟩ := rv.one
  refine call_range_1 ?_
  exact ⟨.ref s.heap.objs.size, _, I.laid (fun b o hb => Heap.get?_push_of_some _ hb) (Nat.le_refl _) (o := .rng 0 i) ⟨_, _, _, Heap.get?_push_size _ rfl⟩, rfl, q _ (I.hok.fresh (Nat.le_refl _))⟩
def bRng1 : DSp := fun ds P => ∃ i : Int, ds = [.int i] ∧ P (.rng 0 i)
theorem cd_rng1 : CallR X (.type "range") (liftC Z bRng1) := by
  refine call_rng1.imp ?_
  rintro xs H Q ⟨G, ds, P, s, dv, ⟨i, rfl, hp⟩, q⟩
  obtain ⟨v, rfl, a⟩ := dv.ofOne
  refine ⟨i, by rw [a.ofInt], fun p hn => q _ hp _ _ _ (.new s hn) (.rng upd_same)⟩
def bListR : DSp := fun ds P => ∃ i j : Int, ds = [.rng i j] ∧ (-(2 ^ 62) ≤ i ∧ i < 2 ^ 62 ∧ -(2 ^ 62) ≤ j ∧ j < 2 ^ 62 ∧ (j - i).toNat ≤ 1000) ∧ P (.lst (rangeD i (j - i).toNat))
theorem rangeV_dv {G : Hp} (i : Int) (n : Nat) : DvAll Z G (rangeV i n) (rangeD i n) := by
  unfold rangeV rangeD
  induction List.range n with
  | nil => exact .nil
  | cons k l ih => exact .cons (.int _) ih
theorem cd_listR (hc : X.calm = true) : CallR X (.type "list") (liftC Z bListR) := by
  refine (call_list_rng hc).imp ?_
  rintro xs H Q ⟨G, ds, P, s, dv, ⟨i, j, rfl, ⟨b1, b2, b3, b4, b5⟩, hp⟩, q⟩
  obtain ⟨v, rfl, a⟩ := dv.ofOne
  cases a with
  | rng h => exact ⟨_, i, j, rfl, s _ _ h, b1, b2, b3, b4, b5, fun p hn => q _ hp _ _ _ (.new s hn) (.lst upd_same (rangeV_dv i _))⟩
end
end L2

set_option Elab.async false
set_option linter.all false
set_option maxRecDepth 100000
set_option maxHeartbeats 4000000
namespace K82
open PySem L2 Wb
open Wy
/-! ### the part of 0 -/
structure PU (n : Nat) (ts : List (Nat × Nat)) (fs : List Nat) (k : Nat) : Prop where
  nd : fs.Nodup
  lt : ∀ x ∈ fs, x < n
  re : ∀ x ∈ fs, Reach (turnsOf n ts) 0 x
  z : 0 ∈ fs
  le : k ≤ fs.length
  cl : ∀ i, i < k → ∀ y ∈ row (turnsOf n ts) (fs.getD i 0), y ∈ fs
theorem PU.size {n : Nat} {ts : List (Nat × Nat)} {fs : List Nat} {k : Nat} (h : PU n ts fs k) : fs.length ≤ n := by
  have := len_le_of_subset h.nd (m := List.range n) fun x hx => List.mem_range.mpr (h.lt x hx)
  rw [List.length_range] at this
  exact this
theorem PU.step {n : Nat} {ts : List (Nat × Nat)} {fs : List Nat} {k : Nat} (T : TO n ts) (h : PU n ts fs k) (hk : k < fs.length) : PU n ts (fs ++ (row (turnsOf n ts) (fs.getD k 0)).filter fun q => !decide (q ∈ fs)) (k + 1) := by
  have mk : fs.getD k 0 ∈ fs := getM hk
  have rn : (row (turnsOf n ts) (fs.getD k 0)).Nodup := by rw [row_turns T.lt]; exact nd_nb T.lt1 T.nd
  have fm : ∀ y, y ∈ (row (turnsOf n ts) (fs.getD k 0)).filter (fun q => !decide (q ∈ fs)) ↔ y ∈ row (turnsOf n ts) (fs.getD k 0) ∧ y ∉ fs := fun y => by rw [List.mem_filter]; simp
  have rlt : ∀ x y, y ∈ row (turnsOf n ts) x → y < n := fun x y hy => by
    rcases T.row.mp hy with m | m
    · exact (T.lt _ m).2
    · have := T.lt _ m; simp at this; omega
  refine ⟨List.nodup_append.mpr ⟨h.nd, rn.filter _, fun x hx y hy e => ((fm y).mp hy).2 (e ▸ hx)⟩, fun x hx => ?_, fun x hx => ?_, List.mem_append_left _ h.z, by rw [List.length_append]; omega, fun i hi y hy => ?_⟩
  · rcases List.mem_append.mp hx with m | m
    · exact h.lt x m
    · exact rlt _ _ ((fm x).mp m).1
  · rcases List.mem_append.mp hx with m | m
    · exact h.re x m
    · exact .step (h.re _ mk) ((fm x).mp m).1
  · have e : (fs ++ (row (turnsOf n ts) (fs.getD k 0)).filter fun q => !decide (q ∈ fs)).getD i 0 = fs.getD i 0 := by
      rw [List.getD_eq_getElem?_getD, List.getElem?_append_left (by omega), ← List.getD_eq_getElem?_getD]
    rw [e] at hy
    by_cases c : i < k
    · exact List.mem_append_left _ (h.cl i c y hy)
    · have : i = k := by omega
      subst this
      by_cases m : y ∈ fs
      · exact List.mem_append_left _ m
      · exact List.mem_append_right _ ((fm y).mpr ⟨hy, m⟩)
theorem PU.part {n : Nat} {ts : List (Nat × Nat)} {fs first : List Nat} (T : TO n ts) (h : PU n ts fs fs.length) (pm : first.Perm fs) (srt : first.Pairwise (· ≤ ·)) : Part n ts first := by
  have cl : ∀ x ∈ fs, ∀ y ∈ row (turnsOf n ts) x, y ∈ fs := fun x hx y hy => by
    have g := idxG hx
    exact h.cl _ g.2 y (by rw [g.1]; exact hy)
  refine ⟨⟨?_, fun x hx => h.lt x (pm.mem_iff.mp hx)⟩, pm.mem_iff.mpr h.z, fun t ht => ?_, fun x hx => h.re x (pm.mem_iff.mp hx)⟩
  · have nd : first.Nodup := pm.nodup_iff.mpr h.nd
    exact (List.pairwise_and_iff.mpr ⟨srt, nd⟩).imp fun ⟨a, b⟩ => by omega
  · rw [pm.mem_iff, pm.mem_iff]
    exact ⟨fun m => cl _ m _ (T.row.mpr (.inl ht)), fun m => cl _ m _ (T.row.mpr (.inr ht))⟩
def spPart : DSp := fun ds P => ∃ (n : Nat) (ts : List (Nat × Nat)), ds = [webW (turnsOf n ts), natD 0] ∧ TO n ts ∧ 1 ≤ n ∧ n ≤ 8 ∧ ts.length ≤ 64 ∧ ∀ first, Part n ts first → P (rowW first)
theorem rowW_int (l : List Nat) : rowW l = .lst ((l.map fun (x : Nat) => (x : Int)).map D.int) := by unfold rowW; rw [List.map_map]; rfl
theorem ok__law_part {P : Program} {w : World} {mg : Str → Option Value} {base : Heap} {Z : DC} (T : Txt Z mg) : FnOk P w Z.K mg base CX0 1 T.d__law_part.f T.d__law_part.fd ["_law_turns_here", "_law_p"] (liftSp Z spPart) := by
  have nd := sc__law_part.nd
  refine fn_data T.d__law_part.F sc__law_part [0, 0, 0, 0] (by decide) (fun ds R h => by obtain ⟨_, _, rfl, _⟩ := h; rfl) (fun cdv A outer s H E ds R hr h => ?_)
  have hu := hr.units
  refine ⟨_, (dss_cons (ds_set false 2 nd (de_lst (da_cons (de_var 1) da_nil)))
      (dss_cons (ds_set false 3 nd de_int)
      (dss_cons (ds_while PassesOwn.never (dt_cmp od_lt (de_var 3) (de_callB cd_len rfl T.B.len bd_len (da_cons (de_var 2) da_nil)) (nomark _)) (dss_cons (ds_set false 2 nd (de_op od_add (de_var 2) (de_lc (NC := ["_law_q", "_law_found"]) (src := [none, some 2]) rfl (CompOk.of (defScope s__law_part) rfl rfl (by decide +kernel) (by decide +kernel) (by decide +kernel)) ⟨rfl, rfl, trivial⟩ (di_list (de_ix (de_var 0) (de_ix (de_var 2) (de_var 3)))) (fun _ _ _ => (dg_name 0 (show (["_law_q", "_law_found"] : List Str).Nodup from by decide +kernel))) (fun _ _ _ => (dts_one (dt_cmp od_notin (de_var 0) (de_var 1) (by with_unfolding_all rfl)))) (fun _ _ _ => (de_var 0)))))
      (dss_one (ds_set false 3 nd (de_op od_add (de_var 3) de_int)))))
      (dss_one (ds_ret (de_callB cd_sortI rfl T.B.sorted bd_sorted (da_cons (de_var 2) da_nil))))))), ?_⟩
  obtain ⟨n, ts, rfl, T, h1, h8, tl, q⟩ := h
  refine ⟨_, rfl, by show 1 ≤ sizeLine; decide, trivial, ?_⟩
  refine ⟨trivial, ?_⟩
  have lm : ((turnsOf n ts).map rowW).length = n := by rw [List.length_map, turnsOf_len]
  have rl : ∀ x, (row (turnsOf n ts) x).length ≤ 64 := fun x => by
    rw [row_turns T.lt]
    have := nb_len x ts
    omega
  have u0 : PU n ts [0] 0 := by
    have z : ∀ x, x ∈ [0] → x = 0 := fun x hx => List.mem_singleton.mp hx
    refine ⟨by simp, fun x hx => ?_, fun x hx => ?_, by simp, by simp, fun i hi => by omega⟩
    · have := z x hx; omega
    · rw [z x hx]; exact .refl _
  refine while_inv (fun m ρ => ∃ (fs : List Nat) (k : Nat), ρ = [some (webW (turnsOf n ts)), some (natD 0), some (rowW fs), some (natD k)] ∧ PU n ts fs k ∧ m + k = n) n ⟨[0], 0, rfl, u0, rfl⟩ ?_
  rintro m _ ⟨fs, k, rfl, U, hm⟩
  have lf : (fs.map natD).length = fs.length := List.length_map _
  have sz := U.size
  refine ⟨_, rfl, _, rfl, ⟨_, rfl, ite_of (fun e => ?_) (fun e => ?_)⟩⟩
  · have hk : k < fs.length := by have := of_decide_eq_true e; omega
    have mk := U.lt _ (getM hk)
    refine ⟨_, rfl, _, rfl, _, rfl, _, rfl, _, nat_atI hk, _, row_atI (by rw [turnsOf_len]; exact mk), ?_⟩
    refine lc_name (ρ := [none, some (rowW fs)]) natD (fun q => !decide (q ∈ fs)) natD (row (turnsOf n ts) (fs.getD k 0)) _ [] _ (fun y hy Y Nn t1 t2 => ?_) ⟨none, rfl⟩ (by rw [List.length_nil, Nat.zero_add]; exact small (by have := rl (fs.getD k 0); omega)) fun ρ' => ?_
    · refine ⟨_, rfl, _, rfl, rfl, flat_nat _, _, rfl, ?_⟩
      rw [if_pos rfl, inD_nat]
      exact ite_of (fun e => ⟨_, rfl, t1 e⟩) (fun e => t2 e)
    · have U' := U.step T hk
      have sz' := U'.size
      rw [List.length_append] at sz'
      refine ⟨by rw [lf, List.nil_append, List.length_map]; exact small (by omega), trivial, ?_⟩
      refine ⟨_, rfl, trivial, ?_⟩
      refine ⟨m - 1, by omega, fs ++ (row (turnsOf n ts) (fs.getD k 0)).filter (fun q => !decide (q ∈ fs)), k + 1, ?_, U', by omega⟩
      unfold rowW
      rw [List.map_append]
      rfl
  · have hk : k = fs.length := by have := of_decide_eq_false e; have := U.le; omega
    subst hk
    refine ⟨_, rfl, fs.map fun (x : Nat) => (x : Int), by rw [rowW_int], by rw [List.length_map]; omega, fun ms pm srt => ?_⟩
    obtain ⟨first, pm', rfl⟩ := perm_map_ex (fun (x : Nat) => (x : Int)) ms fs pm
    have : rowW first = .lst ((first.map fun (x : Nat) => (x : Int)).map D.int) := rowW_int first
    rw [← this]
    refine q first (U.part T pm' ?_)
    rw [List.pairwise_map] at srt
    exact srt.imp fun h => by omega
/-! ### a web of some of the points -/
def spWebOf : DSp := fun ds P => ∃ (n : Nat) (pts : List Nat) (ts : List (Nat × Nat)), ds = [rowW pts, .lst (ts.map pairD)] ∧ Pts n pts ∧ 1 ≤ pts.length ∧ pts.length ≤ 8 ∧ ts.length ≤ 64 ∧ (∀ t ∈ ts, t.1 < t.2) ∧ ts.Nodup ∧ (∀ t ∈ ts, t.1 ∈ pts → t.2 ∈ pts) ∧ Good (turnsOf pts.length (subT pts ts)) ∧ P (.web (turnsOf pts.length (subT pts ts)))
theorem ok__law_web_of {P : Program} {w : World} {mg : Str → Option Value} {base : Heap} {Z : DC} (T : Txt Z mg) : FnOk P w Z.K mg base CX0 6 T.d__law_web_of.f T.d__law_web_of.fd ["_law_points", "_law_ties"] (liftSp Z spWebOf) := by
  have g_Web___init__ := ok_Web___init__ (P := P) (w := w) (base := base) T
  have g__law_turns := ok__law_turns (P := P) (w := w) (base := base) T
  have nd := sc__law_web_of.nd
  refine fn_data T.d__law_web_of.F sc__law_web_of [0, 0, 0] (by decide) (fun ds R h => by obtain ⟨_, _, _, rfl, _⟩ := h; rfl) (fun cdv A outer s H E ds R hr h => ?_)
  have hu := hr.units
  refine ⟨_, (dss_cons (ds_setlc 2 (NC := ["_law_p", "_law_q", "_law_points"]) (src := [none, none, some 0]) rfl nd (CompOk.of (defScope s__law_web_of) rfl rfl (by decide +kernel) (by decide +kernel) (by decide +kernel)) ⟨rfl, rfl, trivial⟩ (di_list (de_var 1)) (fun _ _ _ => (dg_tup 2 rfl (dgs_cons (dg_name 0 (show (["_law_p", "_law_q", "_law_points"] : List Str).Nodup from by decide +kernel)) (dgs_cons (dg_name 1 (show (["_law_p", "_law_q", "_law_points"] : List Str).Nodup from by decide +kernel)) dgs_nil)))) (fun _ _ _ => (dts_one (dt_cmp od_in (de_var 0) (de_var 2) (by with_unfolding_all rfl)))) (fun _ _ _ => (de_tup (da_cons (de_index (de_var 2) (de_var 0)) (da_cons (de_index (de_var 2) (de_var 1)) da_nil)))))
      (dss_one (ds_ret (de_make T.mkW g_Web___init__ (hr.mono (by decide)) rfl T.mC T.m___init__b (da_cons (de_call g__law_turns (hr.mono (by decide)) rfl T.d__law_turns.m T.d__law_turns.F.kp T.d__law_turns.b (da_cons (de_callB cd_len rfl T.B.len bd_len (da_cons (de_var 0) da_nil)) (da_cons (de_var 2) da_nil))) da_nil))))), ?_⟩
  obtain ⟨n, pts, ts, rfl, Pp, h1, h8, tl, lt, nd', cl, g, q⟩ := h
  have lp : (pts.map natD).length = pts.length := List.length_map _
  refine ⟨_, rfl, ?_⟩
  refine lc_inv (fun ρ => ∃ o0 o1, ρ = [o0, o1, some (rowW pts)]) pairD (fun t => decide (t.1 ∈ pts)) (fun t => pairD (pts.idxOf t.1, pts.idxOf t.2)) ts _ [] _ ?_ ⟨_, _, rfl⟩ (by simp; exact small (by omega)) ?_
  · rintro ⟨x, y⟩ ht _ ⟨o0, o1, rfl⟩ Y Nn hY hN
    refine ⟨rfl, rfl, ?_⟩
    refine ⟨_, rfl, _, rfl, rfl, flat_nat _, _, rfl, ?_⟩
    refine (?_ : if (if false = true then _ else inD (natD x) (pts.map natD)) = true then _ else _)
    rw [if_neg Bool.false_ne_true, inD_nat]
    refine ite_of (fun e => ?_) (fun e => hN _ ⟨_, _, rfl⟩ e)
    have hx : x ∈ pts := of_decide_eq_true e
    refine ⟨_, rfl, _, rfl, _, rfl, ?_⟩
    refine ⟨rfl, flat_nat _, _, _, (index_facts hx).1, (index_facts hx).2.1, (index_facts hx).2.2, ?_⟩
    refine ⟨_, rfl, _, rfl, _, rfl, ?_⟩
    refine ⟨rfl, flat_nat _, _, _, (index_facts (cl _ ht hx)).1, (index_facts (cl _ ht hx)).2.1, (index_facts (cl _ ht hx)).2.2, ?_⟩
    exact ⟨by show 2 ≤ sizeLine; decide, hY _ ⟨_, _, rfl⟩ e⟩
  · rintro _ ⟨o0, o1, rfl⟩
    have TS := subT_ok Pp lt nd' cl
    have es : ([] ++ (ts.filter fun t => decide (t.1 ∈ pts)).map fun t => pairD (pts.idxOf t.1, pts.idxOf t.2)) = (subT pts ts).map pairD := by
      unfold subT
      rw [List.nil_append, List.map_map]; rfl
    rw [es]
    refine ⟨trivial, ?_⟩
    have sl : (subT pts ts).length ≤ 64 := by
      unfold subT
      rw [List.length_map]
      have := List.length_filter_le (fun t : Nat × Nat => decide (t.1 ∈ pts)) ts
      omega
    refine ⟨_, rfl, _, rfl, pts.length, subT pts ts, ?_, by omega, TS.lt, by omega, ?_⟩
    · show [D.int ((pts.map natD).length : Int), _] = _
      rw [lp]; rfl
    · exact ⟨turnsOf pts.length (subT pts ts), rfl, g, by rw [turnsOf_len]; exact h1, by rw [turnsOf_len]; omega, q⟩
end K82

set_option Elab.async false
set_option linter.all false
set_option maxRecDepth 100000
set_option maxHeartbeats 4000000
namespace K82
open PySem L2 Wb
open Wy
/-! ### two points made one -/
theorem mzero (n a b : Nat) : Merged n a b [] [] := ⟨fun t h => (by cases h), List.nodup_nil, fun t h => (by cases h), fun t h => (by cases h)⟩
def mm (x y : Nat) : Nat × Nat := if x < y then (x, y) else (y, x)
theorem mm_lt {x y : Nat} (h : x ≠ y) : (mm x y).1 < (mm x y).2 := by
  unfold mm
  split
  · assumption
  · show y < x; omega
theorem mm_or (x y : Nat) : mm x y = (x, y) ∨ mm x y = (y, x) := by
  unfold mm
  split
  · exact .inl rfl
  · exact .inr rfl
theorem mskip {n a b : Nat} {ts fd : List (Nat × Nat)} {t : Nat × Nat} (M : Merged n a b ts fd) (h : one1 a b t.1 = one1 a b t.2 ∨ mm (one1 a b t.1) (one1 a b t.2) ∈ fd) : Merged n a b (ts ++ [t]) fd := by
  refine ⟨M.lt, M.nd, fun u hu => ?_, fun u hu => ?_⟩
  · obtain ⟨v, hv, hh⟩ := M.of u hu
    exact ⟨v, List.mem_append_left _ hv, hh⟩
  · rcases List.mem_append.mp hu with m | m
    · exact M.all u m
    · have : u = t := List.mem_singleton.mp m
      subst this
      rcases h with h | h
      · exact .inl h
      · rcases mm_or (one1 a b u.1) (one1 a b u.2) with e | e
        · rw [e] at h; exact .inr (.inl h)
        · rw [e] at h; exact .inr (.inr h)
theorem mput {n a b : Nat} {ts fd : List (Nat × Nat)} {t : Nat × Nat} (M : Merged n a b ts fd) (hab : a < b) (hb : b < n) (ht : t.1 < n ∧ t.2 < n) (ne : one1 a b t.1 ≠ one1 a b t.2) (hn : mm (one1 a b t.1) (one1 a b t.2) ∉ fd) : Merged n a b (ts ++ [t]) (fd ++ [mm (one1 a b t.1) (one1 a b t.2)]) := by
  have o : ∀ p, p < n → one1 a b p < n ∧ one1 a b p ≠ b := fun p hp => by unfold one1; split <;> omega
  have o1 := o t.1 ht.1
  have o2 := o t.2 ht.2
  refine ⟨fun u hu => ?_, ?_, fun u hu => ?_, fun u hu => ?_⟩
  · rcases List.mem_append.mp hu with m | m
    · exact M.lt u m
    · have : u = mm (one1 a b t.1) (one1 a b t.2) := List.mem_singleton.mp m
      rw [this]
      have := mm_lt ne
      rcases mm_or (one1 a b t.1) (one1 a b t.2) with e | e <;> (rw [e] at this ⊢; simp only at this ⊢; omega)
  · refine List.nodup_append.mpr ⟨M.nd, by simp, fun x hx y hy e => ?_⟩
    have : y = mm (one1 a b t.1) (one1 a b t.2) := List.mem_singleton.mp hy
    rw [← this, ← e] at hn
    exact hn hx
  · rcases List.mem_append.mp hu with m | m
    · obtain ⟨v, hv, hh⟩ := M.of u m
      exact ⟨v, List.mem_append_left _ hv, hh⟩
    · have : u = mm (one1 a b t.1) (one1 a b t.2) := List.mem_singleton.mp m
      refine ⟨t, List.mem_append_right _ (by simp), ?_⟩
      rw [this]
      rcases mm_or (one1 a b t.1) (one1 a b t.2) with e | e <;> rw [e]
      · exact .inl ⟨rfl, rfl⟩
      · exact .inr ⟨rfl, rfl⟩
  · rcases List.mem_append.mp hu with m | m
    · rcases M.all u m with h | h | h
      · exact .inl h
      · exact .inr (.inl (List.mem_append_left _ h))
      · exact .inr (.inr (List.mem_append_left _ h))
    · have : u = t := List.mem_singleton.mp m
      subst this
      rcases mm_or (one1 a b u.1) (one1 a b u.2) with e | e
      · exact .inr (.inl (List.mem_append_right _ (by rw [e]; simp)))
      · exact .inr (.inr (List.mem_append_right _ (by rw [e]; simp)))
theorem py_pairs (l : List (Nat × Nat)) : pyAll (l.map pairD) = some (l.map tupD) := pyAll_map (fun t => py_pair t) l
theorem any_pairs (l : List (Nat × Nat)) (t : Nat × Nat) : (l.map tupD).any (fun e => PyData.eqv e (tupD t)) = decide (t ∈ l) := by
  rw [Bool.eq_iff_iff, List.any_eq_true, decide_eq_true_iff]
  constructor
  · rintro ⟨e, he, h⟩
    obtain ⟨u, hu, rfl⟩ := List.mem_map.mp he
    rw [(eqv_tupD u t).mp h] at hu
    exact hu
  · intro h
    exact ⟨tupD t, List.mem_map_of_mem h, (eqv_tupD t t).mpr rfl⟩
theorem notin_pairs {t : Nat × Nat} {l : List (Nat × Nat)} {P : D → Prop} (h : P (.bl (!decide (t ∈ l)))) : dInD true (pairD t) (.lst (l.map pairD)) P := by
  refine ⟨tupD t, l.map tupD, py_pair t, py_pairs l, by have := depth_tupD t; omega, ?_⟩
  rw [if_pos rfl, any_pairs]; exact h
theorem dNe_pair {t u : Nat × Nat} {P : D → Prop} (h : P (.bl (!decide (t = u)))) : dNe (pairD t) (pairD u) P := by
  refine ⟨tupD t, tupD u, py_pair t, py_pair u, by have := depth_tupD t; omega, ?_⟩
  have : PyData.eqv (tupD t) (tupD u) = decide (t = u) := by
    rw [Bool.eq_iff_iff, decide_eq_true_iff]; exact eqv_tupD t u
  rw [if_pos rfl, this]; exact h
theorem eq_nilN {l : List Nat} {P : D → Prop} (h : P (.bl l.isEmpty)) : dEq (rowW l) (.lst []) P := by
  refine ⟨rowD l, .list [], py_row l, rfl, by have := depth_rowD l; omega, ?_⟩
  have : PyData.eqv (rowD l) (.list []) = l.isEmpty := by cases l <;> rfl
  rw [if_neg Bool.false_ne_true, this]; exact h
theorem two_min {x y : Nat} {z : Int} (hz : z ∈ [(x : Int), (y : Int)]) (h : ∀ m ∈ [(x : Int), (y : Int)], z ≤ m) : z = ((mm x y).1 : Int) := by
  have h1 := h x (by simp)
  have h2 := h y (by simp)
  have : z = x ∨ z = y := by simpa using hz
  unfold mm
  split
  · show z = (x : Int); omega
  · show z = (y : Int); omega
theorem two_max {x y : Nat} {z : Int} (hz : z ∈ [(x : Int), (y : Int)]) (h : ∀ m ∈ [(x : Int), (y : Int)], m ≤ z) : z = ((mm x y).2 : Int) := by
  have h1 := h x (by simp)
  have h2 := h y (by simp)
  have : z = x ∨ z = y := by simpa using hz
  unfold mm
  split
  · show z = (y : Int); omega
  · show z = (x : Int); omega
theorem pick1 (a b x : Nat) : atI [natD x, natD a] (if decide ((x : Int) = (b : Int)) = true then 1 else 0) = some (natD (one1 a b x)) := by
  unfold one1
  by_cases e : x = b
  · rw [if_pos (decide_eq_true (by omega)), if_pos e]; rfl
  · rw [if_neg (by simp; omega), if_neg e]; rfl
def spTogether : DSp := fun ds P => ∃ (n a b : Nat) (ts : List (Nat × Nat)), ds = [natD n, .lst (ts.map pairD), pairD (a, b)] ∧ TO n ts ∧ (a, b) ∈ ts ∧ (∀ p, p < n → Reach (turnsOf n ts) 0 p) ∧ 2 ≤ n ∧ n ≤ 8 ∧ ts.length ≤ 64 ∧ ∀ found, Merged n a b ts found → P (.web (turnsOf (butP n b).length (subT (butP n b) found)))
theorem ok__law_together {P : Program} {w : World} {mg : Str → Option Value} {base : Heap} {Z : DC} (T : Txt Z mg) : FnOk P w Z.K mg base CX0 7 T.d__law_together.f T.d__law_together.fd ["_law_many", "_law_ties", "_law_tie"] (liftSp Z spTogether) := by
  have g__law_web_of := ok__law_web_of (P := P) (w := w) (base := base) T
  have nd := sc__law_together.nd
  refine fn_data T.d__law_together.F sc__law_together [0, 0, 0, 0, 0, 1, 0, 0, 0] (by decide) (fun ds R h => by obtain ⟨_, _, _, _, rfl, _⟩ := h; rfl) (fun cdv A outer s H E ds R hr h => ?_)
  have hu := hr.units
  refine ⟨_, (dss_cons (ds_asg (de_var 2) (dt_tup 2 rfl (dts_cons (dt_name 3 nd) (dts_cons (dt_name 4 nd) dts_nil'))))
      (dss_cons (ds_new 5 nd (df_lst da_nil))
      (dss_cons (ds_for rfl PassesOwn.never (di_list (de_var 1)) (dt_tup 2 rfl (dts_cons (dt_name 6 nd) (dts_cons (dt_name 7 nd) dts_nil'))) (dss_cons (ds_set false 8 nd (de_lst (da_cons (de_ix (de_lst (da_cons (de_var 6) (da_cons (de_var 3) da_nil))) (de_callTy cd_int rfl T.B.int bd_int (da_cons (de_cmp (od_eq hu) (de_var 6) (de_var 4) (nomark _)) da_nil))) (da_cons (de_ix (de_lst (da_cons (de_var 7) (da_cons (de_var 3) da_nil))) (de_callTy cd_int rfl T.B.int bd_int (da_cons (de_cmp (od_eq hu) (de_var 7) (de_var 4) (nomark _)) da_nil))) da_nil))))
      (dss_one (ds_if (DW.dt (dw_and (dt_cmp (od_ne hu) (de_ix (de_var 8) de_int) (de_ix (de_var 8) de_int) (nomark _)) (dw_and1 (dt_cmp (od_notinD hu) (de_tup (da_cons (de_callB (cd_minI rfl) rfl T.B.min bd_min (da_cons (de_var 8) da_nil)) (da_cons (de_callB (cd_maxI rfl) rfl T.B.max bd_max (da_cons (de_var 8) da_nil)) da_nil))) (de_var 5) (by with_unfolding_all rfl))))) (dss_one (ds_app false 5 (de_tup (da_cons (de_callB (cd_minI rfl) rfl T.B.min bd_min (da_cons (de_var 8) da_nil)) (da_cons (de_callB (cd_maxI rfl) rfl T.B.max bd_max (da_cons (de_var 8) da_nil)) da_nil))))) dss_nil))))
      (dss_one (ds_ret (de_call g__law_web_of (hr.mono (by decide)) rfl T.d__law_web_of.m T.d__law_web_of.F.kp T.d__law_web_of.b (da_cons (de_lc (NC := ["_law_p", "_law_other"]) (src := [none, some 4]) rfl (CompOk.of (defScope s__law_together) rfl rfl (by decide +kernel) (by decide +kernel) (by decide +kernel)) ⟨rfl, rfl, trivial⟩ (di_range1 rfl T.B.range (da_cons (de_var 0) da_nil)) (fun _ _ _ => (dg_name 0 (show (["_law_p", "_law_other"] : List Str).Nodup from by decide +kernel))) (fun _ _ _ => (dts_one (dt_cmp (od_ne hu) (de_var 0) (de_var 1) (nomark _)))) (fun _ _ _ => (de_var 0))) (da_cons (de_var 5) da_nil)))))))), ?_⟩
  obtain ⟨n, a, b, ts, rfl, T, he, con, h2, h8, tl, q⟩ := h
  have hab := T.lt _ he
  have hab1 : a < b := hab.1
  have hab2 : b < n := hab.2
  refine ⟨_, rfl, ?_⟩
  refine ⟨rfl, rfl, ?_⟩
  refine ⟨by show 0 ≤ sizeLine; decide, ?_⟩
  refine ⟨_, rfl, for_inv (fun j ρ => ∃ (fd : List (Nat × Nat)) (o6 o7 o8 : Option D), ρ = [some (natD n), some (.lst (ts.map pairD)), some (pairD (a, b)), some (natD a), some (natD b), some (.lst (fd.map pairD)), o6, o7, o8] ∧ Merged n a b (ts.take j) fd ∧ fd.length ≤ j) ⟨[], _, _, _, rfl, mzero n a b, Nat.le_refl _⟩ ?_ ?_⟩
  · rintro j d _ hd ⟨fd, o6, o7, o8, rfl, M, fl⟩ A hA
    obtain ⟨⟨x, y⟩, ht, rfl⟩ := map_get hd
    have hj : j < ts.length := (List.getElem?_eq_some_iff.mp ht).1
    have lt := T.lt _ (List.mem_of_getElem? ht)
    have lt1 : x < y := lt.1
    have lt2 : y < n := lt.2
    have tk : ts.take (j + 1) = ts.take j ++ [(x, y)] := by rw [List.take_succ, ht]; rfl
    refine ⟨rfl, rfl, ?_⟩
    refine ⟨_, rfl, _, rfl, by show 2 ≤ sizeLine; decide, _, rfl, _, rfl, dEq_int ⟨_, pick1 a b x, ?_⟩⟩
    refine ⟨_, rfl, _, rfl, by show 2 ≤ sizeLine; decide, _, rfl, _, rfl, dEq_int ⟨_, pick1 a b y, ?_⟩⟩
    refine ⟨by show 2 ≤ sizeLine; decide, trivial, ?_⟩
    refine ⟨_, rfl, _, rfl, _, rfl, _, rfl, dNe_int ⟨_, rfl, ite_of (fun e => ?_) (fun e => iteF ?_)⟩⟩
    · have ne : one1 a b x ≠ one1 a b y := by
        have : ¬ ((one1 a b x : Int) = (one1 a b y : Int)) := of_decide_eq_false (by simpa using e)
        omega
      refine ⟨_, rfl, [(one1 a b x : Int), (one1 a b y : Int)], rfl, by simp, fun z hz hmin => ⟨_, rfl, [(one1 a b x : Int), (one1 a b y : Int)], rfl, by simp, fun z2 hz2 hmax => ?_⟩⟩
      obtain rfl := two_min hz hmin
      obtain rfl := two_max hz2 hmax
      refine ⟨by show 2 ≤ sizeLine; decide, _, rfl, ?_⟩
      refine notin_pairs (t := mm (one1 a b x) (one1 a b y)) ⟨_, rfl, ite_of (fun e2 => ?_) (fun e2 => ?_)⟩
      · have hn : mm (one1 a b x) (one1 a b y) ∉ fd := of_decide_eq_false (by simpa using e2)
        refine ⟨_, rfl, _, rfl, [(one1 a b x : Int), (one1 a b y : Int)], rfl, by simp, fun z hz hmin => ⟨_, rfl, [(one1 a b x : Int), (one1 a b y : Int)], rfl, by simp, fun z2 hz2 hmax => ?_⟩⟩
        obtain rfl := two_min hz hmin
        obtain rfl := two_max hz2 hmax
        refine ⟨by show 2 ≤ sizeLine; decide, trivial, small1000 (by rw [List.length_map]; omega), ?_⟩
        refine hA _ ⟨fd ++ [mm (one1 a b x) (one1 a b y)], some (natD x), some (natD y), some (.lst [natD (one1 a b x), natD (one1 a b y)]), ?_, by rw [tk]; exact mput M hab1 hab2 ⟨by show x < n; omega, lt2⟩ ne hn, by simp; omega⟩
        rw [List.map_append]; rfl
      · have hm : mm (one1 a b x) (one1 a b y) ∈ fd := by
          have : decide (mm (one1 a b x) (one1 a b y) ∈ fd) = true := by simpa using e2
          exact of_decide_eq_true this
        exact hA _ ⟨fd, _, _, _, rfl, by rw [tk]; exact mskip M (.inr hm), by omega⟩
    · have eq : one1 a b x = one1 a b y := by
        have : decide ((one1 a b x : Int) = (one1 a b y : Int)) = true := by simpa using e
        have := of_decide_eq_true this
        omega
      exact hA _ ⟨fd, _, _, _, rfl, by rw [tk]; exact mskip M (.inl eq), by omega⟩
  · rintro _ ⟨fd, o6, o7, o8, rfl, M, fl⟩
    rw [List.length_map] at M fl
    rw [List.take_length] at M
    refine ⟨_, rfl, ⟨by show -(2 ^ 62) ≤ (n : Int); omega, by show (n : Int) < 2 ^ 62; omega⟩, ?_⟩
    rw [show ((n : Int)).toNat = n by omega, range_map]
    refine lc_name (ρ := [none, some (natD b)]) natD (fun p => decide (p ≠ b)) natD (List.range n) _ [] _ (fun p hp Y Nn t1 t2 => ?_) ⟨none, rfl⟩ (by simp; exact small (by omega)) fun ρ' => ?_
    · refine ⟨_, rfl, _, rfl, dNe_int ⟨_, rfl, ite_of (fun e => ⟨_, rfl, t1 ?_⟩) (fun e => t2 ?_)⟩⟩
      · have : ¬ ((p : Int) = (b : Int)) := of_decide_eq_false (by simpa using e)
        exact decide_eq_true (by omega)
      · have : decide ((p : Int) = (b : Int)) = true := by simpa using e
        have := of_decide_eq_true this
        exact decide_eq_false (by omega)
    · have bl := butP_len hab2
      exact ⟨_, rfl, n, butP n b, fd, rfl, butP_pts n b, by omega, by omega, by omega, fun t h => (M.lt t h).1, M.nd, fun t h _ => butP_mem.mpr ⟨(M.lt t h).2.1, (M.lt t h).2.2.2⟩, M.good T he con, q fd M⟩

/-! ### the tie taken away -/
def wP (pts : List Nat) (ts : List (Nat × Nat)) : W := turnsOf pts.length (subT pts ts)
def lessT (ts : List (Nat × Nat)) (a b : Nat) : List (Nat × Nat) := ts.filter fun t => decide (t ≠ (a, b))
def partsW (n : Nat) (ts : List (Nat × Nat)) (first : List Nat) : List W := if outP n first = [] then [wP first ts] else [wP first ts, wP (outP n first) ts]
def spWithout : DSp := fun ds P => ∃ (n a b : Nat) (ts : List (Nat × Nat)), ds = [natD n, .lst (ts.map pairD), pairD (a, b)] ∧ TO n ts ∧ (a, b) ∈ ts ∧ (∀ p, p < n → Reach (turnsOf n ts) 0 p) ∧ 2 ≤ n ∧ n ≤ 8 ∧ ts.length ≤ 64 ∧ ∀ first, Part n (lessT ts a b) first → P (.lst ((partsW n (lessT ts a b) first).map D.web))
theorem part_len {n : Nat} {ts : List (Nat × Nat)} {first : List Nat} (F : Part n ts first) : first.length ≤ n ∧ 1 ≤ first.length ∧ (outP n first).length ≤ n := by
  refine ⟨?_, List.length_pos_of_mem F.zero, ?_⟩
  · have := len_le_of_subset F.pts.nd (m := List.range n) fun x hx => List.mem_range.mpr (F.pts.lt x hx)
    rw [List.length_range] at this
    exact this
  · unfold outP
    have := List.length_filter_le (fun p => decide (p ∉ first)) (List.range n)
    rw [List.length_range] at this
    exact this
theorem ok__law_without {P : Program} {w : World} {mg : Str → Option Value} {base : Heap} {Z : DC} (T : Txt Z mg) : FnOk P w Z.K mg base CX0 7 T.d__law_without.f T.d__law_without.fd ["_law_many", "_law_ties", "_law_tie"] (liftSp Z spWithout) := by
  have g__law_part := ok__law_part (P := P) (w := w) (base := base) T
  have g__law_turns := ok__law_turns (P := P) (w := w) (base := base) T
  have g__law_web_of := ok__law_web_of (P := P) (w := w) (base := base) T
  have nd := sc__law_without.nd
  refine fn_data T.d__law_without.F sc__law_without [0, 0, 0, 0, 0, 0, 0] (by decide) (fun ds R h => by obtain ⟨_, _, _, _, rfl, _⟩ := h; rfl) (fun cdv A outer s H E ds R hr h => ?_)
  have hu := hr.units
  refine ⟨_, (dss_cons (ds_setlc 3 (NC := ["_law_one", "_law_tie"]) (src := [none, some 2]) rfl nd (CompOk.of (defScope s__law_without) rfl rfl (by decide +kernel) (by decide +kernel) (by decide +kernel)) ⟨rfl, rfl, trivial⟩ (di_list (de_var 1)) (fun _ _ _ => (dg_name 0 (show (["_law_one", "_law_tie"] : List Str).Nodup from by decide +kernel))) (fun _ _ _ => (dts_one (dt_cmp (od_ne hu) (de_var 0) (de_var 1) (nomark _)))) (fun _ _ _ => (de_var 0)))
      (dss_cons (ds_set false 4 nd (de_call g__law_turns (hr.mono (by decide)) rfl T.d__law_turns.m T.d__law_turns.F.kp T.d__law_turns.b (da_cons (de_var 0) (da_cons (de_var 3) da_nil))))
      (dss_cons (ds_set false 5 nd (de_call g__law_part (hr.mono (by decide)) rfl T.d__law_part.m T.d__law_part.F.kp T.d__law_part.b (da_cons (de_var 4) (da_cons de_int da_nil))))
      (dss_cons (ds_setlc 6 (NC := ["_law_p", "_law_first"]) (src := [none, some 5]) rfl nd (CompOk.of (defScope s__law_without) rfl rfl (by decide +kernel) (by decide +kernel) (by decide +kernel)) ⟨rfl, rfl, trivial⟩ (di_range1 rfl T.B.range (da_cons (de_var 0) da_nil)) (fun _ _ _ => (dg_name 0 (show (["_law_p", "_law_first"] : List Str).Nodup from by decide +kernel))) (fun _ _ _ => (dts_one (dt_cmp od_notin (de_var 0) (de_var 1) (by with_unfolding_all rfl)))) (fun _ _ _ => (de_var 0)))
      (dss_cons (ds_if (dt_cmp (od_eq hu) (de_var 6) (de_lst da_nil) (nomark _)) (dss_one (ds_ret (de_lst (da_cons (de_call g__law_web_of (hr.mono (by decide)) rfl T.d__law_web_of.m T.d__law_web_of.F.kp T.d__law_web_of.b (da_cons (de_var 5) (da_cons (de_var 3) da_nil))) da_nil)))) dss_nil)
      (dss_one (ds_ret (de_lst (da_cons (de_call g__law_web_of (hr.mono (by decide)) rfl T.d__law_web_of.m T.d__law_web_of.F.kp T.d__law_web_of.b (da_cons (de_var 5) (da_cons (de_var 3) da_nil))) (da_cons (de_call g__law_web_of (hr.mono (by decide)) rfl T.d__law_web_of.m T.d__law_web_of.F.kp T.d__law_web_of.b (da_cons (de_var 6) (da_cons (de_var 3) da_nil))) da_nil)))))))))), ?_⟩
  obtain ⟨n, a, b, ts, rfl, T, he, con, h2, h8, tl, q⟩ := h
  have TL : TO n (lessT ts a b) := ⟨fun t h => T.lt t (List.mem_filter.mp h).1, T.nd.filter _⟩
  have ll : (lessT ts a b).length ≤ 64 := by
    have := List.length_filter_le (fun t => decide (t ≠ (a, b))) ts
    unfold lessT
    omega
  refine ⟨_, rfl, ?_⟩
  refine lc_name (ρ := [none, some (pairD (a, b))]) pairD (fun t => decide (t ≠ (a, b))) pairD ts _ [] _ (fun t ht Y Nn t1 t2 => ?_) ⟨none, rfl⟩ (by simp; exact small (by omega)) fun ρ' => ?_
  · refine ⟨_, rfl, _, rfl, dNe_pair ⟨_, rfl, ite_of (fun e => ⟨_, rfl, t1 ?_⟩) (fun e => t2 ?_)⟩⟩
    · simpa using e
    · simpa using e
  rw [List.nil_append]
  refine (?_ : True ∧ _)
  refine ⟨trivial, ?_⟩
  refine ⟨_, rfl, _, rfl, n, lessT ts a b, rfl, by omega, TL.lt, by omega, trivial, ?_⟩
  refine ⟨_, rfl, n, lessT ts a b, rfl, TL, by omega, h8, ll, fun first F => ⟨trivial, ?_⟩⟩
  have pl := part_len F
  refine ⟨_, rfl, ⟨by show -(2 ^ 62) ≤ (n : Int); omega, by show (n : Int) < 2 ^ 62; omega⟩, ?_⟩
  rw [show ((n : Int)).toNat = n by omega, range_map]
  refine lc_name (ρ := [none, some (rowW first)]) natD (fun p => decide (p ∉ first)) natD (List.range n) _ [] _ (fun p hp Y Nn t1 t2 => ?_) ⟨none, rfl⟩ (by simp; exact small (by omega)) fun ρ' => ?_
  · refine ⟨_, rfl, _, rfl, rfl, flat_nat _, _, rfl, ?_⟩
    rw [if_pos rfl, inD_nat]
    refine ite_of (fun e => ⟨_, rfl, t1 ?_⟩) (fun e => t2 ?_)
    · simpa using e
    · simpa using e
  rw [List.nil_append]
  refine (?_ : True ∧ _)
  refine ⟨trivial, ?_⟩
  refine ⟨_, rfl, by show 0 ≤ sizeLine; decide, eq_nilN (l := outP n first) ⟨_, rfl, ite_of (fun e => ?_) (fun e => ?_)⟩⟩
  · have e0 : outP n first = [] := by simpa using e
    refine ⟨_, rfl, _, rfl, n, first, lessT ts a b, rfl, F.pts, pl.2.1, by omega, ll, TL.lt1, TL.nd, fun t ht => (F.cl t ht).mp, F.good TL, by show 1 ≤ sizeLine; decide, ?_⟩
    have := q first F
    unfold partsW at this
    rw [if_pos e0] at this
    exact this
  · have e0 : outP n first ≠ [] := by
      intro z
      rw [z] at e; cases e
    refine ⟨_, rfl, _, rfl, n, first, lessT ts a b, rfl, F.pts, pl.2.1, by omega, ll, TL.lt1, TL.nd, fun t ht => (F.cl t ht).mp, F.good TL, ?_⟩
    refine ⟨_, rfl, _, rfl, n, outP n first, lessT ts a b, rfl, outP_pts n first, List.length_pos_iff.mpr e0, by omega, ll, TL.lt1, TL.nd, fun t ht => (F.clO TL t ht).mp, F.rest T he con, by show 2 ≤ sizeLine; decide, ?_⟩
    have := q first F
    unfold partsW at this
    rw [if_neg e0] at this
    exact this
/-! ### powers times powers -/
def ev1 (l : List Int) (x : Int) : Nat → Int
  | 0 => 0
  | j + 1 => ev1 l x j + l.getD j 0 * x ^ j
theorem ev1_cons (a : Int) (l : List Int) (x : Int) : ∀ j, ev1 (a :: l) x (j + 1) = a + x * ev1 l x j
  | 0 => by simp [ev1]
  | j + 1 => by
    rw [ev1, ev1_cons a l x j, ev1, List.getD_cons_succ, Int.mul_add, Int.pow_succ]
    have : l.getD j 0 * (x ^ j * x) = x * (l.getD j 0 * x ^ j) := by rw [← Int.mul_assoc, Int.mul_comm]
    omega
theorem ev_ev1 (x : Int) : ∀ l : List Int, ev l x = ev1 l x l.length
  | [] => rfl
  | a :: l => by rw [ev_cons, List.length_cons, ev1_cons, ev_ev1 x l, Int.mul_comm]; omega
theorem ev_set (x c : Int) : ∀ (l : List Int) (i : Nat), i < l.length → ev (l.set i (l.getD i 0 + c)) x = ev l x + c * x ^ i
  | [], i, h => by simp at h
  | a :: l, 0, h => by
    rw [List.set_cons_zero, List.getD_cons_zero, ev_cons, ev_cons]; simp; omega
  | a :: l, i + 1, h => by
    rw [List.set_cons_succ, List.getD_cons_succ, ev_cons, ev_cons, ev_set x c l i (by simpa using h), Int.add_mul, Int.pow_succ, Int.mul_assoc]
    omega
def spTimes : DSp := fun ds P => ∃ (u v : List Int), ds = [.lst (intsD u), .lst (intsD v)] ∧ 1 ≤ u.length ∧ 1 ≤ v.length ∧ u.length ≤ 20 ∧ v.length ≤ 20 ∧ (∀ a ∈ u, a.natAbs ≤ 40320) ∧ (∀ a ∈ v, a.natAbs ≤ 40320) ∧ ∀ c : List Int, c.length + 1 = u.length + v.length → (∀ x : Int, ev c x = ev u x * ev v x) → P (.lst (intsD c))
theorem getD_memI {l : List Int} {i : Nat} (h : i < l.length) : l.getD i 0 ∈ l := by
  rw [List.getD_eq_getElem?_getD, List.getElem?_eq_getElem h]; exact List.getElem_mem h
theorem ok__law_times {P : Program} {w : World} {mg : Str → Option Value} {base : Heap} {Z : DC} (T : Txt Z mg) : FnOk P w Z.K mg base CX0 1 T.d__law_times.f T.d__law_times.fd ["_law_one", "_law_other"] (liftSp Z spTimes) := by
  have nd := sc__law_times.nd
  refine fn_data T.d__law_times.F sc__law_times [0, 0, 1, 0, 0] (by decide) (fun ds R h => by obtain ⟨_, _, rfl, _⟩ := h; rfl) (fun cdv A outer s H E ds R hr h => ?_)
  have hu := hr.units
  refine ⟨_, (dss_cons (ds_new 2 nd (df_rep (da_cons de_int da_nil) (de_op od_sub (de_op od_add (de_callB cd_len rfl T.B.len bd_len (da_cons (de_var 0) da_nil)) (de_callB cd_len rfl T.B.len bd_len (da_cons (de_var 1) da_nil))) de_int)))
      (dss_cons (ds_forR rfl PassesOwn.never (dr_range1 rfl T.B.range (da_cons (de_callB cd_len rfl T.B.len bd_len (da_cons (de_var 0) da_nil)) da_nil)) (dt_name 3 nd) (dss_one (ds_forR rfl PassesOwn.never (dr_range1 rfl T.B.range (da_cons (de_callB cd_len rfl T.B.len bd_len (da_cons (de_var 1) da_nil)) da_nil)) (dt_name 4 nd) (dss_one (ds_setix true 2 (de_op od_add (de_var 3) (de_var 4)) (de_op od_add (de_ix (de_var 2) (de_op od_add (de_var 3) (de_var 4))) (de_op od_mul (de_ix (de_var 0) (de_var 3)) (de_ix (de_var 1) (de_var 4)))))))))
      (dss_one (ds_ret (de_var 2))))), ?_⟩
  obtain ⟨u, v, rfl, u1, v1, u20, v20, us, vs, q⟩ := h
  have lu : (intsD u).length = u.length := intsD_len u
  have lv : (intsD v).length = v.length := intsD_len v
  obtain ⟨L, hL⟩ : ∃ L, L + 1 = u.length + v.length := ⟨u.length + v.length - 1, by omega⟩
  have eL : (((intsD u).length : Int) + ((intsD v).length : Int) - 1) = (L : Int) := by omega
  refine ⟨by show 1 ≤ sizeLine; decide, _, rfl, _, rfl, ?_⟩
  refine ⟨by show -(2 ^ 63) ≤ ((intsD u).length : Int) + ((intsD v).length : Int) - 1; omega, by show ((intsD u).length : Int) + ((intsD v).length : Int) - 1 < 2 ^ 63; omega, small (by show 1 * (((intsD u).length : Int) + ((intsD v).length : Int) - 1).toNat ≤ 1000; omega), ?_⟩
  have e0 : (List.replicate ((fun i j => i - j) (((intsD u).length : Int) + ((intsD v).length : Int)) (1 : Int)).toNat [D.int 0]).flatten = intsD (List.replicate L 0) := by
    show (List.replicate (((intsD u).length : Int) + ((intsD v).length : Int) - 1).toNat [D.int 0]).flatten = _
    rw [eL]
    rw [show ((L : Int)).toNat = L by omega]
    unfold intsD
    rw [List.map_replicate]
    clear eL hL
    induction L with
    | zero => rfl
    | succ L ih => rw [List.replicate_succ, List.flatten_cons, ih, List.replicate_succ]; rfl
  rw [e0]
  refine ⟨_, rfl, ⟨by omega, by show ((intsD u).length : Int) < 2 ^ 62; omega⟩, ?_⟩
  rw [show (((intsD u).length : Int)).toNat = u.length by omega]
  refine for_rng0 (fun k ρ => ∃ (c : List Int) (o3 o4 : Option D), ρ = [some (.lst (intsD u)), some (.lst (intsD v)), some (.lst (intsD c)), o3, o4] ∧ c.length = L ∧ ∀ x : Int, ev c x = ev1 u x k * ev v x) ⟨List.replicate L 0, _, _, rfl, by simp, fun x => by rw [ev_zero]; simp [ev1]⟩ ?_ ?_
  · rintro k _ hk ⟨c, o3, o4, rfl, cl, ce⟩ A hA
    refine ⟨_, rfl, ⟨by omega, by show ((intsD v).length : Int) < 2 ^ 62; omega⟩, ?_⟩
    rw [show (((intsD v).length : Int)).toNat = v.length by omega]
    refine for_rng0 (fun j ρ => ∃ (c : List Int) (o4 : Option D), ρ = [some (.lst (intsD u)), some (.lst (intsD v)), some (.lst (intsD c)), some (natD k), o4] ∧ c.length = L ∧ ∀ x : Int, ev c x = ev1 u x k * ev v x + u.getD k 0 * x ^ k * ev1 v x j) ⟨c, _, rfl, cl, fun x => by rw [ce x]; simp [ev1]⟩ ?_ ?_
    · rintro j _ hj ⟨c, o4, rfl, cl, ce⟩ A' hA'
      have hkj : k + j < c.length := by omega
      have gc : atI (intsD c) ((k : Int) + (j : Int)) = some (.int (c.getD (k + j) 0)) := by
        have := int_atI (l := c) (p := k + j) hkj
        rw [show (k : Int) + (j : Int) = ((k + j : Nat) : Int) by omega]
        exact this
      have bu := us _ (getD_memI hk)
      refine ⟨_, rfl, _, rfl, _, rfl, _, gc, _, rfl, _, rfl, _, int_atI hk, _, rfl, _, rfl, _, int_atI hj, .inl ⟨by omega, by omega⟩, rfl, ?_⟩
      refine ⟨_, rfl, _, rfl, _, rfl, _, k + j, rfl, ?_, ?_⟩
      · rw [intsD_len, show (k : Int) + (j : Int) = ((k + j : Nat) : Int) by omega]
        exact ixN_natD hkj
      · rw [intsD_set]
        refine hA' _ ⟨_, some (natD j), rfl, by rw [List.length_set]; exact cl, fun x => ?_⟩
        rw [ev_set _ _ _ _ hkj, ce x, ev1, Int.mul_add, Int.pow_add]
        have : u.getD k 0 * v.getD j 0 * (x ^ k * x ^ j) = u.getD k 0 * x ^ k * (v.getD j 0 * x ^ j) := by
          rw [Int.mul_assoc, Int.mul_assoc, Int.mul_left_comm (v.getD j 0)]
        omega
    · rintro _ ⟨c, o4, rfl, cl, ce⟩
      refine hA _ ⟨c, some (natD k), o4, rfl, cl, fun x => ?_⟩
      rw [ce x, ev1, ← ev_ev1, Int.add_mul]
  · rintro _ ⟨c, o3, o4, rfl, cl, ce⟩
    exact ⟨_, rfl, q c (by omega) fun x => by rw [ce x, ← ev_ev1]⟩
end K82

set_option Elab.async false
set_option linter.all false
set_option maxRecDepth 100000
set_option maxHeartbeats 4000000
namespace K82
open PySem L2 Wb
open Wy
theorem range_pts (n : Nat) : Pts n (List.range n) := ⟨List.pairwise_lt_range, fun x hx => List.mem_range.mp hx⟩
theorem idx_range {n x : Nat} (h : x < n) : (List.range n).idxOf x = x := by
  have := idxI (range_pts n).nd (i := x) (by simpa using h)
  rw [List.getD_eq_getElem?_getD, List.getElem?_range h] at this
  exact this
theorem subT_range {n : Nat} {ts : List (Nat × Nat)} (T : TO n ts) : subT (List.range n) ts = ts := by
  unfold subT
  have e1 : ts.filter (fun t => decide (t.1 ∈ List.range n)) = ts := List.filter_eq_self.mpr fun t h => by
    have := T.lt t h
    exact decide_eq_true (List.mem_range.mpr (by omega))
  rw [e1]
  have : ts.map (fun t => ((List.range n).idxOf t.1, (List.range n).idxOf t.2)) = ts.map id := List.map_congr_left fun t h => by
    have := T.lt t h
    rw [idx_range (by omega), idx_range this.2]; rfl
  rw [this, List.map_id]
theorem TiesOk.to {n : Nat} {ts : List (Nat × Nat)} (T : TiesOk n ts) : TO n ts := ⟨T.lt, T.nd⟩
/-- how many dyeings -/
def cn (w : W) (k : Nat) : Nat := (dyl (row w) k w.length).length
theorem ways_cn (w : W) (k : Nat) : ev (ways (row w) w.length) k = (cn w k : Int) := ways_count _ _ _
theorem cn_size (w : W) (k : Nat) (h : w.length ≤ 8) (hk : k < 2 ^ 200) : cn w k ≤ 2 ^ 1600 := by
  have h1 := dyl_size (row w) k w.length
  have h2 : k ^ w.length ≤ (2 ^ 200) ^ w.length := Nat.pow_le_pow_left (Nat.le_of_lt hk) _
  rw [← Nat.pow_mul] at h2
  have h3 : 2 ^ (200 * w.length) ≤ 2 ^ 1600 := pow_mono2 (by omega)
  exact Nat.le_trans h1 (Nat.le_trans h2 h3)
theorem law_count {n a b k : Nat} {ts found : List (Nat × Nat)} {first : List Nat} (T : TO n ts) (he : (a, b) ∈ ts) (F : Part n (lessT ts a b) first) (M : Merged n a b ts found) :
    cn (turnsOf n ts) k + cn (turnsOf (butP n b).length (subT (butP n b) found)) k = cn (wP first (lessT ts a b)) k * cn (wP (outP n first) (lessT ts a b)) k := by
  have TL : TO n (lessT ts a b) := ⟨fun t h => T.lt t (List.mem_filter.mp h).1, T.nd.filter _⟩
  have h1 := two_parts (k := k) TL F.pts (outP_pts n first) F.cl F.cov
  have h2 := made_one (k := k) T he M
  unfold cn wP
  rw [turnsOf_len, turnsOf_len, turnsOf_len, turnsOf_len]
  unfold lessT at h1 ⊢
  omega
theorem cn_nil (ts : List (Nat × Nat)) (k : Nat) : cn (wP [] ts) k = 1 := by
  unfold cn wP
  rw [turnsOf_len]; rfl
theorem sub_ev : ∀ (u v : List Int) (x : Int), u.length = v.length → ev (List.zipWith (· - ·) u v) x = ev u x - ev v x := fun u v x h => by
  have := ev_zip 1 u v x h
  have e : List.zipWith (fun a b => a - 1 * b) u v = List.zipWith (· - ·) u v := by
    congr 1; funext a b; omega
  rw [e] at this
  rw [this]; omega
theorem out_len {n : Nat} {ts : List (Nat × Nat)} {first : List Nat} (F : Part n ts first) : first.length + (outP n first).length = n := by
  have h1 := len_part (fun p => decide (p ∈ first)) (List.range n)
  rw [List.length_range] at h1
  have h2 := (range_filter F.pts.nd F.pts.lt).length_eq
  have h3 : (List.range n).filter (fun p => !decide (p ∈ first)) = outP n first := by
    unfold outP
    exact List.filter_congr fun x _ => by simp
  rw [h3, h2] at h1
  exact h1
theorem neSub {a m n : Int} {P : D → Prop} (h : P (.bl (!decide (a = m - n)))) : dSub (.int m) (.int n) (fun b => dNe (.int a) b P) := dNe_int h
theorem zip_range {u v : List Int} {m : Nat} (hu : u.length = m) (hv : v.length = m) : (List.range m).map (fun k => u.getD k 0 - v.getD k 0) = List.zipWith (· - ·) u v := by
  refine List.ext_getElem (by simp [hu, hv]) fun i h1 h2 => ?_
  have hi : i < m := by simpa using h1
  rw [List.getElem_map, List.getElem_range, List.getElem_zipWith, List.getD_eq_getElem?_getD, List.getD_eq_getElem?_getD, List.getElem?_eq_getElem (by omega), List.getElem?_eq_getElem (by omega)]; rfl
def loopQ (w1 w2 : W) (K : Nat) : Nat → Int → List Int → Prop
  | 0, du, pw => du = 1 ∧ pw = [1]
  | 1, du, pw => du = (cn w1 K : Int) ∧ pw = ways (row w1) w1.length
  | _ + 2, du, pw => du = (cn w1 K : Int) * cn w2 K ∧ pw.length = w1.length + w2.length + 1 ∧ ∀ x : Int, ev pw x = ev (ways (row w1) w1.length) x * ev (ways (row w2) w2.length) x
theorem at_ρ {P : DN → Prop} {ρ ρ' : DN} (e : ρ = ρ') (h : P ρ') : P ρ := by rw [e]; exact h
theorem ok_law {P : Program} {w : World} {mg : Str → Option Value} {base : Heap} {Z : DC} (T : Txt Z mg) : FnOk P w Z.K mg base CX0 8 T.d_law.f T.d_law.fd ["_law_script"] (liftSp Z spLawD) := by
  have g__law_cell_at := ok__law_cell_at (P := P) (w := w) (base := base) T
  have g__law_tied := ok__law_tied (P := P) (w := w) (base := base) T
  have g__law_times := ok__law_times (P := P) (w := w) (base := base) T
  have g__law_together := ok__law_together (P := P) (w := w) (base := base) T
  have g__law_web_of := ok__law_web_of (P := P) (w := w) (base := base) T
  have g__law_whole := ok__law_whole (P := P) (w := w) (base := base) T
  have g__law_without := ok__law_without (P := P) (w := w) (base := base) T
  have g_ways := (okF_ways (P := P) (w := w) (base := base) T).imp spF
  have g_ways_by := ok_ways_by (P := P) (w := w) (base := base) T
  have nd := sc_law.nd
  refine fn_data T.d_law.F sc_law [0, 0, 0, 0, 0, 0, 0, 0, 0, 0, 0, 0, 0, 0, 0, 0] (by decide) (fun ds R h => by obtain ⟨_, rfl, _⟩ := h; rfl) (fun cdv A outer s H E ds R hr h => ?_)
  have hu := hr.units
  refine ⟨_, (dss_cons (ds_set false 1 nd (de_op od_add de_int (de_op od_mod (de_call g__law_cell_at (hr.mono (by decide)) rfl T.d__law_cell_at.m T.d__law_cell_at.F.kp T.d__law_cell_at.b (da_cons (de_var 0) (da_cons de_int da_nil))) de_int)))
      (dss_cons (ds_set false 2 nd (de_call g__law_tied (hr.mono (by decide)) rfl T.d__law_tied.m T.d__law_tied.F.kp T.d__law_tied.b (da_cons (de_call g__law_cell_at (hr.mono (by decide)) rfl T.d__law_cell_at.m T.d__law_cell_at.F.kp T.d__law_cell_at.b (da_cons (de_var 0) (da_cons de_int da_nil))) (da_cons (de_call g__law_cell_at (hr.mono (by decide)) rfl T.d__law_cell_at.m T.d__law_cell_at.F.kp T.d__law_cell_at.b (da_cons (de_var 0) (da_cons de_int da_nil))) (da_cons (de_var 1) da_nil)))))
      (dss_cons (ds_set false 3 nd (de_ix (de_var 2) (de_op od_mod (de_call g__law_cell_at (hr.mono (by decide)) rfl T.d__law_cell_at.m T.d__law_cell_at.F.kp T.d__law_cell_at.b (da_cons (de_var 0) (da_cons de_int da_nil))) (de_callB cd_len rfl T.B.len bd_len (da_cons (de_var 2) da_nil)))))
      (dss_cons (ds_set false 4 nd (de_op od_mod (de_call g__law_cell_at (hr.mono (by decide)) rfl T.d__law_cell_at.m T.d__law_cell_at.F.kp T.d__law_cell_at.b (da_cons (de_var 0) (da_cons de_int da_nil))) (de_op od_pow de_int de_int)))
      (dss_cons (ds_set false 5 nd (de_call g__law_web_of (hr.mono (by decide)) rfl T.d__law_web_of.m T.d__law_web_of.F.kp T.d__law_web_of.b (da_cons (de_callTy (cd_listR rfl) rfl T.B.list bd_list (da_cons (de_callTy cd_rng1 rfl T.B.range bd_range (da_cons (de_var 1) da_nil)) da_nil)) (da_cons (de_var 2) da_nil))))
      (dss_cons (ds_set false 6 nd (de_call g__law_without (hr.mono (by decide)) rfl T.d__law_without.m T.d__law_without.F.kp T.d__law_without.b (da_cons (de_var 1) (da_cons (de_var 2) (da_cons (de_var 3) da_nil)))))
      (dss_cons (ds_set false 7 nd (de_call g__law_together (hr.mono (by decide)) rfl T.d__law_together.m T.d__law_together.F.kp T.d__law_together.b (da_cons (de_var 1) (da_cons (de_var 2) (da_cons (de_var 3) da_nil)))))
      (dss_cons (ds_set false 8 nd de_int)
      (dss_cons (ds_set false 9 nd (de_lst (da_cons de_int da_nil)))
      (dss_cons (ds_for rfl PassesOwn.never (di_list (de_var 6)) (dt_name 10 nd) (dss_cons (ds_set false 8 nd (de_op od_mulW (de_var 8) (de_call g_ways_by (hr.mono (by decide)) rfl T.d_ways_by.m T.d_ways_by.F.kp T.d_ways_by.b (da_cons (de_var 10) (da_cons (de_var 4) da_nil)))))
      (dss_one (ds_set false 9 nd (de_call g__law_times (hr.mono (by decide)) rfl T.d__law_times.m T.d__law_times.F.kp T.d__law_times.b (da_cons (de_var 9) (da_cons (de_call g_ways (hr.mono (by decide)) rfl T.d_ways.m T.d_ways.F.kp T.d_ways.b (da_cons (de_var 10) da_nil)) da_nil)))))))
      (dss_cons (ds_set false 11 nd (de_call g_ways_by (hr.mono (by decide)) rfl T.d_ways_by.m T.d_ways_by.F.kp T.d_ways_by.b (da_cons (de_var 5) (da_cons (de_var 4) da_nil))))
      (dss_cons (ds_if (DW.dt (dw_or (dt_not (dt_tru (de_call g__law_whole (hr.mono (by decide)) rfl T.d__law_whole.m T.d__law_whole.F.kp T.d__law_whole.b (da_cons (de_var 11) da_nil)))) (dw_or (dt_cmp od_lt (de_var 11) de_int (nomark _)) (dw_or1 (dt_cmp (od_ne hu) (de_var 11) (de_op od_sub (de_var 8) (de_call g_ways_by (hr.mono (by decide)) rfl T.d_ways_by.m T.d_ways_by.F.kp T.d_ways_by.b (da_cons (de_var 7) (da_cons (de_var 4) da_nil)))) (nomark _)))))) (dss_one (ds_ret de_bl)) dss_nil)
      (dss_cons (ds_set false 12 nd (de_op od_add (de_call g_ways (hr.mono (by decide)) rfl T.d_ways.m T.d_ways.F.kp T.d_ways.b (da_cons (de_var 7) da_nil)) (de_lst (da_cons de_int da_nil))))
      (dss_cons (ds_set false 13 nd (de_call g_ways (hr.mono (by decide)) rfl T.d_ways.m T.d_ways.F.kp T.d_ways.b (da_cons (de_var 5) da_nil)))
      (dss_cons (ds_set false 14 nd de_int)
      (dss_cons (ds_for rfl PassesOwn.never (di_rev rfl T.B.reversed (da_cons (de_var 13) da_nil)) (dt_name 15 nd) (dss_one (ds_set false 14 nd (de_op od_add (de_op od_mulW (de_var 14) (de_var 4)) (de_var 15)))))
      (dss_one (ds_ret (de_and (de_cmp (od_eq hu) (de_var 14) (de_var 11) (nomark _)) (de_one (de_cmp (od_eq hu) (de_var 13) (de_lc (NC := ["_law_k", "_law_powers", "_law_less"]) (src := [none, some 9, some 12]) rfl (CompOk.of (defScope s_law) rfl rfl (by decide +kernel) (by decide +kernel) (by decide +kernel)) ⟨rfl, rfl, rfl, rfl, trivial⟩ (di_range1 rfl T.B.range (da_cons (de_op od_add (de_var 1) de_int) da_nil)) (fun _ _ _ => (dg_name 0 (show (["_law_k", "_law_powers", "_law_less"] : List Str).Nodup from by decide +kernel))) (fun _ _ _ => dts_nil) (fun _ _ _ => (de_op od_sub (de_ix (de_var 1) (de_var 0)) (de_ix (de_var 2) (de_var 0))))) (nomark _)))))))))))))))))))))), ?_⟩
  obtain ⟨ns, rfl, hns, q⟩ := h
  refine ⟨_, rfl, ns, 0, rfl, fun v => ?_⟩
  refine ⟨(by show (0 : Int) < 7; decide), trivial, ?_⟩
  obtain ⟨n, hn, h2, h8⟩ : ∃ n : Nat, (2 : Int) + v % 7 = (n : Int) ∧ 2 ≤ n ∧ n ≤ 8 := by
    have := modOk v 7 (by decide)
    exact ⟨(2 + v % 7).toNat, by omega, by omega, by omega⟩
  have e1 : D.int (2 + v % 7) = natD n := by unfold natD; rw [hn]
  dsimp only
  rw [e1]
  refine ⟨_, rfl, ns, 1, rfl, fun v1 => ⟨_, rfl, ns, 2, rfl, fun v2 => ⟨_, rfl, v1, v2, n, rfl, by omega, by omega, fun ts T0 tl => ⟨trivial, ?_⟩⟩⟩⟩
  refine at_ρ (ρ' := [some (.scr ns), some (natD n), some (.lst (ts.map pairD)), none, none, none, none, none, none, none, none, none, none, none, none, none]) rfl ?_
  have T : TO n ts := TiesOk.to T0
  have G0 := good_turns (by omega) T0
  have con : ∀ p, p < n → Reach (turnsOf n ts) 0 p := fun p hp => G0.con p (by rw [turnsOf_len]; exact hp)
  obtain ⟨p1, hp1⟩ := T0.sure 1 (by omega) (by omega)
  have tpos : 0 < ts.length := List.length_pos_of_mem hp1
  have lts : (ts.map pairD).length = ts.length := List.length_map _
  refine ⟨_, rfl, _, rfl, ns, 3, rfl, fun v3 => ⟨_, rfl, by show (0 : Int) < ((ts.map pairD).length : Int); omega, ?_⟩⟩
  obtain ⟨i, hi, hi2⟩ : ∃ i : Nat, v3 % ((ts.map pairD).length : Int) = (i : Int) ∧ i < ts.length := by
    have := modOk v3 ((ts.map pairD).length : Int) (by omega)
    exact ⟨(v3 % ((ts.map pairD).length : Int)).toNat, by omega, by omega⟩
  obtain ⟨⟨a, b⟩, hte⟩ : ∃ t, ts[i] = t := ⟨_, rfl⟩
  have he : (a, b) ∈ ts := by rw [← hte]; exact List.getElem_mem hi2
  have gi : atI (ts.map pairD) (v3 % ((ts.map pairD).length : Int)) = some (pairD (a, b)) := by
    rw [hi]
    exact atI_natD (by rw [List.getElem?_map, List.getElem?_eq_getElem hi2, hte]; rfl)
  refine ⟨_, gi, trivial, ?_⟩
  have hab := T.lt _ he
  have hab1 : a < b := hab.1
  have hab2 : b < n := hab.2
  refine ⟨_, rfl, ns, 4, rfl, fun v4 => ⟨⟨by decide, by decide, by decide⟩, (by show (0 : Int) < 10 ^ 60; decide), trivial, ?_⟩⟩
  obtain ⟨K, hK, hK2⟩ : ∃ K : Nat, (v4 % (10 ^ ((60 : Int).toNat))) = (K : Int) ∧ K < 2 ^ 200 := by
    have e60 : (10 : Int) ^ ((60 : Int).toNat) = 1000000000000000000000000000000000000000000000000000000000000 := by decide
    have m := modOk v4 (10 ^ ((60 : Int).toNat)) (by decide)
    rw [e60] at m ⊢
    exact ⟨(v4 % 1000000000000000000000000000000000000000000000000000000000000).toNat, by omega, by omega⟩
  dsimp only
  rw [hK]
  refine at_ρ (ρ' := [some (.scr ns), some (natD n), some (.lst (ts.map pairD)), some (pairD (a, b)), some (.int (K : Int)), none, none, none, none, none, none, none, none, none, none, none]) rfl ?_
  have erng : D.lst (rangeD 0 ((n : Int) - 0).toNat) = rowW (List.range n) := by rw [show ((n : Int) - 0).toNat = n by omega, range_map]; rfl
  have ew : turnsOf (List.range n).length (subT (List.range n) ts) = turnsOf n ts := by rw [List.length_range, subT_range T]
  refine ⟨_, rfl, (n : Int), rfl, 0, (n : Int), rfl, ⟨by decide, by decide, by omega, by omega, by omega⟩, _, rfl, n, List.range n, ts, by rw [erng], range_pts n, by simp; omega, by simp; omega, tl, T.lt1, T.nd, fun t ht _ => List.mem_range.mpr (T.lt t ht).2, by rw [ew]; exact G0, trivial, ?_⟩
  rw [ew]
  refine at_ρ (ρ' := [some (.scr ns), some (natD n), some (.lst (ts.map pairD)), some (pairD (a, b)), some (.int (K : Int)), some (.web (turnsOf n ts)), none, none, none, none, none, none, none, none, none, none]) rfl ?_
  refine ⟨_, rfl, _, rfl, _, rfl, n, a, b, ts, rfl, T, he, con, h2, h8, tl, fun first F => ⟨trivial, ?_⟩⟩
  refine at_ρ (ρ' := [some (.scr ns), some (natD n), some (.lst (ts.map pairD)), some (pairD (a, b)), some (.int (K : Int)), some (.web (turnsOf n ts)), some (.lst ((partsW n (lessT ts a b) first).map D.web)), none, none, none, none, none, none, none, none, none]) rfl ?_
  refine ⟨_, rfl, _, rfl, _, rfl, n, a, b, ts, rfl, T, he, con, h2, h8, tl, fun found M => ⟨trivial, ?_⟩⟩
  refine at_ρ (ρ' := [some (.scr ns), some (natD n), some (.lst (ts.map pairD)), some (pairD (a, b)), some (.int (K : Int)), some (.web (turnsOf n ts)), some (.lst ((partsW n (lessT ts a b) first).map D.web)), some (.web (turnsOf (butP n b).length (subT (butP n b) found))), none, none, none, none, none, none, none, none]) rfl ?_
  refine ⟨trivial, ?_⟩
  refine ⟨by show 1 ≤ sizeLine; decide, trivial, ?_⟩
  have pl := part_len F
  have ol := out_len F
  have bl := butP_len hab2
  have lc : ∀ k, cn (turnsOf n ts) k + cn (turnsOf (butP n b).length (subT (butP n b) found)) k = cn (wP first (lessT ts a b)) k * cn (wP (outP n first) (lessT ts a b)) k := fun k => law_count T he F M
  have hw1 : (wP first (lessT ts a b)).length = first.length := turnsOf_len _ _
  have hw2 : (wP (outP n first) (lessT ts a b)).length = (outP n first).length := turnsOf_len _ _
  have hwm : (turnsOf (butP n b).length (subT (butP n b) found)).length = (butP n b).length := turnsOf_len _ _
  have hL : ∀ j p, (partsW n (lessT ts a b) first)[j]? = some p → (j = 0 ∧ p = wP first (lessT ts a b)) ∨ (j = 1 ∧ p = wP (outP n first) (lessT ts a b) ∧ outP n first ≠ []) := fun j p hp => by
    unfold partsW at hp
    by_cases e0 : outP n first = []
    · rw [if_pos e0] at hp
      match j, hp with
      | 0, hp => exact .inl ⟨rfl, (Option.some.inj hp).symm⟩
      | _ + 1, hp => simp at hp
    · rw [if_neg e0] at hp
      match j, hp with
      | 0, hp => exact .inl ⟨rfl, (Option.some.inj hp).symm⟩
      | 1, hp => exact .inr ⟨rfl, (Option.some.inj hp).symm, e0⟩
      | _ + 2, hp => simp at hp
  have hLe : ((partsW n (lessT ts a b) first).length = 1 ∧ outP n first = []) ∨ (partsW n (lessT ts a b) first).length = 2 := by
    unfold partsW
    by_cases e0 : outP n first = []
    · rw [if_pos e0]; exact .inl ⟨rfl, e0⟩
    · rw [if_neg e0]; exact .inr rfl
  have c2nil : outP n first = [] → ∀ k, cn (wP (outP n first) (lessT ts a b)) k = 1 := fun e k => by rw [e]; exact cn_nil _ _
  generalize partsW n (lessT ts a b) first = L at hL hLe
  generalize hg1 : wP first (lessT ts a b) = w1 at hL lc hw1
  generalize hg2 : wP (outP n first) (lessT ts a b) = w2 at hL lc hw2 c2nil
  generalize hgm : turnsOf (butP n b).length (subT (butP n b) found) = wm at lc hwm
  generalize hg0 : turnsOf n ts = w0 at lc
  have hw0 : w0.length = n := by rw [← hg0, turnsOf_len]
  have natK : ((K : Int)).natAbs < 2 ^ 200 := by rw [Int.natAbs_natCast]; exact hK2
  have big : ∀ c : Nat, c ≤ 2 ^ 1600 → ((c : Int)).natAbs < 2 ^ 10000 := fun c hc => by
    rw [Int.natAbs_natCast]
    exact Nat.lt_of_le_of_lt hc (Nat.pow_lt_pow_right (by decide) (by decide))
  have lLD : (L.map D.web).length = L.length := List.length_map _
  refine ⟨_, rfl, for_inv (fun j ρ => ∃ (du : Int) (pw : List Int) (o10 : Option D), ρ = [some (.scr ns), some (natD n), some (.lst (ts.map pairD)), some (pairD (a, b)), some (.int (K : Int)), some (.web w0), some (.lst (L.map D.web)), some (.web wm), some (.int du), some (.lst (intsD pw)), o10, none, none, none, none, none] ∧ loopQ w1 w2 K j du pw) ⟨1, [1], _, rfl, rfl, rfl⟩ ?_ ?_⟩
  · rintro j d _ hd ⟨du, pw, o10, rfl, Q⟩ A hA
    obtain ⟨p, hp, rfl⟩ := map_get hd
    rcases hL j p hp with ⟨rfl, rfl⟩ | ⟨rfl, rfl, e0⟩
    · obtain ⟨rfl, rfl⟩ := Q
      refine ⟨_, rfl, _, rfl, _, rfl, p, (K : Int), rfl, by omega, by omega, natK, ⟨by decide, by rw [ways_cn]; exact big _ (cn_size p K (by omega) hK2)⟩, trivial, ?_⟩
      refine ⟨_, rfl, _, rfl, p, rfl, by omega, by omega, [1], ways (row p) p.length, rfl, by simp, by rw [ways_len]; omega, by simp, by rw [ways_len]; omega, by simp, fun x hx => ways_size (by omega) hx, fun c cl ce => ⟨trivial, hA _ ⟨_, c, _, rfl, ?_, ?_⟩⟩⟩
      · rw [ways_cn]; exact Int.one_mul _
      · refine ev_inj _ _ 0 (by rw [ways_len] at cl ⊢; simp at cl; omega) fun k _ => ?_
        rw [ce]
        have : ev [1] (k : Int) = 1 := by simp [ev]
        rw [this, Int.one_mul]
    · obtain ⟨rfl, rfl⟩ := Q
      have ho := List.length_pos_iff.mpr e0
      have bA := big _ (cn_size w1 K (by omega) hK2)
      have bB := big _ (cn_size p K (by omega) hK2)
      rw [← ways_cn] at bB
      generalize hc1 : (cn w1 K : Int) = c1 at bA hA ⊢
      refine ⟨_, rfl, ?_⟩
      refine ⟨_, rfl, ?_⟩
      refine ⟨_, rfl, ?_⟩
      refine ⟨p, (K : Int), rfl, by omega, by omega, natK, ?_⟩
      refine ⟨⟨bA, bB⟩, trivial, ?_⟩
      refine ⟨_, rfl, _, rfl, p, rfl, by omega, by omega, ways (row w1) w1.length, ways (row p) p.length, rfl, by rw [ways_len]; omega, by rw [ways_len]; omega, by rw [ways_len]; omega, by rw [ways_len]; omega, fun x hx => ways_size (by omega) hx, fun x hx => ways_size (by omega) hx, fun c cl ce => ⟨trivial, hA _ ⟨_, c, _, rfl, ?_, ?_, ce⟩⟩⟩
      · rw [ways_cn, ← hc1]
      · rw [ways_len, ways_len] at cl; omega
  · rintro _ ⟨du, pw, o10, rfl, Q⟩
    rw [lLD] at Q
    obtain ⟨hdu, pwl, pwe⟩ : du = (cn w1 K : Int) * cn w2 K ∧ pw.length = n + 1 ∧ ∀ k : Nat, ev pw k = (cn w1 k : Int) * cn w2 k := by
      rcases hLe with ⟨e, e0⟩ | e
      · rw [e] at Q
        obtain ⟨rfl, rfl⟩ := Q
        have hz : (outP n first).length = 0 := by rw [e0]; rfl
        refine ⟨by rw [c2nil e0]; simp, by rw [ways_len]; omega, fun k => by rw [ways_cn, c2nil e0]; simp⟩
      · rw [e] at Q
        obtain ⟨h1, h3, h4⟩ := Q
        exact ⟨h1, by omega, fun k => by rw [h4, ways_cn, ways_cn]⟩
    refine ⟨_, rfl, _, rfl, w0, (K : Int), rfl, by omega, by omega, natK, trivial, ?_⟩
    rw [ways_cn]
    refine ⟨_, rfl, _, rfl, rfl, iteF ?_⟩
    refine ⟨_, rfl, ⟨_, rfl, iteN (decide_eq_false (by omega)) ?_⟩⟩
    refine ⟨_, rfl, _, rfl, _, rfl, _, rfl, wm, (K : Int), rfl, by omega, by omega, natK, ?_⟩
    refine neSub ⟨_, rfl, iteN ?_ ?_⟩
    · have : decide ((cn w0 K : Int) = du - ev (ways (row wm) wm.length) (K : Int)) = true := decide_eq_true (by
        rw [ways_cn, hdu]
        have := lc K
        have : ((cn w0 K : Int) + cn wm K) = (cn w1 K : Int) * cn w2 K := by exact_mod_cast this
        omega)
      rw [this]; rfl
    refine ⟨_, rfl, wm, rfl, by omega, by omega, by show 1 ≤ sizeLine; decide, ?_, trivial, ?_⟩
    · rw [intsD_len, ways_len]; exact small (by show wm.length + 1 + 1 ≤ 1000; omega)
    have el : D.lst (intsD (ways (row wm) wm.length) ++ [D.int 0]) = .lst (intsD (ways (row wm) wm.length ++ [0])) := by unfold intsD; rw [List.map_append]; rfl
    rw [el]
    refine ⟨_, rfl, w0, rfl, by omega, by omega, trivial, ?_⟩
    refine ⟨trivial, ?_⟩
    have sz : ∀ x ∈ ways (row w0) w0.length, x.natAbs < 2 ^ 16 := fun x hx => by have := ways_size (by omega) hx; omega
    have ll := ways_len (row w0) w0.length
    have wev : ∀ k : Nat, ev (ways (row w0) w0.length) k = (cn w0 k : Int) := ways_cn w0
    generalize ways (row w0) w0.length = l at sz ll wev
    have er : (intsD l).reverse = l.reverse.map D.int := by unfold intsD; rw [List.map_reverse]
    refine ⟨_, rfl, ?_⟩
    refine (?_ : forW _ _ _ (intsD l).reverse _)
    rw [er]
    refine for_inv (fun j ρ => ∃ (o15 : Option D) (t : Int), ρ = [some (.scr ns), some (natD n), some (.lst (ts.map pairD)), some (pairD (a, b)), some (.int (K : Int)), some (.web w0), some (.lst (L.map D.web)), some (.web wm), some (.int du), some (.lst (intsD pw)), o10, some (.int (cn w0 K : Int)), some (.lst (intsD (ways (row wm) wm.length ++ [0]))), some (.lst (intsD l)), some (.int t), o15] ∧ t = (l.reverse.take j).foldl (fun t a => t * (K : Int) + a) 0 ∧ t.natAbs < 2 ^ (16 + j * 201)) ⟨_, 0, rfl, rfl, by decide⟩ ?_ ?_
    · rintro j d _ hd ⟨o15, t, rfl, et, ht⟩ A hA
      obtain ⟨x, hx, rfl⟩ := map_get hd
      have hj : j < l.length := by have := (List.getElem?_eq_some_iff.mp hx).1; simpa using this
      have hxm : x ∈ l := List.mem_reverse.mp (List.mem_of_getElem? hx)
      refine ⟨_, rfl, _, rfl, ⟨Nat.lt_of_lt_of_le ht (pow_mono2 (by omega)), Nat.lt_of_lt_of_le natK (pow_mono2 (by omega))⟩, _, rfl, trivial, hA _ ⟨some (.int x), t * (K : Int) + x, rfl, ?_, ?_⟩⟩
      · rw [List.take_succ, hx, Option.toList_some, List.foldl_append, et]; rfl
      · have := grow_bits ht natK (Nat.lt_of_lt_of_le (sz x hxm) (pow_mono2 (by omega)))
        rw [show 16 + (j + 1) * 201 = 16 + j * 201 + (200 + 1) by omega]
        exact this
    · rintro _ ⟨o15, t, rfl, et, ht⟩
      rw [List.length_map, List.take_length, ev_rev, wev] at et
      subst et
      refine ⟨_, rfl, _, rfl, dEq_int ⟨_, rfl, iteE (decide_eq_true rfl) ?_⟩⟩
      refine ⟨_, rfl, _, rfl, ⟨by show -(2 ^ 62) ≤ (n : Int) + 1; omega, by show (n : Int) + 1 < 2 ^ 62; omega⟩, ?_⟩
      rw [show ((n : Int) + 1).toNat = n + 1 by omega, range_map]
      have mlen : (ways (row wm) wm.length ++ [0]).length = n + 1 := by rw [List.length_append, ways_len]; show wm.length + 1 + 1 = n + 1; omega
      refine lc_all (ρ := [none, some (.lst (intsD pw)), some (.lst (intsD (ways (row wm) wm.length ++ [0])))]) natD (fun k => D.int (pw.getD k 0 - (ways (row wm) wm.length ++ [0]).getD k 0)) (List.range (n + 1)) _ (fun k hk Y hY => ?_) rfl (small (by simp; omega)) fun ρ' => ?_
      · have hk := List.mem_range.mp hk
        exact ⟨_, rfl, _, rfl, _, int_atI (by omega), _, rfl, _, rfl, _, int_atI (by omega), hY⟩
      · have ef : D.lst ((List.range (n + 1)).map fun k => D.int (pw.getD k 0 - (ways (row wm) wm.length ++ [0]).getD k 0)) = .lst (intsD (List.zipWith (· - ·) pw (ways (row wm) wm.length ++ [0]))) := by
          rw [← zip_range pwl mlen]
          unfold intsD
          rw [List.map_map]; rfl
        refine (?_ : dEq (.lst (intsD l)) (.lst ((List.range (n + 1)).map fun k => D.int (pw.getD k 0 - (ways (row wm) wm.length ++ [0]).getD k 0))) _)
        rw [ef]
        refine dEq_ints ?_
        have e : l = List.zipWith (· - ·) pw (ways (row wm) wm.length ++ [0]) := ev_inj _ _ 0 (by rw [List.length_zipWith, pwl, mlen, ll, hw0]; simp) fun k _ => by
          rw [sub_ev _ _ _ (by omega), ev_snoc0, ways_cn, wev, pwe]
          have := lc k
          have : ((cn w0 k : Int) + cn wm k) = (cn w1 k : Int) * cn w2 k := by exact_mod_cast this
          omega
        rw [decide_eq_true e]
        exact q

theorem all_mk {l : PySem.W.OpenLaw} {w : World} {K : PySem.W.Frag} {h : Heap} {mg : Str → Option Value} {fa C : Addr} {tk1 : Tok} {tk2 : Tok} (X : K.In h) (G : h.Ns mainGlobals mg) (hfa : mg "law" = some (.ref fa))
    {d0 : Addr} {od0 an0 : Option Addr} {sl0 : Array (Option Value)} {oc0 kV0 dc0 pm0 cd0 ct0 : Value}
    {d1 : Addr} {od1 an1 : Option Addr} {sl1 : Array (Option Value)} {oc1 kV1 dc1 pm1 cd1 ct1 : Value}
    {d2 : Addr} {od2 an2 : Option Addr} {sl2 : Array (Option Value)} {oc2 kV2 dc2 pm2 cd2 ct2 : Value}
    {d3 : Addr} {od3 an3 : Option Addr} {sl3 : Array (Option Value)} {oc3 kV3 dc3 pm3 cd3 ct3 : Value}
    {d4 : Addr} {od4 an4 : Option Addr} {sl4 : Array (Option Value)} {oc4 kV4 dc4 pm4 cd4 ct4 : Value}
    {d5 : Addr} {od5 an5 : Option Addr} {sl5 : Array (Option Value)} {oc5 kV5 dc5 pm5 cd5 ct5 : Value}
    {d6 : Addr} {od6 an6 : Option Addr} {sl6 : Array (Option Value)} {oc6 kV6 dc6 pm6 cd6 ct6 : Value}
    {d7 : Addr} {od7 an7 : Option Addr} {sl7 : Array (Option Value)} {oc7 kV7 dc7 pm7 cd7 ct7 : Value}
    {d8 : Addr} {od8 an8 : Option Addr} {sl8 : Array (Option Value)} {oc8 kV8 dc8 pm8 cd8 ct8 : Value}
    {d9 : Addr} {od9 an9 : Option Addr} {sl9 : Array (Option Value)} {oc9 kV9 dc9 pm9 cd9 ct9 : Value}
    {d10 : Addr} {od10 an10 : Option Addr} {sl10 : Array (Option Value)} {oc10 kV10 dc10 pm10 cd10 ct10 : Value}
    {d11 : Addr} {od11 an11 : Option Addr} {sl11 : Array (Option Value)} {oc11 kV11 dc11 pm11 cd11 ct11 : Value}
    {d12 : Addr} {od12 an12 : Option Addr} {sl12 : Array (Option Value)} {oc12 kV12 dc12 pm12 cd12 ct12 : Value}
    {d13 : Addr} {od13 an13 : Option Addr} {sl13 : Array (Option Value)} {oc13 kV13 dc13 pm13 cd13 ct13 : Value}
    {d14 : Addr} {od14 an14 : Option Addr} {sl14 : Array (Option Value)} {oc14 kV14 dc14 pm14 cd14 ct14 : Value}
    {d15 : Addr} {od15 an15 : Option Addr} {sl15 : Array (Option Value)} {oc15 kV15 dc15 pm15 cd15 ct15 : Value}
    {d16 : Addr} {od16 an16 : Option Addr} {sl16 : Array (Option Value)} {oc16 kV16 dc16 pm16 cd16 ct16 : Value}
    {d17 : Addr} {od17 an17 : Option Addr} {sl17 : Array (Option Value)} {oc17 kV17 dc17 pm17 cd17 ct17 : Value}
    {d18 : Addr} {od18 an18 : Option Addr} {sl18 : Array (Option Value)} {oc18 kV18 dc18 pm18 cd18 ct18 : Value}
    {d19 : Addr} {od19 an19 : Option Addr} {sl19 : Array (Option Value)} {oc19 kV19 dc19 pm19 cd19 ct19 : Value}
    {d20 : Addr} {od20 an20 : Option Addr} {sl20 : Array (Option Value)} {oc20 kV20 dc20 pm20 cd20 ct20 : Value}
    {d21 : Addr} {od21 an21 : Option Addr} {sl21 : Array (Option Value)} {oc21 kV21 dc21 pm21 cd21 ct21 : Value}
    {d22 : Addr} {od22 an22 : Option Addr} {sl22 : Array (Option Value)} {oc22 kV22 dc22 pm22 cd22 ct22 : Value}
    {d23 : Addr} {od23 an23 : Option Addr} {sl23 : Array (Option Value)} {oc23 kV23 dc23 pm23 cd23 ct23 : Value}
    {i0 : Addr} {jd0 jn0 : Option Addr} {js0 : Array (Option Value)} {jc0 jk0 jo0 jp0 jq0 jt0 : Value}
    {i1 : Addr} {jd1 jn1 : Option Addr} {js1 : Array (Option Value)} {jc1 jk1 jo1 jp1 jq1 jt1 : Value}
    {i2 : Addr} {jd2 jn2 : Option Addr} {js2 : Array (Option Value)} {jc2 jk2 jo2 jp2 jq2 jt2 : Value}
    {i3 : Addr} {jd3 jn3 : Option Addr} {js3 : Array (Option Value)} {jc3 jk3 jo3 jp3 jq3 jt3 : Value}
    {i4 : Addr} {jd4 jn4 : Option Addr} {js4 : Array (Option Value)} {jc4 jk4 jo4 jp4 jq4 jt4 : Value}
    {i5 : Addr} {jd5 jn5 : Option Addr} {js5 : Array (Option Value)} {jc5 jk5 jo5 jp5 jq5 jt5 : Value}
    (gC : PySem.W.nsIn K mainGlobals "Web" = some (some (.ref C)))
    (a0 : PySem.W.nsIn K mainGlobals "is_among" = some (some (.ref d0)))
    (l0 : K.lookup d0 = some ⟨oc0, od0, .func (PySem.W.fnOf "is_among" "is_among" (defArgs s_is_among) (defBody s_is_among) (defScope s_is_among) .none kV0 dc0 pm0 an0 cd0 ct0), sl0⟩)
    (c0 : PySem.W.codeIn K cd0 "is_among" = true)
    (k0 : PySem.W.keepIn K (.ref d0) = true)
    (a1 : PySem.W.nsIn K mainGlobals "alien_fault" = some (some (.ref d1)))
    (l1 : K.lookup d1 = some ⟨oc1, od1, .func (PySem.W.fnOf "alien_fault" "alien_fault" (defArgs s_alien_fault) (defBody s_alien_fault) (defScope s_alien_fault) .none kV1 dc1 pm1 an1 cd1 ct1), sl1⟩)
    (c1 : PySem.W.codeIn K cd1 "alien_fault" = true)
    (k1 : PySem.W.keepIn K (.ref d1) = true)
    (a2 : PySem.W.nsIn K mainGlobals "self_fault" = some (some (.ref d2)))
    (l2 : K.lookup d2 = some ⟨oc2, od2, .func (PySem.W.fnOf "self_fault" "self_fault" (defArgs s_self_fault) (defBody s_self_fault) (defScope s_self_fault) .none kV2 dc2 pm2 an2 cd2 ct2), sl2⟩)
    (c2 : PySem.W.codeIn K cd2 "self_fault" = true)
    (k2 : PySem.W.keepIn K (.ref d2) = true)
    (a3 : PySem.W.nsIn K mainGlobals "twice_fault" = some (some (.ref d3)))
    (l3 : K.lookup d3 = some ⟨oc3, od3, .func (PySem.W.fnOf "twice_fault" "twice_fault" (defArgs s_twice_fault) (defBody s_twice_fault) (defScope s_twice_fault) .none kV3 dc3 pm3 an3 cd3 ct3), sl3⟩)
    (c3 : PySem.W.codeIn K cd3 "twice_fault" = true)
    (k3 : PySem.W.keepIn K (.ref d3) = true)
    (a4 : PySem.W.nsIn K mainGlobals "lone_fault" = some (some (.ref d4)))
    (l4 : K.lookup d4 = some ⟨oc4, od4, .func (PySem.W.fnOf "lone_fault" "lone_fault" (defArgs s_lone_fault) (defBody s_lone_fault) (defScope s_lone_fault) .none kV4 dc4 pm4 an4 cd4 ct4), sl4⟩)
    (c4 : PySem.W.codeIn K cd4 "lone_fault" = true)
    (k4 : PySem.W.keepIn K (.ref d4) = true)
    (a5 : PySem.W.nsIn K mainGlobals "reached_from_first" = some (some (.ref d5)))
    (l5 : K.lookup d5 = some ⟨oc5, od5, .func (PySem.W.fnOf "reached_from_first" "reached_from_first" (defArgs s_reached_from_first) (defBody s_reached_from_first) (defScope s_reached_from_first) .none kV5 dc5 pm5 an5 cd5 ct5), sl5⟩)
    (c5 : PySem.W.codeIn K cd5 "reached_from_first" = true)
    (k5 : PySem.W.keepIn K (.ref d5) = true)
    (a6 : PySem.W.nsIn K mainGlobals "apart_fault" = some (some (.ref d6)))
    (l6 : K.lookup d6 = some ⟨oc6, od6, .func (PySem.W.fnOf "apart_fault" "apart_fault" (defArgs s_apart_fault) (defBody s_apart_fault) (defScope s_apart_fault) .none kV6 dc6 pm6 an6 cd6 ct6), sl6⟩)
    (c6 : PySem.W.codeIn K cd6 "apart_fault" = true)
    (k6 : PySem.W.keepIn K (.ref d6) = true)
    (a7 : PySem.W.nsIn K mainGlobals "first_fault" = some (some (.ref d7)))
    (l7 : K.lookup d7 = some ⟨oc7, od7, .func (PySem.W.fnOf "first_fault" "first_fault" (defArgs s_first_fault) (defBody s_first_fault) (defScope s_first_fault) .none kV7 dc7 pm7 an7 cd7 ct7), sl7⟩)
    (c7 : PySem.W.codeIn K cd7 "first_fault" = true)
    (k7 : PySem.W.keepIn K (.ref d7) = true)
    (a8 : PySem.W.nsIn K mainGlobals "need_at_most" = some (some (.ref d8)))
    (l8 : K.lookup d8 = some ⟨oc8, od8, .func (PySem.W.fnOf "need_at_most" "need_at_most" (defArgs s_need_at_most) (defBody s_need_at_most) (defScope s_need_at_most) .none kV8 dc8 pm8 an8 cd8 ct8), sl8⟩)
    (c8 : PySem.W.codeIn K cd8 "need_at_most" = true)
    (k8 : PySem.W.keepIn K (.ref d8) = true)
    (a9 : PySem.W.nsIn K mainGlobals "parts_with" = some (some (.ref d9)))
    (l9 : K.lookup d9 = some ⟨oc9, od9, .func (PySem.W.fnOf "parts_with" "parts_with" (defArgs s_parts_with) (defBody s_parts_with) (defScope s_parts_with) .none kV9 dc9 pm9 an9 cd9 ct9), sl9⟩)
    (c9 : PySem.W.codeIn K cd9 "parts_with" = true)
    (k9 : PySem.W.keepIn K (.ref d9) = true)
    (a10 : PySem.W.nsIn K mainGlobals "counted_by_parts" = some (some (.ref d10)))
    (l10 : K.lookup d10 = some ⟨oc10, od10, .func (PySem.W.fnOf "counted_by_parts" "counted_by_parts" (defArgs s_counted_by_parts) (defBody s_counted_by_parts) (defScope s_counted_by_parts) .none kV10 dc10 pm10 an10 cd10 ct10), sl10⟩)
    (c10 : PySem.W.codeIn K cd10 "counted_by_parts" = true)
    (k10 : PySem.W.keepIn K (.ref d10) = true)
    (a11 : PySem.W.nsIn K mainGlobals "ways" = some (some (.ref d11)))
    (l11 : K.lookup d11 = some ⟨oc11, od11, .func (PySem.W.fnOf "ways" "ways" (defArgs s_ways) (defBody s_ways) (defScope s_ways) .none kV11 dc11 pm11 an11 cd11 ct11), sl11⟩)
    (c11 : PySem.W.codeIn K cd11 "ways" = true)
    (k11 : PySem.W.keepIn K (.ref d11) = true)
    (a12 : PySem.W.nsIn K mainGlobals "ways_by" = some (some (.ref d12)))
    (l12 : K.lookup d12 = some ⟨oc12, od12, .func (PySem.W.fnOf "ways_by" "ways_by" (defArgs s_ways_by) (defBody s_ways_by) (defScope s_ways_by) .none kV12 dc12 pm12 an12 cd12 ct12), sl12⟩)
    (c12 : PySem.W.codeIn K cd12 "ways_by" = true)
    (k12 : PySem.W.keepIn K (.ref d12) = true)
    (a13 : PySem.W.nsIn K mainGlobals "_law_cell_at" = some (some (.ref d13)))
    (l13 : K.lookup d13 = some ⟨oc13, od13, .func (PySem.W.fnOf "_law_cell_at" "_law_cell_at" (defArgs s__law_cell_at) (defBody s__law_cell_at) (defScope s__law_cell_at) .none kV13 dc13 pm13 an13 cd13 ct13), sl13⟩)
    (c13 : PySem.W.codeIn K cd13 "_law_cell_at" = true)
    (k13 : PySem.W.keepIn K (.ref d13) = true)
    (a14 : PySem.W.nsIn K mainGlobals "_law_whole" = some (some (.ref d14)))
    (l14 : K.lookup d14 = some ⟨oc14, od14, .func (PySem.W.fnOf "_law_whole" "_law_whole" (defArgs s__law_whole) (defBody s__law_whole) (defScope s__law_whole) .none kV14 dc14 pm14 an14 cd14 ct14), sl14⟩)
    (c14 : PySem.W.codeIn K cd14 "_law_whole" = true)
    (k14 : PySem.W.keepIn K (.ref d14) = true)
    (a15 : PySem.W.nsIn K mainGlobals "_law_reserve" = some (some (.ref d15)))
    (l15 : K.lookup d15 = some ⟨oc15, od15, .func (PySem.W.fnOf "_law_reserve" "_law_reserve" (defArgs s__law_reserve) (defBody s__law_reserve) (defScope s__law_reserve) .none kV15 dc15 pm15 an15 cd15 ct15), sl15⟩)
    (c15 : PySem.W.codeIn K cd15 "_law_reserve" = true)
    (k15 : PySem.W.keepIn K (.ref d15) = true)
    (a16 : PySem.W.nsIn K mainGlobals "_law_tied" = some (some (.ref d16)))
    (l16 : K.lookup d16 = some ⟨oc16, od16, .func (PySem.W.fnOf "_law_tied" "_law_tied" (defArgs s__law_tied) (defBody s__law_tied) (defScope s__law_tied) .none kV16 dc16 pm16 an16 cd16 ct16), sl16⟩)
    (c16 : PySem.W.codeIn K cd16 "_law_tied" = true)
    (k16 : PySem.W.keepIn K (.ref d16) = true)
    (a17 : PySem.W.nsIn K mainGlobals "_law_turns" = some (some (.ref d17)))
    (l17 : K.lookup d17 = some ⟨oc17, od17, .func (PySem.W.fnOf "_law_turns" "_law_turns" (defArgs s__law_turns) (defBody s__law_turns) (defScope s__law_turns) .none kV17 dc17 pm17 an17 cd17 ct17), sl17⟩)
    (c17 : PySem.W.codeIn K cd17 "_law_turns" = true)
    (k17 : PySem.W.keepIn K (.ref d17) = true)
    (a18 : PySem.W.nsIn K mainGlobals "_law_part" = some (some (.ref d18)))
    (l18 : K.lookup d18 = some ⟨oc18, od18, .func (PySem.W.fnOf "_law_part" "_law_part" (defArgs s__law_part) (defBody s__law_part) (defScope s__law_part) .none kV18 dc18 pm18 an18 cd18 ct18), sl18⟩)
    (c18 : PySem.W.codeIn K cd18 "_law_part" = true)
    (k18 : PySem.W.keepIn K (.ref d18) = true)
    (a19 : PySem.W.nsIn K mainGlobals "_law_web_of" = some (some (.ref d19)))
    (l19 : K.lookup d19 = some ⟨oc19, od19, .func (PySem.W.fnOf "_law_web_of" "_law_web_of" (defArgs s__law_web_of) (defBody s__law_web_of) (defScope s__law_web_of) .none kV19 dc19 pm19 an19 cd19 ct19), sl19⟩)
    (c19 : PySem.W.codeIn K cd19 "_law_web_of" = true)
    (k19 : PySem.W.keepIn K (.ref d19) = true)
    (a20 : PySem.W.nsIn K mainGlobals "_law_together" = some (some (.ref d20)))
    (l20 : K.lookup d20 = some ⟨oc20, od20, .func (PySem.W.fnOf "_law_together" "_law_together" (defArgs s__law_together) (defBody s__law_together) (defScope s__law_together) .none kV20 dc20 pm20 an20 cd20 ct20), sl20⟩)
    (c20 : PySem.W.codeIn K cd20 "_law_together" = true)
    (k20 : PySem.W.keepIn K (.ref d20) = true)
    (a21 : PySem.W.nsIn K mainGlobals "_law_without" = some (some (.ref d21)))
    (l21 : K.lookup d21 = some ⟨oc21, od21, .func (PySem.W.fnOf "_law_without" "_law_without" (defArgs s__law_without) (defBody s__law_without) (defScope s__law_without) .none kV21 dc21 pm21 an21 cd21 ct21), sl21⟩)
    (c21 : PySem.W.codeIn K cd21 "_law_without" = true)
    (k21 : PySem.W.keepIn K (.ref d21) = true)
    (a22 : PySem.W.nsIn K mainGlobals "_law_times" = some (some (.ref d22)))
    (l22 : K.lookup d22 = some ⟨oc22, od22, .func (PySem.W.fnOf "_law_times" "_law_times" (defArgs s__law_times) (defBody s__law_times) (defScope s__law_times) .none kV22 dc22 pm22 an22 cd22 ct22), sl22⟩)
    (c22 : PySem.W.codeIn K cd22 "_law_times" = true)
    (k22 : PySem.W.keepIn K (.ref d22) = true)
    (a23 : PySem.W.nsIn K mainGlobals "law" = some (some (.ref d23)))
    (l23 : K.lookup d23 = some ⟨oc23, od23, .func (PySem.W.fnOf "law" "law" (defArgs s_law) (defBody s_law) (defScope s_law) .none kV23 dc23 pm23 an23 cd23 ct23), sl23⟩)
    (c23 : PySem.W.codeIn K cd23 "law" = true)
    (k23 : PySem.W.keepIn K (.ref d23) = true)
    (m0 : PySem.W.findIn K (.ref C) "__init__" = some (some (.ref i0)))
    (f0 : PySem.W.isFn K (.ref i0) = true)
    (ml0 : K.lookup i0 = some ⟨jc0, jd0, .func (PySem.W.fnOf "__init__" "Web.__init__" (defArgs s_Web___init__) (defBody s_Web___init__) (defScope s_Web___init__) .none jk0 jo0 jp0 jn0 jq0 jt0), js0⟩)
    (mc0 : PySem.W.codeIn K jq0 "Web.__init__" = true)
    (mk0 : PySem.W.keepIn K (.ref i0) = true)
    (m1 : PySem.W.findIn K (.ref C) "many" = some (some (.ref i1)))
    (f1 : PySem.W.isFn K (.ref i1) = true)
    (ml1 : K.lookup i1 = some ⟨jc1, jd1, .func (PySem.W.fnOf "many" "Web.many" (defArgs s_Web_many) (defBody s_Web_many) (defScope s_Web_many) .none jk1 jo1 jp1 jn1 jq1 jt1), js1⟩)
    (mc1 : PySem.W.codeIn K jq1 "Web.many" = true)
    (mk1 : PySem.W.keepIn K (.ref i1) = true)
    (m2 : PySem.W.findIn K (.ref C) "turns" = some (some (.ref i2)))
    (f2 : PySem.W.isFn K (.ref i2) = true)
    (ml2 : K.lookup i2 = some ⟨jc2, jd2, .func (PySem.W.fnOf "turns" "Web.turns" (defArgs s_Web_turns) (defBody s_Web_turns) (defScope s_Web_turns) .none jk2 jo2 jp2 jn2 jq2 jt2), js2⟩)
    (mc2 : PySem.W.codeIn K jq2 "Web.turns" = true)
    (mk2 : PySem.W.keepIn K (.ref i2) = true)
    (m3 : PySem.W.findIn K (.ref C) "ties" = some (some (.ref i3)))
    (f3 : PySem.W.isFn K (.ref i3) = true)
    (ml3 : K.lookup i3 = some ⟨jc3, jd3, .func (PySem.W.fnOf "ties" "Web.ties" (defArgs s_Web_ties) (defBody s_Web_ties) (defScope s_Web_ties) .none jk3 jo3 jp3 jn3 jq3 jt3), js3⟩)
    (mc3 : PySem.W.codeIn K jq3 "Web.ties" = true)
    (mk3 : PySem.W.keepIn K (.ref i3) = true)
    (m4 : PySem.W.findIn K (.ref C) "tied" = some (some (.ref i4)))
    (f4 : PySem.W.isFn K (.ref i4) = true)
    (ml4 : K.lookup i4 = some ⟨jc4, jd4, .func (PySem.W.fnOf "tied" "Web.tied" (defArgs s_Web_tied) (defBody s_Web_tied) (defScope s_Web_tied) .none jk4 jo4 jp4 jn4 jq4 jt4), js4⟩)
    (mc4 : PySem.W.codeIn K jq4 "Web.tied" = true)
    (mk4 : PySem.W.keepIn K (.ref i4) = true)
    (m5 : PySem.W.findIn K (.ref C) "behind" = some (some (.ref i5)))
    (f5 : PySem.W.isFn K (.ref i5) = true)
    (ml5 : K.lookup i5 = some ⟨jc5, jd5, .func (PySem.W.fnOf "behind" "Web.behind" (defArgs s_Web_behind) (defBody s_Web_behind) (defScope s_Web_behind) .none jk5 jo5 jp5 jn5 jq5 jt5), js5⟩)
    (mc5 : PySem.W.codeIn K jq5 "Web.behind" = true)
    (mk5 : PySem.W.keepIn K (.ref i5) = true)
    (pgC : PySem.W.plainGet K C Str.empty = true)
    (hdC : PySem.W.hasDictIn K C = true)
    (poC : PySem.W.plainOver K C = true)
    (saC : PySem.W.findIn K (.ref C) "__setattr__" = some (some (.builtin "object.__setattr__")))
    (mkC : PySem.W.makesIn K C = true)
    (kpC : PySem.W.keepIn K (.ref C) = true)
    (nR : PySem.W.findIn K (.ref C) "rows" = some none)
    (cc1 : PySem.W.nsIn K mainGlobals "MOST_POINTS" = some (some (.int 14 tk1)))
    (cc2 : PySem.W.nsIn K mainGlobals "MOST_COUNTED" = some (some (.int 8 tk2)))
    (zlen : PySem.W.nsIn K mainGlobals "len" = some none)
    (zrange : PySem.W.nsIn K mainGlobals "range" = some none)
    (zmax : PySem.W.nsIn K mainGlobals "max" = some none)
    (zmin : PySem.W.nsIn K mainGlobals "min" = some none)
    (zenumerate : PySem.W.nsIn K mainGlobals "enumerate" = some none)
    (zzip : PySem.W.nsIn K mainGlobals "zip" = some none)
    (zsorted : PySem.W.nsIn K mainGlobals "sorted" = some none)
    (zall : PySem.W.nsIn K mainGlobals "all" = some none)
    (zisinstance : PySem.W.nsIn K mainGlobals "isinstance" = some none)
    (zint : PySem.W.nsIn K mainGlobals "int" = some none)
    (zbool : PySem.W.nsIn K mainGlobals "bool" = some none)
    (zlist : PySem.W.nsIn K mainGlobals "list" = some none)
    (ztuple : PySem.W.nsIn K mainGlobals "tuple" = some none)
    (zsum : PySem.W.nsIn K mainGlobals "sum" = some none)
    (zreversed : PySem.W.nsIn K mainGlobals "reversed" = some none)
    : ∃ fd : FuncData, (∀ (s : Shared) (v : Value), BindsTo s fd ⟨[v], []⟩ [("_law_script", v)]) ∧ ∀ base : Heap, K.In base → base.Ns mainGlobals mg → FnOk l.prog w K mg base CX0 40 fa fd ["_law_script"] (L2.spLawV K) := by
  have e := hfa.symm.trans (PySem.W.mg_of X G a23)
  cases e
  have F0 := fun_mk (st := s_is_among) l0 c0 k0
  have b0 := F0.binds (ps := ["thing", "many"]) fun _ _ _ _ _ _ us hl => by obtain ⟨_, _, rfl⟩ := L2.len2 hl; rfl
  let D0 : Dfn K mg "is_among" s_is_among ["thing", "many"] := ⟨d0, _, F0, b0, PySem.W.mg_of X G a0⟩
  have F1 := fun_mk (st := s_alien_fault) l1 c1 k1
  have b1 := F1.binds (ps := ["rows"]) fun _ _ _ _ _ _ us hl => by obtain ⟨_, rfl⟩ := L2.len1 hl; rfl
  let D1 : Dfn K mg "alien_fault" s_alien_fault ["rows"] := ⟨d1, _, F1, b1, PySem.W.mg_of X G a1⟩
  have F2 := fun_mk (st := s_self_fault) l2 c2 k2
  have b2 := F2.binds (ps := ["rows"]) fun _ _ _ _ _ _ us hl => by obtain ⟨_, rfl⟩ := L2.len1 hl; rfl
  let D2 : Dfn K mg "self_fault" s_self_fault ["rows"] := ⟨d2, _, F2, b2, PySem.W.mg_of X G a2⟩
  have F3 := fun_mk (st := s_twice_fault) l3 c3 k3
  have b3 := F3.binds (ps := ["rows"]) fun _ _ _ _ _ _ us hl => by obtain ⟨_, rfl⟩ := L2.len1 hl; rfl
  let D3 : Dfn K mg "twice_fault" s_twice_fault ["rows"] := ⟨d3, _, F3, b3, PySem.W.mg_of X G a3⟩
  have F4 := fun_mk (st := s_lone_fault) l4 c4 k4
  have b4 := F4.binds (ps := ["rows"]) fun _ _ _ _ _ _ us hl => by obtain ⟨_, rfl⟩ := L2.len1 hl; rfl
  let D4 : Dfn K mg "lone_fault" s_lone_fault ["rows"] := ⟨d4, _, F4, b4, PySem.W.mg_of X G a4⟩
  have F5 := fun_mk (st := s_reached_from_first) l5 c5 k5
  have b5 := F5.binds (ps := ["rows"]) fun _ _ _ _ _ _ us hl => by obtain ⟨_, rfl⟩ := L2.len1 hl; rfl
  let D5 : Dfn K mg "reached_from_first" s_reached_from_first ["rows"] := ⟨d5, _, F5, b5, PySem.W.mg_of X G a5⟩
  have F6 := fun_mk (st := s_apart_fault) l6 c6 k6
  have b6 := F6.binds (ps := ["rows"]) fun _ _ _ _ _ _ us hl => by obtain ⟨_, rfl⟩ := L2.len1 hl; rfl
  let D6 : Dfn K mg "apart_fault" s_apart_fault ["rows"] := ⟨d6, _, F6, b6, PySem.W.mg_of X G a6⟩
  have F7 := fun_mk (st := s_first_fault) l7 c7 k7
  have b7 := F7.binds (ps := ["rows"]) fun _ _ _ _ _ _ us hl => by obtain ⟨_, rfl⟩ := L2.len1 hl; rfl
  let D7 : Dfn K mg "first_fault" s_first_fault ["rows"] := ⟨d7, _, F7, b7, PySem.W.mg_of X G a7⟩
  have F8 := fun_mk (st := s_need_at_most) l8 c8 k8
  have b8 := F8.binds (ps := ["web", "most"]) fun _ _ _ _ _ _ us hl => by obtain ⟨_, _, rfl⟩ := L2.len2 hl; rfl
  let D8 : Dfn K mg "need_at_most" s_need_at_most ["web", "most"] := ⟨d8, _, F8, b8, PySem.W.mg_of X G a8⟩
  have F9 := fun_mk (st := s_parts_with) l9 c9 k9
  have b9 := F9.binds (ps := ["parts", "p", "row"]) fun _ _ _ _ _ _ us hl => by obtain ⟨_, _, _, rfl⟩ := L2.len3 hl; rfl
  let D9 : Dfn K mg "parts_with" s_parts_with ["parts", "p", "row"] := ⟨d9, _, F9, b9, PySem.W.mg_of X G a9⟩
  have F10 := fun_mk (st := s_counted_by_parts) l10 c10 k10
  have b10 := F10.binds (ps := ["web"]) fun _ _ _ _ _ _ us hl => by obtain ⟨_, rfl⟩ := L2.len1 hl; rfl
  let D10 : Dfn K mg "counted_by_parts" s_counted_by_parts ["web"] := ⟨d10, _, F10, b10, PySem.W.mg_of X G a10⟩
  have F11 := fun_mk (st := s_ways) l11 c11 k11
  have b11 := F11.binds (ps := ["web"]) fun _ _ _ _ _ _ us hl => by obtain ⟨_, rfl⟩ := L2.len1 hl; rfl
  let D11 : Dfn K mg "ways" s_ways ["web"] := ⟨d11, _, F11, b11, PySem.W.mg_of X G a11⟩
  have F12 := fun_mk (st := s_ways_by) l12 c12 k12
  have b12 := F12.binds (ps := ["web", "many"]) fun _ _ _ _ _ _ us hl => by obtain ⟨_, _, rfl⟩ := L2.len2 hl; rfl
  let D12 : Dfn K mg "ways_by" s_ways_by ["web", "many"] := ⟨d12, _, F12, b12, PySem.W.mg_of X G a12⟩
  have F13 := fun_mk (st := s__law_cell_at) l13 c13 k13
  have b13 := F13.binds (ps := ["_law_script", "_law_k"]) fun _ _ _ _ _ _ us hl => by obtain ⟨_, _, rfl⟩ := L2.len2 hl; rfl
  let D13 : Dfn K mg "_law_cell_at" s__law_cell_at ["_law_script", "_law_k"] := ⟨d13, _, F13, b13, PySem.W.mg_of X G a13⟩
  have F14 := fun_mk (st := s__law_whole) l14 c14 k14
  have b14 := F14.binds (ps := ["_law_found"]) fun _ _ _ _ _ _ us hl => by obtain ⟨_, rfl⟩ := L2.len1 hl; rfl
  let D14 : Dfn K mg "_law_whole" s__law_whole ["_law_found"] := ⟨d14, _, F14, b14, PySem.W.mg_of X G a14⟩
  have F15 := fun_mk (st := s__law_reserve) l15 c15 k15
  have b15 := F15.binds (ps := ["_law_cell", "_law_k"]) fun _ _ _ _ _ _ us hl => by obtain ⟨_, _, rfl⟩ := L2.len2 hl; rfl
  let D15 : Dfn K mg "_law_reserve" s__law_reserve ["_law_cell", "_law_k"] := ⟨d15, _, F15, b15, PySem.W.mg_of X G a15⟩
  have F16 := fun_mk (st := s__law_tied) l16 c16 k16
  have b16 := F16.binds (ps := ["_law_cell", "_law_mode", "_law_many"]) fun _ _ _ _ _ _ us hl => by obtain ⟨_, _, _, rfl⟩ := L2.len3 hl; rfl
  let D16 : Dfn K mg "_law_tied" s__law_tied ["_law_cell", "_law_mode", "_law_many"] := ⟨d16, _, F16, b16, PySem.W.mg_of X G a16⟩
  have F17 := fun_mk (st := s__law_turns) l17 c17 k17
  have b17 := F17.binds (ps := ["_law_many", "_law_ties"]) fun _ _ _ _ _ _ us hl => by obtain ⟨_, _, rfl⟩ := L2.len2 hl; rfl
  let D17 : Dfn K mg "_law_turns" s__law_turns ["_law_many", "_law_ties"] := ⟨d17, _, F17, b17, PySem.W.mg_of X G a17⟩
  have F18 := fun_mk (st := s__law_part) l18 c18 k18
  have b18 := F18.binds (ps := ["_law_turns_here", "_law_p"]) fun _ _ _ _ _ _ us hl => by obtain ⟨_, _, rfl⟩ := L2.len2 hl; rfl
  let D18 : Dfn K mg "_law_part" s__law_part ["_law_turns_here", "_law_p"] := ⟨d18, _, F18, b18, PySem.W.mg_of X G a18⟩
  have F19 := fun_mk (st := s__law_web_of) l19 c19 k19
  have b19 := F19.binds (ps := ["_law_points", "_law_ties"]) fun _ _ _ _ _ _ us hl => by obtain ⟨_, _, rfl⟩ := L2.len2 hl; rfl
  let D19 : Dfn K mg "_law_web_of" s__law_web_of ["_law_points", "_law_ties"] := ⟨d19, _, F19, b19, PySem.W.mg_of X G a19⟩
  have F20 := fun_mk (st := s__law_together) l20 c20 k20
  have b20 := F20.binds (ps := ["_law_many", "_law_ties", "_law_tie"]) fun _ _ _ _ _ _ us hl => by obtain ⟨_, _, _, rfl⟩ := L2.len3 hl; rfl
  let D20 : Dfn K mg "_law_together" s__law_together ["_law_many", "_law_ties", "_law_tie"] := ⟨d20, _, F20, b20, PySem.W.mg_of X G a20⟩
  have F21 := fun_mk (st := s__law_without) l21 c21 k21
  have b21 := F21.binds (ps := ["_law_many", "_law_ties", "_law_tie"]) fun _ _ _ _ _ _ us hl => by obtain ⟨_, _, _, rfl⟩ := L2.len3 hl; rfl
  let D21 : Dfn K mg "_law_without" s__law_without ["_law_many", "_law_ties", "_law_tie"] := ⟨d21, _, F21, b21, PySem.W.mg_of X G a21⟩
  have F22 := fun_mk (st := s__law_times) l22 c22 k22
  have b22 := F22.binds (ps := ["_law_one", "_law_other"]) fun _ _ _ _ _ _ us hl => by obtain ⟨_, _, rfl⟩ := L2.len2 hl; rfl
  let D22 : Dfn K mg "_law_times" s__law_times ["_law_one", "_law_other"] := ⟨d22, _, F22, b22, PySem.W.mg_of X G a22⟩
  have F23 := fun_mk (st := s_law) l23 c23 k23
  have b23 := F23.binds (ps := ["_law_script"]) fun _ _ _ _ _ _ us hl => by obtain ⟨_, rfl⟩ := L2.len1 hl; rfl
  let D23 : Dfn K mg "law" s_law ["_law_script"] := ⟨fa, _, F23, b23, PySem.W.mg_of X G a23⟩
  have E0 := fun_mk (st := s_Web___init__) ml0 mc0 mk0
  have e0 := E0.binds (ps := ["self", "turns"]) fun _ _ _ _ _ _ us hl => by obtain ⟨_, _, rfl⟩ := L2.len2 hl; rfl
  have E1 := fun_mk (st := s_Web_many) ml1 mc1 mk1
  have e1 := E1.binds (ps := ["self"]) fun _ _ _ _ _ _ us hl => by obtain ⟨_, rfl⟩ := L2.len1 hl; rfl
  have E2 := fun_mk (st := s_Web_turns) ml2 mc2 mk2
  have e2 := E2.binds (ps := ["self"]) fun _ _ _ _ _ _ us hl => by obtain ⟨_, rfl⟩ := L2.len1 hl; rfl
  have E3 := fun_mk (st := s_Web_ties) ml3 mc3 mk3
  have e3 := E3.binds (ps := ["self"]) fun _ _ _ _ _ _ us hl => by obtain ⟨_, rfl⟩ := L2.len1 hl; rfl
  have E4 := fun_mk (st := s_Web_tied) ml4 mc4 mk4
  have e4 := E4.binds (ps := ["self", "a", "b"]) fun _ _ _ _ _ _ us hl => by obtain ⟨_, _, _, rfl⟩ := L2.len3 hl; rfl
  have E5 := fun_mk (st := s_Web_behind) ml5 mc5 mk5
  have e5 := E5.binds (ps := ["self", "p", "q"]) fun _ _ _ _ _ _ us hl => by obtain ⟨_, _, _, rfl⟩ := L2.len3 hl; rfl
  let Z : DC := ⟨K, C⟩
  let T : Txt Z mg := ⟨⟨PySem.W.mg_none_of X G zlen, PySem.W.mg_none_of X G zrange, PySem.W.mg_none_of X G zmax, PySem.W.mg_none_of X G zmin, PySem.W.mg_none_of X G zenumerate, PySem.W.mg_none_of X G zzip, PySem.W.mg_none_of X G zsorted, PySem.W.mg_none_of X G zall, PySem.W.mg_none_of X G zisinstance, PySem.W.mg_none_of X G zint, PySem.W.mg_none_of X G zbool, PySem.W.mg_none_of X G zlist, PySem.W.mg_none_of X G ztuple, PySem.W.mg_none_of X G zsum, PySem.W.mg_none_of X G zreversed⟩, D0, D1, D2, D3, D4, D5, D6, D7, D8, D9, D10, D11, D12, D13, D14, D15, D16, D17, D18, D19, D20, D21, D22, D23, ⟨⟨pgC, hdC, poC, saC⟩, nR⟩, PySem.W.mg_of X G gC, i0, _, E0, ⟨mkC, m0, f0, kpC⟩, e0, ⟨i1, _, E1, e1, ⟨m1, f1, mk1⟩⟩, ⟨i2, _, E2, e2, ⟨m2, f2, mk2⟩⟩, ⟨i3, _, E3, e3, ⟨m3, f3, mk3⟩⟩, ⟨i4, _, E4, e4, ⟨m4, f4, mk4⟩⟩, ⟨i5, _, E5, e5, ⟨m5, f5, mk5⟩⟩, ⟨tk1, PySem.W.mg_of X G cc1⟩, ⟨tk2, PySem.W.mg_of X G cc2⟩⟩
  exact ⟨_, fun s v => .of_eq rfl, fun base _ _ => (((ok_law (P := l.prog) (w := w) (base := base) T).mono (by decide)).imp (L2.law_of (Z := Z)))⟩
theorem walk {l : PySem.W.OpenLaw} {q : Program} {loose : List Str} {XP : (Str → Option Value) → Heap → Prop} {YP : World → Heap → Prop} {d : DefRec} {K : Params → PySem.W.Frag} (hn : l.most = some 63) (hdf : d.params.defaults = [])
    (hY : ∀ (w : World) (h : Heap), YP w h → (K w.params).In h)
    (F : ∀ (w : World) (mg : Str → Option Value) (fa : Addr) (h : Heap), (K w.params).In h → h.Ns mainGlobals mg → mg d.name = some (.ref fa) →
      ∃ fd : FuncData, (∀ (s : Shared) (u : Value), BindsTo s fd ⟨[u], []⟩ [("_law_script", u)]) ∧ ∀ base : Heap, (K w.params).In base → base.Ns mainGlobals mg → FnOk l.prog w (K w.params) mg base CX0 40 fa fd ["_law_script"] (spLawV (K w.params))) :
    PySem.W.WalkO q loose XP YP l.row.toRowW d [] (fun f vs => PySem.call f vs) := L2.walkD 40 (by decide) hn hdf hY F
end K82

def PySem.W.Fast.tw3119325280781367618 : Nat := 0
def PySem.W.Fast.tw9018176146528034929 : Nat := 0
def PySem.W.Fast.tw2410762327527014689 : Nat := 0
def PySem.W.Fast.tw18428072212522246378 : Nat := 0
def PySem.W.Fast.tw3072036801966152022 : Nat := 0
def PySem.W.Fast.tw15476218063047307045 : Nat := 0
def PySem.W.Fast.tw505576754230739656 : Nat := 0
def PySem.W.Fast.tw9411438296110162859 : Nat := 0
def PySem.W.Fast.tw5804351006776939545 : Nat := 0
def PySem.W.Fast.tw14770443074013406931 : Nat := 0
def PySem.W.Fast.tw13501591868897901493 : Nat := 0
def PySem.W.Fast.tw2024811793059183268 : Nat := 0
def PySem.W.Fast.tw5516492253073486012 : Nat := 0
def PySem.W.Fast.tw13724620454575239193 : Nat := 0
def PySem.W.Fast.tw10747805469492674145 : Nat := 0
def PySem.W.Fast.tw12765605271734111923 : Nat := 0
def PySem.W.Fast.tw7973669429604951921 : Nat := 0
def PySem.W.Fast.tw7324466099065992280 : Nat := 0
def PySem.W.Fast.tw11681738905837553145 : Nat := 0
def PySem.W.Fast.tw14450620211910852083 : Nat := 0
def PySem.W.Fast.tw7823640603814648873 : Nat := 0
def PySem.W.Fast.tw6877003501462289495 : Nat := 0
def PySem.W.Fast.tw15709797060214542598 : Nat := 0
def PySem.W.Fast.tw5905775917060649034 : Nat := 0
def PySem.W.Fast.tw10700242291855674901 : Nat := 0
def PySem.W.Fast.tw14741237395259871062 : Nat := 0
def PySem.W.Fast.tw15063480879305395427 : Nat := 0
def PySem.W.Fast.tw4993521641006265809 : Nat := 0
def PySem.W.Fast.tw12569573317668919835 : Nat := 0
def PySem.W.Fast.tw7180957646180533725 : Nat := 0
def PySem.W.Fast.tw10294797953009150640 : Nat := 0
def PySem.W.Fast.tw5315179512363082325 : Nat := 0
def PySem.W.Fast.tw14655019613154867905 : Nat := 0
def PySem.W.Fast.tw1678205481625091322 : Nat := 0
def PySem.W.Fast.tw2230688097126483660 : Nat := 0
def PySem.W.Fast.tw2222701146896868750 : Nat := 0
def PySem.W.Fast.tw17940561660841777058 : Nat := 0
def PySem.W.Fast.tw17335545039618654345 : Nat := 0
def PySem.W.Fast.tw14424656720592660680 : Nat := 0
def PySem.W.Fast.tw12062701030637096723 : Nat := 0
def PySem.W.Fast.tw7968621888753832861 : Nat := 0
def PySem.W.Fast.tw8461737624766835886 : Nat := 0
def PySem.W.Fast.tw8566509357453802418 : Nat := 0
def PySem.W.Fast.tw3423568240468437488 : Nat := 0
def PySem.W.Fast.tw2814099461084888334 : Nat := 0
def PySem.W.Fast.tw1397452151289978109 : Nat := 0
def PySem.W.Fast.tw13849209208514706397 : Nat := 0
def PySem.W.Fast.tw3602586274970462280 : Nat := 0
def PySem.W.Fast.tw14887994887393272420 : Nat := 0
def PySem.W.Fast.tw871752388011800517 : Nat := 0
def PySem.W.Fast.tw8929911346203722349 : Nat := 0
def PySem.W.Fast.tw15115828638904407042 : Nat := 0
def PySem.W.Fast.tw15349557659547666826 : Nat := 0
def PySem.W.Fast.tw3878627419510556184 : Nat := 0
def PySem.W.Fast.tw14586318394524136985 : Nat := 0
def PySem.W.Fast.tw16757448846827474300 : Nat := 0
def PySem.W.Fast.tw16496911856440091771 : Nat := 0
def PySem.W.Fast.tw2598400886294075657 : Nat := 0
def PySem.W.Fast.tw17501542208120857457 : Nat := 0
def PySem.W.Fast.tw16631191579589416369 : Nat := 0
def PySem.W.Fast.tw952059044774419746 : Nat := 0
def PySem.W.Fast.tw14820560432079285498 : Nat := 0
def PySem.W.Fast.tw3458154749205910434 : Nat := 0
def PySem.W.Fast.tw10754780560373391850 : Nat := 0
def PySem.W.Fast.tw328023015292550633 : Nat := 0
def PySem.W.Fast.tw4997129991715373590 : Nat := 0
def PySem.W.Fast.tw17419914294505297089 : Nat := 0
def PySem.W.Fast.tw9201439453997908273 : Nat := 0
set_option Elab.async false
open PySem PySem.W PyProof.Rows
set_option maxRecDepth 100000 in
set_option maxHeartbeats 0 in
theorem PySem.Challenge.cw_mapdye_k82_whole_a_tie_taken_away_holds : PySem.Challenge.rw_mapdye_k82_whole_a_tie_taken_away.Holds := by
  w_on; o_law; k_head; (case hw => w_witness2)
  k_fill
  refine K82.walk (l := PySem.Challenge.rw_mapdye_k82_whole_a_tie_taken_away) rfl rfl (fun w h Y => PySem.W.kIn_of Y) ?F
  case F =>
    intro w mg fa h KX G hmg
    refine' K82.all_mk KX G hmg ?gC ?a0 ?l0 ?c0 ?k0 ?a1 ?l1 ?c1 ?k1 ?a2 ?l2 ?c2 ?k2 ?a3 ?l3 ?c3 ?k3 ?a4 ?l4 ?c4 ?k4 ?a5 ?l5 ?c5 ?k5 ?a6 ?l6 ?c6 ?k6 ?a7 ?l7 ?c7 ?k7 ?a8 ?l8 ?c8 ?k8 ?a9 ?l9 ?c9 ?k9 ?a10 ?l10 ?c10 ?k10 ?a11 ?l11 ?c11 ?k11 ?a12 ?l12 ?c12 ?k12 ?a13 ?l13 ?c13 ?k13 ?a14 ?l14 ?c14 ?k14 ?a15 ?l15 ?c15 ?k15 ?a16 ?l16 ?c16 ?k16 ?a17 ?l17 ?c17 ?k17 ?a18 ?l18 ?c18 ?k18 ?a19 ?l19 ?c19 ?k19 ?a20 ?l20 ?c20 ?k20 ?a21 ?l21 ?c21 ?k21 ?a22 ?l22 ?c22 ?k22 ?a23 ?l23 ?c23 ?k23 ?m0 ?f0 ?ml0 ?mc0 ?mk0 ?m1 ?f1 ?ml1 ?mc1 ?mk1 ?m2 ?f2 ?ml2 ?mc2 ?mk2 ?m3 ?f3 ?ml3 ?mc3 ?mk3 ?m4 ?f4 ?ml4 ?mc4 ?mk4 ?m5 ?f5 ?ml5 ?mc5 ?mk5 ?pgC ?hdC ?poC ?saC ?mkC ?kpC ?nR ?cc1 ?cc2 ?zlen ?zrange ?zmax ?zmin ?zenumerate ?zzip ?zsorted ?zall ?zisinstance ?zint ?zbool ?zlist ?ztuple ?zsum ?zreversed
    (case gC => k_is)
    (case a0 => k_is)
    (case l0 => k_is)
    (case c0 => k_is)
    (case k0 => k_is)
    (case a1 => k_is)
    (case l1 => k_is)
    (case c1 => k_is)
    (case k1 => k_is)
    (case a2 => k_is)
    (case l2 => k_is)
    (case c2 => k_is)
    (case k2 => k_is)
    (case a3 => k_is)
    (case l3 => k_is)
    (case c3 => k_is)
    (case k3 => k_is)
    (case a4 => k_is)
    (case l4 => k_is)
    (case c4 => k_is)
    (case k4 => k_is)
    (case a5 => k_is)
    (case l5 => k_is)
    (case c5 => k_is)
    (case k5 => k_is)
    (case a6 => k_is)
    (case l6 => k_is)
    (case c6 => k_is)
    (case k6 => k_is)
    (case a7 => k_is)
    (case l7 => k_is)
    (case c7 => k_is)
    (case k7 => k_is)
    (case a8 => k_is)
    (case l8 => k_is)
    (case c8 => k_is)
    (case k8 => k_is)
    (case a9 => k_is)
    (case l9 => k_is)
    (case c9 => k_is)
    (case k9 => k_is)
    (case a10 => k_is)
    (case l10 => k_is)
    (case c10 => k_is)
    (case k10 => k_is)
    (case a11 => k_is)
    (case l11 => k_is)
    (case c11 => k_is)
    (case k11 => k_is)
    (case a12 => k_is)
    (case l12 => k_is)
    (case c12 => k_is)
    (case k12 => k_is)
    (case a13 => k_is)
    (case l13 => k_is)
    (case c13 => k_is)
    (case k13 => k_is)
    (case a14 => k_is)
    (case l14 => k_is)
    (case c14 => k_is)
    (case k14 => k_is)
    (case a15 => k_is)
    (case l15 => k_is)
    (case c15 => k_is)
    (case k15 => k_is)
    (case a16 => k_is)
    (case l16 => k_is)
    (case c16 => k_is)
    (case k16 => k_is)
    (case a17 => k_is)
    (case l17 => k_is)
    (case c17 => k_is)
    (case k17 => k_is)
    (case a18 => k_is)
    (case l18 => k_is)
    (case c18 => k_is)
    (case k18 => k_is)
    (case a19 => k_is)
    (case l19 => k_is)
    (case c19 => k_is)
    (case k19 => k_is)
    (case a20 => k_is)
    (case l20 => k_is)
    (case c20 => k_is)
    (case k20 => k_is)
    (case a21 => k_is)
    (case l21 => k_is)
    (case c21 => k_is)
    (case k21 => k_is)
    (case a22 => k_is)
    (case l22 => k_is)
    (case c22 => k_is)
    (case k22 => k_is)
    (case a23 => k_is)
    (case l23 => k_is)
    (case c23 => k_is)
    (case k23 => k_is)
    (case m0 => k_is)
    (case f0 => k_is)
    (case ml0 => k_is)
    (case mc0 => k_is)
    (case mk0 => k_is)
    (case m1 => k_is)
    (case f1 => k_is)
    (case ml1 => k_is)
    (case mc1 => k_is)
    (case mk1 => k_is)
    (case m2 => k_is)
    (case f2 => k_is)
    (case ml2 => k_is)
    (case mc2 => k_is)
    (case mk2 => k_is)
    (case m3 => k_is)
    (case f3 => k_is)
    (case ml3 => k_is)
    (case mc3 => k_is)
    (case mk3 => k_is)
    (case m4 => k_is)
    (case f4 => k_is)
    (case ml4 => k_is)
    (case mc4 => k_is)
    (case mk4 => k_is)
    (case m5 => k_is)
    (case f5 => k_is)
    (case ml5 => k_is)
    (case mc5 => k_is)
    (case mk5 => k_is)
    (case pgC => k_is)
    (case hdC => k_is)
    (case poC => k_is)
    (case saC => k_is)
    (case mkC => k_is)
    (case kpC => k_is)
    (case nR => k_is)
    (case cc1 => k_is)
    (case cc2 => k_is)
    (case zlen => k_is)
    (case zrange => k_is)
    (case zmax => k_is)
    (case zmin => k_is)
    (case zenumerate => k_is)
    (case zzip => k_is)
    (case zsorted => k_is)
    (case zall => k_is)
    (case zisinstance => k_is)
    (case zint => k_is)
    (case zbool => k_is)
    (case zlist => k_is)
    (case ztuple => k_is)
    (case zsum => k_is)
    (case zreversed => k_is)

