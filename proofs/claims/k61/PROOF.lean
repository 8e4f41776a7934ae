import PyProof.Rows.All
import Wide.All
import OpenK.AllK
import Wide.FinOn
import Lean
import PyProof.EqAt
import PyProof.EqKinds
import PyProof.TupleCall
import KE.KSortTup
import PyProof.NeKinds
import KE.KRevIter
import PyProof.MinMaxWalk
import PyProof.FitsBits
import PyProof.P3Eq
import PyProof.ListRange
import PyProof.MeetsSeq
import PySem.Challenge.RW_mapdye_k61_dyed_or_shown
set_option Elab.async false
set_option linter.all false
set_option maxRecDepth 100000
/-! THE HAND LAYER, for ints, bools, texts, own classes, LISTS and tuples (index, slices, in, append, pop ..), calls, loops. Paste it whole ahead of your own text; what your proof does not reach may be deleted. -/
namespace L2
open PySem PySem.Spec PyProof.Rows

/-- a key: an int or a str -/
abbrev Key := Sum Int Str
def keyIs : Key → Value → Bool
  | .inl k, v => Value.isInt k v
  | .inr x, v => Value.isStrOf x v
def keyH (w : World) : Key → Int
  | .inl k => hashInt k
  | .inr x => hashStr w x
theorem keyIs_shape : ∀ {k : Key} {v : Value}, keyIs k v = true → (∃ i t, k = Sum.inl i ∧ v = Value.int i t) ∨ (∃ x t, k = Sum.inr x ∧ v = Value.str x t)
  | .inl i, v, h => by
    obtain ⟨t, e⟩ := Value.isInt_shape (k := i) (v := v) h
    exact .inl ⟨i, t, rfl, e⟩
  | .inr x, v, h => by
    obtain ⟨t, e⟩ := Value.isStrOf_shape (x := x) (v := v) h
    exact .inr ⟨x, t, rfl, e⟩
theorem key_ll (a b : Int) : decide ((Sum.inl a : Key) = Sum.inl b) = (a == b) := by
  by_cases e : a = b
  · subst e; simp
  · have h : ¬ (Sum.inl a : Key) = Sum.inl b := fun q => e (Sum.inl.inj q)
    rw [decide_eq_false h]
    exact (beq_eq_false_iff_ne.mpr e).symm
theorem key_rr (a b : Str) : decide ((Sum.inr a : Key) = Sum.inr b) = decide (a = b) := by
  by_cases e : a = b
  · subst e; simp
  · have h : ¬ (Sum.inr a : Key) = Sum.inr b := fun q => e (Sum.inr.inj q)
    rw [decide_eq_false h, decide_eq_false e]
theorem key_lr (a : Int) (b : Str) : decide ((Sum.inl a : Key) = Sum.inr b) = false := decide_eq_false (fun q => nomatch q)
theorem key_rl (a : Str) (b : Int) : decide ((Sum.inr a : Key) = Sum.inl b) = false := decide_eq_false (fun q => nomatch q)

def mixKind (prog : Program) (w : World) : PySem.KeyKind prog w Key where
  is := keyIs
  hash := keyH w
  inj := fun v a b ha hb => by
    rcases keyIs_shape ha with ⟨i, t, rfl, rfl⟩ | ⟨x, t, rfl, rfl⟩
    · rcases keyIs_shape hb with ⟨j, u, rfl, e⟩ | ⟨y, u, rfl, e⟩
      · injection e with e1 _; rw [e1]
      · exact nomatch e
    · rcases keyIs_shape hb with ⟨j, u, rfl, e⟩ | ⟨y, u, rfl, e⟩
      · exact nomatch e
      · injection e with e1 _; rw [e1]
  byValue := fun k v h => by
    rcases keyIs_shape h with ⟨i, t, rfl, rfl⟩ | ⟨x, t, rfl, rfl⟩ <;> rfl
  pyHash := fun hv h => by
    rcases keyIs_shape hv with ⟨i, t, rfl, rfl⟩ | ⟨x, t, rfl, rfl⟩
    · exact wpAny_pyHash_int h
    · exact wpAny_pyHash_str h
  eqBool := fun hu hv h => by
    rcases keyIs_shape hu with ⟨i, t, rfl, rfl⟩ | ⟨x, t, rfl, rfl⟩
    · rcases keyIs_shape hv with ⟨j, u, rfl, rfl⟩ | ⟨y, u, rfl, rfl⟩
      · rw [key_ll] at h; exact wpAny_eqBool_int h
      · rw [key_lr] at h; exact SeqAt.EqAt.int_str i t y u _ _ _ _ h
    · rcases keyIs_shape hv with ⟨j, u, rfl, rfl⟩ | ⟨y, u, rfl, rfl⟩
      · rw [key_rl] at h; exact SeqAt.EqAt.str_int x t j u _ _ _ _ h
      · rw [key_rr] at h; exact wpAny_eqBool_str h
  «strs» := fun k x t v h => by
    rcases keyIs_shape h with ⟨i, u, rfl, e⟩ | ⟨y, u, rfl, e⟩
    · exact nomatch e
    · injection e with e1 _
      subst e1
      cases v <;> rfl

end L2

namespace L2
open PySem PySem.Spec PyProof.Rows

/-- a value, without the heap -/
inductive V where
  | non | bl (b : Bool) | int (i : Int) | str (x : Str) | byt (b : Array UInt8) | flt (b : UInt64) | ref (a : Addr) | ty (n : String)
  deriving DecidableEq

def RelV : V → Value → Prop
  | .non, u => u = Value.none
  | .bl b, u => u = Value.bool b
  | .int i, u => ∃ t, u = Value.int i t
  | .str x, u => ∃ t, u = Value.str x t
  | .byt b, u => ∃ t, u = Value.bytes b t
  | .flt b, u => ∃ t, u = Value.float b t
  | .ref a, u => u = Value.ref a
  | .ty n, u => u = Value.type n

abbrev Vals : List V → List Value → Prop := Paired RelV
theorem Vals.length {xs : List V} {us : List Value} (r : Vals xs us) : xs.length = us.length := Paired.length r
theorem Vals.get : ∀ {xs : List V} {us : List Value} {i : Nat} {x : V}, Vals xs us → xs[i]? = some x → ∃ u, us[i]? = some u ∧ RelV x u
  | _, _, _, _, .nil, e => by simp at e
  | _, _, 0, _, .cons r _, e => by simp at e; subst e; exact ⟨_, rfl, r⟩
  | _, _, i + 1, x, .cons _ t, e => by
    obtain ⟨u, h1, h2⟩ := Vals.get (i := i) (x := x) t (by simpa using e)
    exact ⟨u, by simpa using h1, h2⟩
theorem Vals.set {x : V} {u : Value} (r : RelV x u) : ∀ {xs : List V} {us : List Value} (i : Nat), Vals xs us → Vals (xs.set i x) (us.set i u)
  | _, _, _, .nil => .nil
  | _, _, 0, .cons _ t => .cons r t
  | _, _, i + 1, .cons q t => .cons q (Vals.set r i t)
theorem Vals.append : ∀ {xs ys : List V} {us ws : List Value}, Vals xs us → Vals ys ws → Vals (xs ++ ys) (us ++ ws)
  | _, _, _, _, .nil, s => s
  | _, _, _, _, .cons r t, s => .cons r (Vals.append t s)
theorem Vals.take : ∀ {xs : List V} {us : List Value} (n : Nat), Vals xs us → Vals (xs.take n) (us.take n)
  | _, _, 0, _ => .nil
  | _, _, _ + 1, .nil => .nil
  | _, _, n + 1, .cons r t => .cons r (Vals.take n t)
theorem Vals.drop : ∀ {xs : List V} {us : List Value} (n : Nat), Vals xs us → Vals (xs.drop n) (us.drop n)
  | _, _, 0, r => r
  | _, _, _ + 1, .nil => .nil
  | _, _, n + 1, .cons _ t => Vals.drop n t
def RelO : Option V → Option Value → Prop
  | some v, some u => RelV v u
  | none, none => True
  | _, _ => False
def KV {κ : Type} : List (κ × V) → List (κ × Value) → Prop := Paired fun (p : κ × V) (q : κ × Value) => p.1 = q.1 ∧ RelV p.2 q.2

/-- a key of a dict (00_mix): an int or a text -/
def kV : Key → V
  | .inl i => .int i
  | .inr x => .str x

/-- what stands at a tracked address -/
inductive HO where
  /-- a list -/
  | lst (xs : List V)
  /-- a tuple (never changes) -/
  | tup (xs : List V)
  /-- a dict whose keys are ints and texts; one whose keys are tuples of ints and texts (the empty one is both) -/
  | dK (kvs : List (Key × V)) | dT (kvs : List (List Key × V))
  /-- a set of ints: its members, its size -/
  | set (S : Int → Bool) (n : Nat)
  /-- an instance of the class at C, its dict at dx, its attributes -/
  | ins (C dx : Addr) (fs : List (Str × V))
  /-- the dict of the instance at x -/
  | own (x : Addr)
  /-- the dict of an exception -/
  | xd (fs : List (Str × V))
  /-- a bound method, f of x -/
  | met (f x : Addr)
  /-- a range object lo, lo + 1, .. below hi -/
  | rng (lo hi : Int)
  /-- a thing that is known to the object (the script; a dict while a loop walks it): read, never written while it is so -/
  | frz (o : Obj) (u : HO)
  /-- a code object's table -/
  | tbl (ps : Array Value)
  /-- any other thing, by what is true of its one object (a def of one's own: SetO a S n := HO.ext fun h => ..) -/
  | ext (φ : Heap → Prop)

abbrev Hp := Addr → Option HO
def upd (H : Hp) (a : Addr) (o : HO) : Hp := fun b => if b = a then some o else H b
theorem upd_same {H : Hp} {a : Addr} {o : HO} : upd H a o a = some o := by unfold upd; rw [if_pos rfl]
theorem upd_ne {H : Hp} {a b : Addr} {o : HO} (h : b ≠ a) : upd H a o b = H b := by unfold upd; rw [if_neg h]
theorem ne_of_none {H : Hp} {a b : Addr} {o : HO} (h : H a = some o) (h' : H b = none) : a ≠ b := by
  intro e; subst e; rw [h] at h'; cases h'

section
variable (P : Program) (w : World)
def ObjOk (H : Hp) (h : Heap) (a : Addr) : HO → Prop
  | .lst xs => xs.length ≤ sizeLine ∧ ∃ (its : List Value) (n : Nat), Vals xs its ∧ h.get? a = some { cls := .type "list", data := .seq its.toArray n }
  | .tup xs => xs.length ≤ sizeLine ∧ ∃ its : List Value, Vals xs its ∧ IsTup h a its.toArray
  | .dK kvs => kvs.length ≤ sizeLine ∧ (a == sysModules) = false ∧ ∃ vs, KV kvs vs ∧ h.DictOf (mixKind P w) a vs
  | .dT kvs => kvs.length ≤ sizeLine ∧ (a == sysModules) = false ∧ ∃ xs : List (List Key × Addr × Value),
      Paired (fun (p : List Key × V) (q : List Key × Addr × Value) => p.1 = q.1 ∧ H q.2.1 = some (.tup (p.1.map kV)) ∧ RelV p.2 q.2.2) kvs xs ∧
      ∃ o es ep, h.get? a = some o ∧ o.ExactDict ∧ o.data = .dict es ep ∧ es.toList = xs.map (entryOfKey (tupleKind (mixKind P w))) ∧ (xs.map (·.1)).Nodup
  | .set S n => h.SetOf (intKind P w) a S n
  | .ins C dx fs => H dx = some (.own a) ∧ fs.length ≤ 1000 ∧ dx ≠ a ∧ h.get? a = some (PySem.W.instObj C dx) ∧
      ∃ mA, h.Ns1 dx mA ∧ (∀ f, RelO (fs.lookup f) (mA f)) ∧ PySem.Within mA (fs.map (·.1))
  | .own _ => ∃ o, h.get? a = some o
  | .xd fs => ∃ mA, h.Ns1 a mA ∧ ∀ f, RelO (fs.lookup f) (mA f)
  | .rng lo hi => ∃ t u v, h.get? a = some { cls := .type "range", data := .fields #[.int lo t, .int hi u, .int 1 v] }
  | .frz o u => h.get? a = some o ∧ ObjOk H h a u
  | .tbl ps => h.get? a = some { cls := .none, data := .fields ps }
  | .met f x => h.get? a = some (PySem.W.methodObj (.ref f) (.ref x))
  | .ext φ => φ h ∧ (∃ o, h.get? a = some o) ∧ ∀ h1 h2 : Heap, φ h1 → (∀ o, h1.get? a = some o → h2.get? a = some o) → φ h2
/-- the abstract heap is held -/
def HOk (H : Hp) (h : Heap) : Prop := ∀ a o, H a = some o → ObjOk P w H h a o
end

section
variable {P : Program} {w : World} {H H' : Hp} {h h' : Heap} {a : Addr} {o : HO}
theorem ObjOk.lt (x : ObjOk P w H h a o) : a < h.objs.size := by
  cases o with
  | lst xs => obtain ⟨_, _, _, _, e⟩ := x; exact Heap.lt_size e
  | tup xs => obtain ⟨_, _, _, p⟩ := x; exact p.lt
  | dK kvs => obtain ⟨_, _, _, _, o, _, _, e, _⟩ := x; exact Heap.lt_size e
  | dT kvs => obtain ⟨_, _, _, _, o, _, _, e, _⟩ := x; exact Heap.lt_size e
  | set S n => obtain ⟨o, _, _, _, e, _⟩ := x; exact Heap.lt_size e
  | ins C dx fs => obtain ⟨_, _, _, e, _⟩ := x; exact Heap.lt_size e
  | own y => obtain ⟨_, e⟩ := x; exact Heap.lt_size e
  | xd fs => obtain ⟨_, ⟨_, _, _, e, _⟩, _⟩ := x; exact Heap.lt_size e
  | rng lo hi => obtain ⟨_, _, _, e⟩ := x; exact Heap.lt_size e
  | frz ob u => obtain ⟨e, _⟩ := x; exact Heap.lt_size e
  | tbl ps => exact Heap.lt_size (show h.get? a = some _ from x)
  | met f y => exact Heap.lt_size (show h.get? a = some _ from x)
  | ext φ => obtain ⟨_, ⟨_, e⟩, _⟩ := x; exact Heap.lt_size e
theorem Paired.mapP {α β : Type} {F G : α → β → Prop} : ∀ {l₁ : List α} {l₂ : List β}, Paired F l₁ l₂ → (∀ a b, F a b → G a b) → Paired G l₁ l₂
  | _, _, .nil, _ => .nil
  | _, _, .cons r t, f => .cons (f _ _ r) (Paired.mapP t f)
/-- what an object's description leans on: its own object, its own dict, the tuples -/
theorem ObjOk.stay (x : ObjOk P w H h a o) (k : ∀ b u, (b = a ∨ H b = some (.own a)) → h.get? b = some u → h'.get? b = some u)
    (ho : ∀ b, H b = some (.own a) → H' b = some (.own a)) (ht : ∀ b xs, H b = some (.tup xs) → H' b = some (.tup xs)) : ObjOk P w H' h' a o := by
  induction o with
  | lst xs => obtain ⟨z, its, n, r, e⟩ := x; exact ⟨z, its, n, r, k _ _ (.inl rfl) e⟩
  | tup xs => obtain ⟨z, its, r, ob, e, c⟩ := x; exact ⟨z, its, r, ob, k _ _ (.inl rfl) e, c⟩
  | dK kvs => obtain ⟨z, y, vs, r, ob, es, ep, e, c⟩ := x; exact ⟨z, y, vs, r, ob, es, ep, k _ _ (.inl rfl) e, c⟩
  | dT kvs =>
    obtain ⟨z, y, xs, r, ob, es, ep, e, c⟩ := x
    exact ⟨z, y, xs, Paired.mapP r fun p q z => ⟨z.1, ht _ _ z.2.1, z.2.2⟩, ob, es, ep, k _ _ (.inl rfl) e, c⟩
  | set S n => obtain ⟨ob, es, ep, t, e, c⟩ := x; exact ⟨ob, es, ep, t, k _ _ (.inl rfl) e, c⟩
  | ins C dx fs =>
    obtain ⟨d, z, ne, e, mA, ⟨od, es, ep, e2, c⟩, r⟩ := x
    exact ⟨ho _ d, z, ne, k _ _ (.inl rfl) e, mA, ⟨od, es, ep, k _ _ (.inr d) e2, c⟩, r⟩
  | own y => obtain ⟨ob, e⟩ := x; exact ⟨ob, k _ _ (.inl rfl) e⟩
  | xd fs => obtain ⟨mA, ⟨od, es, ep, e, c⟩, r⟩ := x; exact ⟨mA, ⟨od, es, ep, k _ _ (.inl rfl) e, c⟩, r⟩
  | rng lo hi => obtain ⟨t, u, v, e⟩ := x; exact ⟨t, u, v, k _ _ (.inl rfl) e⟩
  | frz ob u ih => obtain ⟨e, q⟩ := x; exact ⟨k _ _ (.inl rfl) e, ih q⟩
  | tbl ps =>
    have e : h.get? a = some { cls := .none, data := .fields ps } := x
    show h'.get? a = some { cls := .none, data := .fields ps }
    exact k a _ (.inl rfl) e
  | met f y =>
    have e : h.get? a = some (PySem.W.methodObj (.ref f) (.ref y)) := x
    show h'.get? a = some (PySem.W.methodObj (.ref f) (.ref y))
    exact k a _ (.inl rfl) e
  | ext φ => obtain ⟨p, ⟨o, e⟩, st⟩ := x; exact ⟨st _ _ p fun o q => k _ _ (.inl rfl) q, ⟨o, k _ _ (.inl rfl) e⟩, st⟩
theorem HOk.lt (x : HOk P w H h) (e : H a = some o) : a < h.objs.size := (x a o e).lt
theorem HOk.fresh (x : HOk P w H h) (e : h.objs.size ≤ a) : H a = none := by
  cases q : H a with
  | none => rfl
  | some u => exact absurd (Nat.lt_of_lt_of_le (x.lt q) e) (Nat.lt_irrefl _)
/-- every object of the heap is kept -/
theorem HOk.kept (x : HOk P w H h) (k : ∀ b u, h.get? b = some u → h'.get? b = some u) : HOk P w H h' := fun a o e =>
  (x a o e).stay (fun b u _ q => k b u q) (fun _ q => q) fun _ _ q => q
/-- a new object is laid and tracked -/
theorem HOk.laid (x : HOk P w H h) (k : ∀ b u, h.get? b = some u → h'.get? b = some u) (hp : h.objs.size ≤ a) (new : ObjOk P w (upd H a o) h' a o) : HOk P w (upd H a o) h' := fun b u e => by
  have hn := x.fresh hp
  by_cases hb : b = a
  · subst hb; rw [upd_same] at e; cases e; exact new
  · rw [upd_ne hb] at e
    exact (x b u e).stay (fun c v _ q => k c v q) (fun c q => by rw [upd_ne (ne_of_none q hn)]; exact q) fun c xs q => by rw [upd_ne (ne_of_none q hn)]; exact q
end

/-- what may be read as u: it is u, or a known u -/
def Rd (H : Hp) (a : Addr) (u : HO) : Prop := H a = some u ∨ ∃ o, H a = some (.frz o u)
theorem Rd.ok {P : Program} {w : World} {H : Hp} {h : Heap} {a : Addr} {u : HO} (r : Rd H a u) (x : HOk P w H h) : ObjOk P w H h a u := by
  rcases r with r | ⟨o, r⟩
  · exact x a u r
  · obtain ⟨_, q⟩ := x a _ r
    exact q
/-- what may be written -/
def Mut : Option HO → Prop
  | some (.lst _) => True
  | some (.dK _) => True
  | some (.dT _) => True
  | some (.set _ _) => True
  | some (.ins _ _ _) => True
  | some (.ext _) => True
  | _ => False
section
variable {P : Program} {w : World} {H : Hp} {h h' : Heap} {x e : Addr} {o' : HO}
/-- the object at e is changed: x itself, or the dict of the instance x -/
theorem HOk.write (ok : HOk P w H h) (mu : Mut (H x)) (he : e = x ∨ H e = some (.own x)) (k : ∀ b u, b ≠ e → h.get? b = some u → h'.get? b = some u) (heo : ∃ u, h'.get? e = some u)
    (new : ObjOk P w (upd H x o') h' x o') : HOk P w (upd H x o') h' := fun b u q => by
  have nown : ∀ c y, H c = some (.own y) → c ≠ x := fun c y r z => by subst z; rw [r] at mu; exact mu
  have ntup : ∀ c xs, H c = some (.tup xs) → c ≠ x := fun c xs r z => by subst z; rw [r] at mu; exact mu
  by_cases hb : b = x
  · subst hb; rw [upd_same] at q; cases q; exact new
  · rw [upd_ne hb] at q
    by_cases hbe : b = e
    · have q' : H b = some (.own x) := by
        rcases he with z | z
        · exact absurd (hbe.trans z) hb
        · rw [hbe]; exact z
      rw [q] at q'; cases q'
      obtain ⟨v, hv⟩ := heo
      exact ⟨v, by rw [hbe]; exact hv⟩
    · refine (ok b u q).stay (fun c v hc r => k c v ?_ r) (fun c r => by rw [upd_ne (nown c b r)]; exact r) fun c xs r => by rw [upd_ne (ntup c xs r)]; exact r
      rcases hc with rfl | hc
      · exact hbe
      · rintro rfl
        rcases he with z | z
        · exact nown c b hc z
        · rw [hc] at z; cases z; exact hb rfl
end

/-! ### kept unless tracked; of the frames at fs (the callers') the slots may change (an exception that passes writes there); of the records at ex (iterators) nothing is said -/
structure Un (fs ex : List Addr) (H H' : Hp) (h h' : Heap) : Prop where
  keep : ∀ b o, h.get? b = some o → H b = none → b ∉ fs → b ∉ ex → h'.get? b = some o
  slot : ∀ b o, h.get? b = some o → H b = none → b ∈ fs → b ∉ ex → ∃ sl, h'.get? b = some { o with slots := sl }
  free : ∀ b o, h.get? b = some o → H b = none → b ∉ ex → H' b = none
  there : ∀ b o, h.get? b = some o → b ∉ ex → ∃ o', h'.get? b = some o'
  tups : ∀ b xs, H b = some (.tup xs) → H' b = some (.tup xs)
  frzs : ∀ b o u, H b = some (.frz o u) → H' b = some (.frz o u)
  tbls : ∀ b ps, H b = some (.tbl ps) → ∃ more, H' b = some (.tbl (ps ++ more))
section
variable {fs fs' ex ex' : List Addr} {H H1 H2 : Hp} {h h1 h2 h' : Heap} {a x e : Addr} {o : HO}
theorem Un.any (u : Un fs ex H H1 h h1) {b : Addr} {ob : Obj} (q : h.get? b = some ob) (n : H b = none) (hx : b ∉ ex) : ∃ sl, h1.get? b = some { ob with slots := sl } := by
  by_cases hb : b ∈ fs
  · exact u.slot b ob q n hb hx
  · exact ⟨ob.slots, u.keep b ob q n hb hx⟩
theorem Un.kept (k : ∀ b u, h.get? b = some u → h'.get? b = some u) : Un fs ex H H h h' :=
  ⟨fun b ob q _ _ _ => k b ob q, fun b ob q _ _ _ => ⟨ob.slots, k b ob q⟩, fun _ _ _ n _ => n, fun b ob q _ => ⟨ob, k b ob q⟩, fun _ _ q => q, fun _ _ _ q => q, fun _ ps q => ⟨#[], by rw [q]; simp⟩⟩
theorem Un.refl : Un fs ex H H h h := Un.kept fun _ _ q => q
theorem Un.laid (k : ∀ b u, h.get? b = some u → h'.get? b = some u) (hp : h.objs.size ≤ a) (hn : H a = none) : Un fs ex H (upd H a o) h h' where
  keep := fun b u q _ _ _ => k b u q
  slot := fun b u q _ _ _ => ⟨u.slots, k b u q⟩
  free := fun b u q n _ => by rw [upd_ne (Nat.ne_of_lt (Nat.lt_of_lt_of_le (Heap.lt_size q) hp))]; exact n
  there := fun b u q _ => ⟨u, k b u q⟩
  tups := fun b xs q => by rw [upd_ne (ne_of_none q hn)]; exact q
  frzs := fun b u xs q => by rw [upd_ne (ne_of_none q hn)]; exact q
  tbls := fun b ps q => ⟨#[], by rw [upd_ne (ne_of_none q hn), q]; simp⟩
theorem Un.write (mu : Mut (H x)) (he : e = x ∨ H e = some (.own x)) (k : ∀ b u, b ≠ e → h.get? b = some u → h'.get? b = some u) (heo : ∃ u, h'.get? e = some u) : Un fs ex H (upd H x o) h h' := by
  have hx : ∀ b, H b = none → b ≠ x := fun b n z => by subst z; rw [n] at mu; exact mu
  have hb : ∀ b, H b = none → b ≠ e := fun b n z => by
    subst z
    rcases he with r | r
    · exact hx b n r
    · rw [n] at r; cases r
  have hm : ∀ b u, H b = some u → ¬ Mut (some u) → b ≠ x := fun b u q nm z => by subst z; rw [q] at mu; exact nm mu
  refine ⟨fun b u q n _ _ => k b u (hb b n) q, fun b u q n _ _ => ⟨u.slots, k b u (hb b n) q⟩, fun b u q n _ => by rw [upd_ne (hx b n)]; exact n, fun b u q _ => ?_,
    fun b xs q => by rw [upd_ne (hm b _ q fun z => z)]; exact q, fun b u xs q => by rw [upd_ne (hm b _ q fun z => z)]; exact q, fun b ps q => ⟨#[], by rw [upd_ne (hm b _ q fun z => z), q]; simp⟩⟩
  by_cases hbe : b = e
  · subst hbe; exact heo
  · exact ⟨u, k b u hbe q⟩
end

/-! ### the heap without what is tracked -/
def trk (h : Heap) (H : Hp) : List Addr := (List.range h.objs.size).filter fun a => (H a).isSome
def hidT (h : Heap) (H : Hp) : Heap := PySem.W.hideAll h (trk h H)
theorem hidT_size (h : Heap) (H : Hp) : (hidT h H).objs.size = h.objs.size := PySem.W.hideAll_size _ _
theorem hidT_get {h : Heap} {H : Hp} {b : Addr} {o : Obj} (e : h.get? b = some o) (n : H b = none) : (hidT h H).get? b = some o :=
  PySem.W.hideAll_get _ e fun hm => by
    have q : (H b).isSome = true := (List.mem_filter.mp hm).2
    rw [n] at q; simp at q
theorem of_hidT {h : Heap} {H : Hp} {b : Addr} {o : Obj} (e : (hidT h H).get? b = some o) : h.get? b = some o ∧ H b = none := by
  have e' : h.get? b = some o := PySem.W.of_hideAll (trk h H) e
  refine ⟨e', ?_⟩
  cases q : H b with
  | none => rfl
  | some x =>
    have hm : b ∈ trk h H := List.mem_filter.mpr ⟨List.mem_range.mpr (Heap.lt_size e'), by simp [q]⟩
    have z : (hidT h H).get? b = none := PySem.W.hideAll_none (trk h H) hm
    rw [z] at e; cases e

/-! ### OpenK's ledger, filled with every new object but one -/
end L2

namespace L2
open PySem PySem.Spec PyProof.Rows

/-- the module's facts, over the base: the heap at the law's entry without what is tracked there -/
structure Mod (K : PySem.W.Frag) (mg : Str → Option Value) (base : Heap) : Prop where
  kin : K.In base
  glob : base.Ns mainGlobals mg
  blt : ∃ mb, base.Ns builtinsNs mb ∧ ∀ x : Str, x ≠ "__name__" → mb x = bootBuiltins x
  nolimit : base.NoLimit

/-- the context: a def's body (or a comprehension's block) running. base: fixed through the whole law; s₀, H₀: the entry; outer: the frames whose slots others may change (a def's callers); stack: all frames that run;
   ex: iterators that were made ahead of the entry and are walked here (a comprehension's); fn: the names whose cells were made at the entry (a def: all; a comprehension's block: its own); calm: not within an except suite; pn: pins that every state bears; xe: what is wanted of an exception that leaves the code -/
structure Cx where
  prog : Program
  w : World
  K : PySem.W.Frag
  mg : Str → Option Value
  base : Heap
  A : Around
  N : List Str
  s₀ : Shared
  H₀ : Hp
  env : Env
  outer : List Env
  stack : List Env
  ex : List Addr
  fn : Str → Bool
  calm : Bool
  pn : List (Addr × Obj)
  xe : Value → Shared → Prop
/-- the callers' frames -/
def frs (l : List Env) : List Addr := l.filterMap (·.frame)
abbrev Cx.fs (X : Cx) : List Addr := frs X.outer

def Vis (sc : Scope) (x : Str) : Prop := sc.names.lookup x = some .local ∨ sc.names.lookup x = some .cell ∨ sc.names.lookup x = some .free
def Loc (sc : Scope) (x : Str) : Prop := sc.names.lookup x = some .local ∨ sc.names.lookup x = some .cell
def Look (env : Env) (h : Heap) (m : Str → Option Value) (x : Str) (u : Value) : Prop :=
  (env.kindOf x = some .local ∧ m x = some u) ∨ ((env.kindOf x = some .cell ∨ env.kindOf x = some .free) ∧ ∃ c, env.cells.lookup x = some c ∧ h.IsCell c (some u))

structure Cx.Ok (X : Cx) : Prop where
  mod : Mod X.K X.mg X.base
  kind : X.env.scope.kind = .function
  glob : X.env.globals = mainGlobals
  blt : X.env.builtins = builtinsNs
  above : X.s₀.heap.objs.size ≤ X.env.locals
  inj : ∀ x y c, X.env.cells.lookup x = some c → X.env.cells.lookup y = some c → x = y
  has : ∀ x, (X.env.kindOf x = some .cell ∨ X.env.kindOf x = some .free) → ∃ c, X.env.cells.lookup x = some c
  cab : ∀ x c, X.fn x = true → X.env.cells.lookup x = some c → X.s₀.heap.objs.size ≤ c
  hd : X.calm = true → X.A.handled = none
  frames : X.A.frames = some X.stack
  stk : X.stack = X.outer ∨ (X.stack = X.env :: X.outer ∧ X.env.frame = some X.env.locals)
  exf : ∀ b ∈ X.ex, b ≠ X.env.locals ∧ ∀ x c, X.env.cells.lookup x = some c → c ≠ b
  bs : ∀ b o, X.base.get? b = some o → X.s₀.heap.get? b = some o ∧ X.H₀ b = none
  bsz : X.base.objs.size ≤ X.s₀.heap.objs.size
  noex : ∀ b o, X.base.get? b = some o → b ∉ X.ex
  exfs : ∀ b ∈ X.ex, b ∉ X.fs
  funs : X.s₀.heap.FunFrames X.base X.outer
  frf : ∀ b ∈ X.fs, X.H₀ b = none

structure Inv (X : Cx) (pins : List (Addr × Obj)) (σ : List (Option V)) (H : Hp) (s : Shared) : Prop where
  ok : X.Ok
  os : s.os = X.s₀.os
  bare : AllBare s.gens
  base : Un X.fs X.ex X.H₀ H X.s₀.heap s.heap
  loc : ∃ m, s.heap.Ns X.env.locals m ∧ ∀ (i : Nat) (x : Str) (v : V), X.N[i]? = some x → σ[i]? = some (some v) → Vis X.env.scope x → ∃ u, RelV v u ∧ Look X.env s.heap m x u
  cell : ∀ x c, X.env.cells.lookup x = some c → ∃ v, s.heap.IsCell c v
  free : H X.env.locals = none
  freeC : ∀ x c, X.env.cells.lookup x = some c → H c = none
  pin : ∀ p ∈ X.pn ++ pins, s.heap.get? p.1 = some p.2 ∧ H p.1 = none ∧ p.1 ≠ X.env.locals ∧ p.1 ∉ X.fs ∧ ∀ v, p.2.data ≠ .cell v
  hok : HOk X.prog X.w H s.heap
  len : σ.length = X.N.length

section
variable {X : Cx} {pins : List (Addr × Obj)} {σ : List (Option V)} {H H' : Hp} {s : Shared} {h' : Heap}

theorem Cx.Ok.nofr (ok : X.Ok) {b : Addr} {o : Obj} (e : X.base.get? b = some o) : b ∉ X.fs := fun hb => by
  have := (ok.funs.mem hb).1
  rw [e] at this; cases this
theorem Inv.bs (I : Inv X pins σ H s) : ∀ b o, X.base.get? b = some o → s.heap.get? b = some o ∧ H b = none := fun b o e =>
  ⟨I.base.keep b o (I.ok.bs b o e).1 (I.ok.bs b o e).2 (I.ok.nofr e) (I.ok.noex b o e), I.base.free b o (I.ok.bs b o e).1 (I.ok.bs b o e).2 (I.ok.noex b o e)⟩
theorem Inv.bk (I : Inv X pins σ H s) : ∀ b o, X.base.get? b = some o → s.heap.get? b = some o := fun b o e => (I.bs b o e).1
theorem Inv.mod (I : Inv X pins σ H s) : Mod X.K X.mg X.base := I.ok.mod
theorem Inv.kIn (I : Inv X pins σ H s) : X.K.In s.heap := I.ok.mod.kin.keeps I.bk
theorem Inv.lt (I : Inv X pins σ H s) : X.env.locals < s.heap.objs.size := let ⟨_, hn, _⟩ := I.loc; hn.lt
theorem Inv.sz (I : Inv X pins σ H s) : X.s₀.heap.objs.size ≤ s.heap.objs.size := Nat.le_trans I.ok.above (Nat.le_of_lt I.lt)
theorem Inv.nofs (I : Inv X pins σ H s) {a : Addr} (h : s.heap.objs.size ≤ a) : a ∉ X.fs := fun hb => by
  obtain ⟨_, o, ho, _⟩ := I.ok.funs.mem hb
  exact absurd (Nat.lt_of_lt_of_le (Heap.lt_size ho) (Nat.le_trans I.sz h)) (Nat.lt_irrefl _)
theorem Inv.cne (I : Inv X pins σ H s) : ∀ x c, X.env.cells.lookup x = some c → c ≠ X.env.locals := fun x c e z => by
  obtain ⟨v, o, ho, hd⟩ := I.cell x c e
  obtain ⟨m, ⟨o', es, ep, ho', hd', _⟩, _⟩ := I.loc
  rw [z, ho'] at ho; cases ho; rw [hd'] at hd; cases hd
theorem Inv.funs (I : Inv X pins σ H s) : s.heap.FunFrames X.base X.outer := by
  have all : ∀ (l : List Env), (∀ b ∈ frs l, b ∈ X.fs) → X.s₀.heap.FunFrames X.base l → s.heap.FunFrames X.base l := by
    intro l
    induction l with
    | nil => intro _ _; trivial
    | cons env r ih =>
      intro hs hl
      obtain ⟨hk, ⟨L, o, hf, hn, ho, hd⟩, hr⟩ := hl
      have hL : L ∈ X.fs := hs L (by unfold frs; rw [List.filterMap_cons, hf]; exact List.mem_cons_self)
      obtain ⟨sl, e⟩ := I.base.slot L o ho (I.ok.frf L hL) hL fun z => I.ok.exfs L z hL
      exact ⟨hk, ⟨L, _, hf, hn, e, hd⟩, ih (fun b hb => hs b (by unfold frs; rw [List.filterMap_cons, hf]; exact List.mem_cons_of_mem _ hb)) hr⟩
  exact all X.outer (fun _ hb => hb) I.ok.funs

/-- the frames that run, for a call -/
theorem Inv.stack (I : Inv X pins σ H s) : s.heap.FunFrames X.base X.stack := by
  rcases I.ok.stk with e | ⟨e, hf⟩
  · rw [e]; exact I.funs
  · rw [e]
    obtain ⟨m, hn, _⟩ := I.loc
    refine .cons (by rw [I.ok.kind]; decide) hf hn ?_ I.funs
    exact Heap.get?_none_of_le (Nat.le_trans I.ok.bsz I.ok.above)
theorem Inv.stkSub (I : Inv X pins σ H s) : ∀ b ∈ frs X.stack, b ∈ X.env.locals :: X.fs := fun b hb => by
  rcases I.ok.stk with e | ⟨e, hf⟩
  · rw [e] at hb; exact List.mem_cons_of_mem _ hb
  · rw [e] at hb
    unfold frs at hb
    rw [List.filterMap_cons, hf] at hb
    exact hb
theorem Inv.stkFree (I : Inv X pins σ H s) : ∀ b ∈ frs X.stack, H b = none := fun b hb => by
  rcases List.mem_cons.mp (I.stkSub b hb) with e | hb
  · rw [e]; exact I.free
  · obtain ⟨_, o, ho, _⟩ := I.ok.funs.mem hb
    exact I.base.free b o ho (I.ok.frf b hb) fun z => I.ok.exfs b z hb

/-- THE STEP: the untracked objects but the frame and the records at ch are kept (the callers' frames up to slots), the frame's map is kept, the new abstract heap is held -/
theorem Inv.step {g' : Array GenState} {t' : Nat} {d' : Drawn} {ch : List Addr} (I : Inv X pins σ H s)
    (hch : ∀ b ∈ ch, (b ∈ X.ex ∨ X.s₀.heap.objs.size ≤ b) ∧ b ≠ X.env.locals ∧ (∀ x c, X.env.cells.lookup x = some c → c ≠ b) ∧ ∀ p ∈ X.pn ++ pins, p.1 ≠ b)
    (keep : ∀ b o, b ≠ X.env.locals → b ∉ X.fs → b ∉ ch → s.heap.get? b = some o → H b = none → h'.get? b = some o)
    (slot : ∀ b o, b ≠ X.env.locals → b ∈ X.fs → b ∉ ch → s.heap.get? b = some o → H b = none → ∃ sl, h'.get? b = some { o with slots := sl }) (free : ∀ b o, b ∉ ch → s.heap.get? b = some o → H b = none → H' b = none)
    (there : ∀ b o, b ∉ ch → s.heap.get? b = some o → ∃ o', h'.get? b = some o')
    (tups : ∀ b xs, H b = some (.tup xs) → H' b = some (.tup xs)) (frzs : ∀ b o u, H b = some (.frz o u) → H' b = some (.frz o u)) (tbls : ∀ b ps, H b = some (.tbl ps) → ∃ more, H' b = some (.tbl (ps ++ more)))
    (ns : ∀ m, s.heap.Ns X.env.locals m → h'.Ns X.env.locals m) (hok : HOk X.prog X.w H' h') (hg : AllBare g') :
    Inv X pins σ H' { s with heap := h', gens := g', drawn := d', toks := t' } := by
  have neL : ∀ b o, X.s₀.heap.get? b = some o → b ≠ X.env.locals := fun b o e => Nat.ne_of_lt (Nat.lt_of_lt_of_le (Heap.lt_size e) I.ok.above)
  have neC : ∀ b o, X.s₀.heap.get? b = some o → b ∉ X.ex → b ∉ ch := fun b o e hx hb => by
    rcases (hch b hb).1 with z | z
    · exact hx z
    · exact absurd (Nat.lt_of_lt_of_le (Heap.lt_size e) z) (Nat.lt_irrefl _)
  have cellK : ∀ x c, X.env.cells.lookup x = some c → ∀ v, s.heap.IsCell c v → h'.IsCell c v := fun x c e v ⟨o, ho, hd⟩ => by
    have nch : c ∉ ch := fun z => (hch c z).2.2.1 x c e rfl
    by_cases hc : c ∈ X.fs
    · obtain ⟨sl, q⟩ := slot c o (I.cne x c e) hc nch ho (I.freeC x c e)
      exact ⟨_, q, hd⟩
    · exact ⟨o, keep c o (I.cne x c e) hc nch ho (I.freeC x c e), hd⟩
  refine ⟨I.ok, I.os, hg, ⟨fun b o e n hb hx => ?_, fun b o e n hb hx => ?_, fun b o e n hx => ?_, fun b o e hx => ?_, fun b xs e => tups b xs (I.base.tups b xs e), fun b o xs e => frzs b o xs (I.base.frzs b o xs e), fun b ps e => ?_⟩, ?_, fun x c e => ?_, ?_, fun x c e => ?_, fun p hp => ?_, hok, I.len⟩
  · exact keep b o (neL b o e) hb (neC b o e hx) (I.base.keep b o e n hb hx) (I.base.free b o e n hx)
  · obtain ⟨sl, e1⟩ := I.base.slot b o e n hb hx
    obtain ⟨sl', e2⟩ := slot b _ (neL b o e) hb (neC b o e hx) e1 (I.base.free b o e n hx)
    exact ⟨sl', e2⟩
  · obtain ⟨o', e1⟩ := I.base.there b o e hx
    exact free b o' (neC b o e hx) e1 (I.base.free b o e n hx)
  · obtain ⟨o', e1⟩ := I.base.there b o e hx
    exact there b o' (neC b o e hx) e1
  · obtain ⟨m1, e1⟩ := I.base.tbls b ps e
    obtain ⟨m2, e2⟩ := tbls b _ e1
    exact ⟨m1 ++ m2, by rw [e2, Array.append_assoc]⟩
  · obtain ⟨m, hn, hl⟩ := I.loc
    refine ⟨m, ns m hn, fun i x v e1 e2 e3 => ?_⟩
    obtain ⟨u, r, l⟩ := hl i x v e1 e2 e3
    refine ⟨u, r, ?_⟩
    rcases l with l | ⟨k, c, e, z⟩
    · exact .inl l
    · exact .inr ⟨k, c, e, cellK x c e _ z⟩
  · obtain ⟨v, z⟩ := I.cell x c e
    exact ⟨v, cellK x c e v z⟩
  · obtain ⟨m, ⟨o, _, _, ho, _⟩, _⟩ := I.loc
    exact free _ o (fun z => (hch _ z).2.1 rfl) ho I.free
  · obtain ⟨v, o, ho, hd⟩ := I.cell x c e
    exact free c o (fun z => (hch c z).2.2.1 x c e rfl) ho (I.freeC x c e)
  · obtain ⟨e, n, ne, nf, d⟩ := I.pin p hp
    have nch : p.1 ∉ ch := fun z => (hch p.1 z).2.2.2 p hp rfl
    exact ⟨keep p.1 p.2 ne nf nch e n, free p.1 p.2 nch e n, ne, nf, d⟩
/-- .. where the frame's own object is kept too -/
theorem Inv.un {t' : Nat} (I : Inv X pins σ H s) (u : Un X.fs [] H H' s.heap h') (hok : HOk X.prog X.w H' h') : Inv X pins σ H' { s with heap := h', toks := t' } := by
  obtain ⟨m, ⟨o, es, ep, ho, r⟩, _⟩ := id I.loc
  obtain ⟨sl, hL⟩ := u.any ho I.free (by simp)
  exact I.step (g' := s.gens) (d' := s.drawn) (ch := []) (fun _ z => nomatch z) (fun b o _ hb _ e n => u.keep b o e n hb (by simp)) (fun b o _ hb _ e n => u.slot b o e n hb (by simp)) (fun b o _ e n => u.free b o e n (by simp)) (fun b o _ e => u.there b o e (by simp)) u.tups u.frzs u.tbls (fun m' hm => by
    obtain ⟨o', es', ep', ho', r'⟩ := hm
    rw [ho] at ho'; cases ho'
    exact ⟨_, es', ep', hL, r'⟩) hok I.bare
/-- behind a call (or a comprehension's block): the slots of this frame may have changed too, the records at ch may have turned -/
theorem Inv.call {g' : Array GenState} {t' : Nat} {d' : Drawn} {ch : List Addr} (I : Inv X pins σ H s) (u : Un (frs X.stack) ch H H' s.heap h') (hok : HOk X.prog X.w H' h') (hg : AllBare g')
    (hch : ∀ b ∈ ch, (b ∈ X.ex ∨ X.s₀.heap.objs.size ≤ b) ∧ b ≠ X.env.locals ∧ (∀ x c, X.env.cells.lookup x = some c → c ≠ b) ∧ ∀ p ∈ X.pn ++ pins, p.1 ≠ b) :
    Inv X pins σ H' { s with heap := h', gens := g', drawn := d', toks := t' } := by
  obtain ⟨m, ⟨o, es, ep, ho, r⟩, _⟩ := id I.loc
  obtain ⟨sl, hL⟩ := u.any ho I.free fun z => (hch _ z).2.1 rfl
  exact I.step (ch := ch) hch (fun b o hL hb hc e n => u.keep b o e n (fun z => (List.mem_cons.mp (I.stkSub b z)).elim hL hb) hc) (fun b o _ _ hc e n => u.any e n hc) (fun b o hc e n => u.free b o e n hc) (fun b o hc e => u.there b o e hc) u.tups u.frzs u.tbls (fun m' hm => by
    obtain ⟨o', es', ep', ho', r'⟩ := hm
    rw [ho] at ho'; cases ho'
    exact ⟨_, es', ep', hL, r'⟩) hok hg
/-- an untracked record of ours (an iterator) has turned -/
theorem Inv.turned {t' : Nat} {it : Addr} (I : Inv X pins σ H s) (k : ∀ b o, b ≠ it → s.heap.get? b = some o → h'.get? b = some o) (hn : H it = none) (hL : it ≠ X.env.locals)
    (h1 : it ∈ X.ex ∨ X.s₀.heap.objs.size ≤ it) (h2 : ∀ x c, X.env.cells.lookup x = some c → c ≠ it) (h3 : ∀ p ∈ X.pn ++ pins, p.1 ≠ it) : Inv X pins σ H { s with heap := h', toks := t' } := by
  have nit : ∀ b u, H b = some u → b ≠ it := fun b u e z => by rw [z, hn] at e; cases e
  refine I.step (g' := s.gens) (d' := s.drawn) (ch := [it]) (fun b hb => ?_) (fun b o _ _ hc e _ => k b o (fun z => hc (by simp [z])) e) (fun b o _ _ hc e _ => ⟨o.slots, k b o (fun z => hc (by simp [z])) e⟩) (fun _ _ _ _ n => n)
    (fun b o hc e => ⟨o, k b o (fun z => hc (by simp [z])) e⟩) (fun _ _ e => e) (fun _ _ _ e => e) (fun b ps e => ⟨#[], by rw [e]; simp⟩) (fun m hm => ?_) (fun b u e => ?_) I.bare
  · have e : b = it := by simpa using hb
    subst e
    exact ⟨h1, hL, h2, h3⟩
  · obtain ⟨o, es, ep, ho, r⟩ := hm
    exact ⟨o, es, ep, k _ o (Ne.symm hL) ho, r⟩
  · refine (I.hok b u e).stay (fun c v hc q => k c v ?_ q) (fun _ q => q) fun _ _ q => q
    rcases hc with z | z
    · rw [z]; exact nit b u e
    · exact nit c _ z
theorem Inv.tok (I : Inv X pins σ H s) (t : Nat) : Inv X pins σ H { s with toks := t } := I.un (h' := s.heap) (t' := t) Un.refl I.hok
/-- all objects kept -/
theorem Inv.kept {t' : Nat} (I : Inv X pins σ H s) (k : ∀ b u, s.heap.get? b = some u → h'.get? b = some u) : Inv X pins σ H { s with heap := h', toks := t' } := I.un (Un.kept k) (I.hok.kept k)
/-- a new object laid and tracked -/
theorem Inv.laid {a : Addr} {o : HO} {t' : Nat} (I : Inv X pins σ H s) (k : ∀ b u, s.heap.get? b = some u → h'.get? b = some u) (hp : s.heap.objs.size ≤ a) (new : ObjOk X.prog X.w (upd H a o) h' a o) :
    Inv X pins σ (upd H a o) { s with heap := h', toks := t' } := I.un (Un.laid k hp (I.hok.fresh hp)) (I.hok.laid k hp new)
/-- an object written -/
theorem Inv.write {x e : Addr} {o : HO} {t' : Nat} (I : Inv X pins σ H s) (mu : Mut (H x)) (he : e = x ∨ H e = some (.own x)) (k : ∀ b u, b ≠ e → s.heap.get? b = some u → h'.get? b = some u) (heo : ∃ u, h'.get? e = some u)
    (new : ObjOk X.prog X.w (upd H x o) h' x o) : Inv X pins σ (upd H x o) { s with heap := h', toks := t' } := I.un (Un.write mu he k heo) (I.hok.write mu he k heo new)
theorem Inv.pins_of {pins' : List (Addr × Obj)} (I : Inv X pins σ H s) (h : ∀ p ∈ pins', s.heap.get? p.1 = some p.2 ∧ H p.1 = none ∧ p.1 ≠ X.env.locals ∧ p.1 ∉ X.fs ∧ ∀ v, p.2.data ≠ .cell v) : Inv X pins' σ H s :=
  ⟨I.ok, I.os, I.bare, I.base, I.loc, I.cell, I.free, I.freeC, fun p hp => (List.mem_append.mp hp).elim (fun z => I.pin p (List.mem_append_left _ z)) (h p), I.hok, I.len⟩

theorem nodup_ix {N : List Str} (hN : N.Nodup) {i j : Nat} {x : Str} (a : N[i]? = some x) (b : N[j]? = some x) : i = j := by
  obtain ⟨h1, e1⟩ := List.getElem?_eq_some_iff.mp a
  obtain ⟨h2, e2⟩ := List.getElem?_eq_some_iff.mp b
  exact (List.getElem_inj hN).mp (e1.trans e2.symm)

/-- a name is stored; what changed -/
theorem store_ok2 {M : Model} {A : Around} {E : Value → Shared → Prop} {i : Nat} {x : Str} {v : V} {u : Value} {Q : Unit → Shared → Prop} (I : Inv X pins σ H s) (hN : X.N.Nodup) (hi : X.N[i]? = some x) (hx : Loc X.env.scope x) (r : RelV v u)
    (h : ∀ s', Inv X pins (σ.set i (some v)) H s' → (∃ a, Heap.SameBut a s.heap s'.heap ∧ (a = X.env.locals ∨ X.env.cells.lookup x = some a)) → Q () s') (hf : X.fn x = true ∨ X.env.scope.names.lookup x = some .local := by first | exact .inl rfl | exact .inr rfl | assumption) : wpAny M A (storeName X.env x u) Q E s := by
  obtain ⟨m, hn, hl⟩ := id I.loc
  have hcls : (X.env.scope.kind == .class || (X.env.scope.kind == .module && X.env.locals != X.env.globals)) = false := by rw [I.ok.kind]; rfl
  have hiσ : i < σ.length := by rw [I.len]; exact (List.getElem?_eq_some_iff.mp hi).1
  have cne := I.cne
  have tracked : ∀ {a : Addr} {h' : Heap}, (∃ o, s.heap.get? a = some o ∧ H a = none) → Heap.SameBut a s.heap h' → HOk X.prog X.w H h' := fun {a h'} ha hs b ob e => by
    obtain ⟨_, _, hfree⟩ := ha
    refine (I.hok b ob e).stay (fun c w' hc q => (hs.2 c ?_).trans q) (fun _ q => q) fun _ _ q => q
    rintro rfl
    rcases hc with rfl | hc
    · rw [hfree] at e; cases e
    · rw [hfree] at hc; cases hc
  rcases hx with hk | hk
  · refine wpAny_storeName_local hk hn (fun h' hn' hs => ?_) hcls
    obtain ⟨oL, _, _, hoL, _⟩ := id hn
    refine h _ ⟨I.ok, I.os, I.bare, ⟨fun b o e n hb hx => ?_, fun b o e n hb hx => ?_, I.base.free, fun b o e hx => ?_, I.base.tups, I.base.frzs, I.base.tbls⟩, ⟨_, hn', fun j y v' e1 e2 e3 => ?_⟩, fun y c e => ?_, I.free, I.freeC, fun p hp => ?_, tracked ⟨oL, hoL, I.free⟩ hs, by simpa using I.len⟩ ⟨_, hs, .inl rfl⟩
    · exact (hs.2 b (Nat.ne_of_lt (Nat.lt_of_lt_of_le (Heap.lt_size e) I.ok.above))).trans (I.base.keep b o e n hb hx)
    · obtain ⟨sl, e1⟩ := I.base.slot b o e n hb hx
      exact ⟨sl, (hs.2 b (Nat.ne_of_lt (Nat.lt_of_lt_of_le (Heap.lt_size e) I.ok.above))).trans e1⟩
    · obtain ⟨o', e1⟩ := I.base.there b o e hx
      exact ⟨o', (hs.2 b (Nat.ne_of_lt (Nat.lt_of_lt_of_le (Heap.lt_size e) I.ok.above))).trans e1⟩
    · by_cases hj : j = i
      · subst hj
        rw [hi] at e1; cases e1
        rw [List.getElem?_set_self hiσ] at e2
        cases e2
        exact ⟨u, r, .inl ⟨hk, by simp⟩⟩
      · rw [List.getElem?_set_ne (Ne.symm hj)] at e2
        obtain ⟨u', r', q⟩ := hl j y v' e1 e2 e3
        refine ⟨u', r', ?_⟩
        rcases q with ⟨k, e⟩ | ⟨k, c, e, z⟩
        · refine .inl ⟨k, ?_⟩
          have : y ≠ x := fun e => hj (nodup_ix hN e1 (e ▸ hi))
          simp [this, e]
        · exact .inr ⟨k, c, e, z.sameBut hs (cne y c e)⟩
    · obtain ⟨w', z⟩ := I.cell y c e
      exact ⟨w', z.sameBut hs (cne y c e)⟩
    · obtain ⟨e, n, ne, nf, d⟩ := I.pin p hp
      exact ⟨(hs.2 p.1 ne).trans e, n, ne, nf, d⟩
  · have hfn : X.fn x = true := by
      rcases hf with z | z
      · exact z
      · rw [z] at hk; cases hk
    obtain ⟨c, hc⟩ := I.ok.has x (.inl hk)
    obtain ⟨w', z⟩ := I.cell x c hc
    refine wpAny_storeName_cell I.ok.kind hk hc z (fun h' hc' hs => ?_)
    obtain ⟨oc, hoc, hocd⟩ := id z
    refine h { s with heap := h' } ⟨I.ok, I.os, I.bare, ⟨fun b o e n hb hx => ?_, fun b o e n hb hx => ?_, I.base.free, fun b o e hx => ?_, I.base.tups, I.base.frzs, I.base.tbls⟩, ⟨m, hn.sameBut hs (Ne.symm (cne x c hc)), fun j y v' e1 e2 e3 => ?_⟩, fun y c' e => ?_, I.free, I.freeC, fun p hp => ?_, tracked ⟨oc, hoc, I.freeC x c hc⟩ hs, by simpa using I.len⟩ ⟨c, hs, .inr hc⟩
    · exact (hs.2 b (Nat.ne_of_lt (Nat.lt_of_lt_of_le (Heap.lt_size e) (I.ok.cab x c hfn hc)))).trans (I.base.keep b o e n hb hx)
    · obtain ⟨sl, e1⟩ := I.base.slot b o e n hb hx
      exact ⟨sl, (hs.2 b (Nat.ne_of_lt (Nat.lt_of_lt_of_le (Heap.lt_size e) (I.ok.cab x c hfn hc)))).trans e1⟩
    · obtain ⟨o', e1⟩ := I.base.there b o e hx
      exact ⟨o', (hs.2 b (Nat.ne_of_lt (Nat.lt_of_lt_of_le (Heap.lt_size e) (I.ok.cab x c hfn hc)))).trans e1⟩
    · by_cases hj : j = i
      · subst hj
        rw [hi] at e1; cases e1
        rw [List.getElem?_set_self hiσ] at e2
        cases e2
        exact ⟨u, r, .inr ⟨.inl hk, c, hc, hc'⟩⟩
      · rw [List.getElem?_set_ne (Ne.symm hj)] at e2
        obtain ⟨u', r', q⟩ := hl j y v' e1 e2 e3
        refine ⟨u', r', ?_⟩
        rcases q with q | ⟨k, c', e, z'⟩
        · exact .inl q
        · refine .inr ⟨k, c', e, z'.sameBut hs ?_⟩
          rintro rfl
          exact hj (nodup_ix hN e1 (I.ok.inj _ _ _ e hc ▸ hi))
    · by_cases hcc : c' = c
      · subst hcc; exact ⟨_, hc'⟩
      · obtain ⟨w2, z2⟩ := I.cell y c' e
        exact ⟨w2, z2.sameBut hs hcc⟩
    · obtain ⟨e, n, ne, nf, d⟩ := I.pin p hp
      refine ⟨(hs.2 p.1 ?_).trans e, n, ne, nf, d⟩
      intro q
      rw [q, hoc] at e
      have q' : oc = p.2 := Option.some.inj e
      exact d w' (by rw [← q']; exact hocd)
theorem store_ok {M : Model} {A : Around} {E : Value → Shared → Prop} {i : Nat} {x : Str} {v : V} {u : Value} {Q : Unit → Shared → Prop} (I : Inv X pins σ H s) (hN : X.N.Nodup) (hi : X.N[i]? = some x) (hx : Loc X.env.scope x) (r : RelV v u)
    (h : ∀ s', Inv X pins (σ.set i (some v)) H s' → Q () s') (hf : X.fn x = true ∨ X.env.scope.names.lookup x = some .local := by first | exact .inl rfl | exact .inr rfl | assumption) : wpAny M A (storeName X.env x u) Q E s :=
  store_ok2 I hN hi hx r (fun s' I' _ => h s' I') hf
/-- behind a call or a block, the state as it is -/
theorem Inv.call' {s' : Shared} {ch : List Addr} (I : Inv X pins σ H s) (ho : s'.os = s.os) (u : Un (frs X.stack) ch H H' s.heap s'.heap) (hok : HOk X.prog X.w H' s'.heap) (hg : AllBare s'.gens)
    (hch : ∀ b ∈ ch, (b ∈ X.ex ∨ X.s₀.heap.objs.size ≤ b) ∧ b ≠ X.env.locals ∧ (∀ x c, X.env.cells.lookup x = some c → c ≠ b) ∧ ∀ p ∈ X.pn ++ pins, p.1 ≠ b) : Inv X pins σ H' s' := by
  obtain ⟨h', g', d', t', o'⟩ := s'
  have e : o' = s.os := ho
  subst e
  exact I.call (g' := g') (t' := t') (d' := d') u hok hg hch
end

/-! ### the judgements -/
/-- an exception: its class, its own dict's address (where it has one), the abstract heap behind it -/
abbrev XK := Value → Option Addr → Hp → Prop
abbrev St := List (Option V)
abbrev VK := V → Hp → Prop
/-- an expression's reading; a test's; an argument list's -/
abbrev TE := St → Hp → VK → Prop
abbrev TT := St → Hp → (Bool → Hp → Prop) → Prop
abbrev TA := St → Hp → (List V → Hp → Prop) → Prop
/-- what is wanted behind a statement -/
structure Ends where
  nx : St → Hp → Prop
  rt : VK
  bk : St → Hp → Prop := fun _ _ => False
  ct : St → Hp → Prop := fun _ _ => False
abbrev TS := Ends → St → Hp → Prop

def EP (X : Cx) (pins : List (Addr × Obj)) (σ : St) (Q : VK) (u : Value) (s' : Shared) : Prop := ∃ v H', Inv X pins σ H' s' ∧ RelV v u ∧ Q v H'
def TP (X : Cx) (pins : List (Addr × Obj)) (σ : St) (Q : Bool → Hp → Prop) (b : Bool) (s' : Shared) : Prop := ∃ H', Inv X pins σ H' s' ∧ Q b H'
def AP (X : Cx) (pins : List (Addr × Obj)) (σ : St) (Q : List V → Hp → Prop) (us : List Value) (s' : Shared) : Prop := ∃ vs H', Inv X pins σ H' s' ∧ Vals vs us ∧ Q vs H'
def SP (X : Cx) (pins : List (Addr × Obj)) (D : Ends) (f : Flow) (s' : Shared) : Prop :=
  match f with
  | .next => ∃ σ' H', Inv X pins σ' H' s' ∧ D.nx σ' H'
  | .brk => ∃ σ' H', Inv X pins σ' H' s' ∧ D.bk σ' H'
  | .cont => ∃ σ' H', Inv X pins σ' H' s' ∧ D.ct σ' H'
  | .ret u => ∃ v σ' H', Inv X pins σ' H' s' ∧ RelV v u ∧ D.rt v H'

def PE (X : Cx) (e : Expr) (t : TE) : Prop :=
  ∀ (pins : List (Addr × Obj)) (s : Shared) (σ : St) (H : Hp) (Q : VK), Inv X pins σ H s → t σ H Q → wpAny (model X.prog X.w) X.A (eval e X.env) (EP X pins σ Q) X.xe s
def PT (X : Cx) (e : Expr) (t : TT) : Prop :=
  ∀ (pins : List (Addr × Obj)) (s : Shared) (σ : St) (H : Hp) (Q : Bool → Hp → Prop), Inv X pins σ H s → t σ H Q → wpAny (model X.prog X.w) X.A (isTrue e X.env (eval e X.env)) (TP X pins σ Q) X.xe s
/-- a test whatever its 'whole' is (and, or) -/
def PW (X : Cx) (e : Expr) (t : TT) : Prop :=
  ∀ (whole : Sem Value) (pins : List (Addr × Obj)) (s : Shared) (σ : St) (H : Hp) (Q : Bool → Hp → Prop), Inv X pins σ H s → t σ H Q → wpAny (model X.prog X.w) X.A (isTrue e X.env whole) (TP X pins σ Q) X.xe s
theorem PW.pt {X : Cx} {e : Expr} {t : TT} (h : PW X e t) : PT X e t := h _
/-- an argument list (no star), from the left -/
def PA (X : Cx) (es : List Expr) (t : TA) : Prop :=
  ∀ (pos : Pos) (pins : List (Addr × Obj)) (s : Shared) (σ : St) (H : Hp) (Q : List V → Hp → Prop), Inv X pins σ H s → t σ H Q → wpAny (model X.prog X.w) X.A (spliced (backTo pos (starEach es X.env))) (AP X pins σ Q) X.xe s
def PS (X : Cx) (st : Stmt) (t : TS) : Prop :=
  ∀ (pins : List (Addr × Obj)) (s : Shared) (σ : St) (H : Hp) (D : Ends), Inv X pins σ H s → t D σ H → wpAny (model X.prog X.w) X.A (exec st X.env) (SP X pins D) X.xe s
def PSs (X : Cx) (st : List Stmt) (t : TS) : Prop :=
  ∀ (pins : List (Addr × Obj)) (s : Shared) (σ : St) (H : Hp) (D : Ends), Inv X pins σ H s → t D σ H → wpAny (model X.prog X.w) X.A (execs st X.env) (SP X pins D) X.xe s
/-- weaken the end -/
theorem thn {α : Type} {t : Sem α} {Q Q' : α → Shared → Prop} {M : Model} {A : Around} {E : Value → Shared → Prop} {s : Shared} (h : wpAny M A t Q E s) (hQ : ∀ a s, Q a s → Q' a s) : wpAny M A t Q' E s := wpAny_mono h hQ fun _ _ x => x
end L2

namespace L2
open PySem PySem.Spec PyProof.Rows
section
variable {X : Cx}

/-! ### names and constants -/
def tVar (i : Nat) : TE := fun σ H Q => ∃ v, σ[i]? = some (some v) ∧ Q v H
def tC (v : V) : TE := fun _ H Q => Q v H
theorem pe_var {i : Nat} {x : Str} {pos : Pos} (hN : X.N[i]? = some x) (hv : Vis X.env.scope x) (hd : (x == ("__debug__" : Str)) = false := by decide) (hcd : (x == ("__classdict__" : Str)) = false := by decide) : PE X (.Name x pos) (tVar i) := by
  intro pins s σ H Q I h
  obtain ⟨v, e, h⟩ := h
  obtain ⟨m, hn, hl⟩ := I.loc
  obtain ⟨u, r, l⟩ := hl i x v hN e hv
  have fin : EP X pins σ Q u s := ⟨v, H, I, r, h⟩
  rcases l with ⟨hk, hm⟩ | ⟨hk, c, hc, hcell⟩
  · exact wpAny_Name (wpAny_loadName_local I.ok.kind hk hn hm fin) hd
  · rcases hk with hk | hk
    · exact wpAny_Name (wpAny_loadName_cell I.ok.kind hk hc hcell fin) hd
    · exact wpAny_Name (wpAny_loadName_free I.ok.kind hk hc hcell fin hcd) hd
theorem pe_int {i j pos} : PE X (.Constant (.int i) j pos) (tC (.int i)) := fun _ _ _ H _ I h => wpAny_Constant_int ⟨.int i, H, I.tok _, ⟨_, rfl⟩, h⟩
theorem pe_bl {b j pos} : PE X (.Constant (.bool b) j pos) (tC (.bl b)) := fun _ _ _ H _ I h => Constant_bool ⟨.bl b, H, I, rfl, h⟩
theorem pe_non {j pos} : PE X (.Constant .none j pos) (tC .non) := fun _ _ _ H _ I h => Constant_none ⟨.non, H, I, rfl, h⟩
theorem pe_str {x j pos} : PE X (.Constant (.str x) j pos) (tC (.str x)) := fun _ _ _ H _ I h => Calls.Constant_str ⟨.str x, H, I.tok _, ⟨_, rfl⟩, h⟩

/-- a global name of the def -/
def Gl (X : Cx) (x : Str) : Prop := X.env.kindOf x = some .globalImplicit
theorem ld_glob {E : Value → Shared → Prop} {pins : List (Addr × Obj)} {s : Shared} {σ : St} {H : Hp} {x : Str} {u : Value} {pos : Pos} {Q : Value → Shared → Prop} (I : Inv X pins σ H s) (hg : Gl X x) (hm : X.mg x = some u) (h : Q u s)
    (hd : (x == ("__debug__" : Str)) = false := by decide) : wpAny (model X.prog X.w) X.A (eval (.Name x pos) X.env) Q E s :=
  Calls.Name_function_global I.ok.kind hg (Calls.loadGlobal_global (by rw [I.ok.glob]; exact I.mod.glob.keeps I.bk) hm h) hd
theorem ld_blt {E : Value → Shared → Prop} {pins : List (Addr × Obj)} {s : Shared} {σ : St} {H : Hp} {x : Str} {u : Value} {pos : Pos} {Q : Value → Shared → Prop} (I : Inv X pins σ H s) (hg : Gl X x) (hm : X.mg x = none) (hv : bootBuiltins x = some u) (h : Q u s)
    (hn : x ≠ "__name__" := by decide) (hd : (x == ("__debug__" : Str)) = false := by decide) : wpAny (model X.prog X.w) X.A (eval (.Name x pos) X.env) Q E s := by
  obtain ⟨mb, h1, h2⟩ := I.mod.blt
  exact Calls.Name_function_global I.ok.kind hg (Calls.loadGlobal_builtin (by rw [I.ok.glob]; exact I.mod.glob.keeps I.bk) hm (by rw [I.ok.blt]; exact h1.keeps I.bk) ((h2 x hn).trans hv) h) hd
/-- a module's constant, a class, a function, as a value -/
theorem pe_glob {x : Str} {v : V} {u : Value} {pos : Pos} (hg : Gl X x) (hm : X.mg x = some u) (r : RelV v u) (hd : (x == ("__debug__" : Str)) = false := by decide) : PE X (.Name x pos) (tC v) :=
  fun _ _ _ H _ I h => ld_glob I hg hm ⟨v, H, I, r, h⟩ hd
theorem pe_bltn {x : Str} {v : V} {u : Value} {pos : Pos} (hg : Gl X x) (hm : X.mg x = none) (hv : bootBuiltins x = some u) (r : RelV v u) (hn : x ≠ "__name__" := by decide) (hd : (x == ("__debug__" : Str)) = false := by decide) : PE X (.Name x pos) (tC v) :=
  fun _ _ _ H _ I h => ld_blt I hg hm hv ⟨v, H, I, r, h⟩ hn hd

/-! ### arithmetic -/
variable {a b : Expr} {ta tb : TE} {pos : Pos}
/-! ### comparisons -/
/-! ### and, or, not -/
variable {tA tB' : TT} {rest : List Expr}
def tAnd (t u : TT) : TT := fun σ H Q => t σ H fun c H1 => if c = true then u σ H1 Q else Q false H1
def tOr (t u : TT) : TT := fun σ H Q => t σ H fun c H1 => if c = true then Q true H1 else u σ H1 Q
def tNot (t : TT) : TT := fun σ H Q => t σ H fun c H1 => Q (!c) H1
theorem pw_and1 (ha : PT X a tA) : PW X (.BoolOp .And [a] pos) tA := by
  intro wh pins s σ H Q I h
  refine isTrue_and (thn (ha pins s σ H Q I h) fun c s1 e => ?_)
  cases c with
  | true => exact isTrue_and_nil e
  | false => exact e
theorem pw_or1 (ha : PT X a tA) : PW X (.BoolOp .Or [a] pos) tA := by
  intro wh pins s σ H Q I h
  refine isTrue_or (thn (ha pins s σ H Q I h) fun c s1 e => ?_)
  cases c with
  | false => exact isTrue_or_nil e
  | true => exact e
theorem pw_and (ha : PT X a tA) (hb : PW X (.BoolOp .And (b :: rest) pos) tB') : PW X (.BoolOp .And (a :: b :: rest) pos) (tAnd tA tB') := by
  intro wh pins s σ H Q I h
  refine isTrue_and (thn (ha pins s σ H _ I h) fun c s1 ⟨H1, I1, q1⟩ => ?_)
  cases c with
  | true => exact hb wh pins s1 σ H1 Q I1 q1
  | false => exact ⟨H1, I1, q1⟩
theorem pw_or (ha : PT X a tA) (hb : PW X (.BoolOp .Or (b :: rest) pos) tB') : PW X (.BoolOp .Or (a :: b :: rest) pos) (tOr tA tB') := by
  intro wh pins s σ H Q I h
  refine isTrue_or (thn (ha pins s σ H _ I h) fun c s1 ⟨H1, I1, q1⟩ => ?_)
  cases c with
  | true => exact ⟨H1, I1, q1⟩
  | false => exact hb wh pins s1 σ H1 Q I1 q1
theorem pt_not (ha : PT X a tA) : PT X (.UnaryOp .Not a pos) (tNot tA) := by
  intro pins s σ H Q I h
  exact isTrue_not (ha pins s σ H (fun c H1 => Q (!c) H1) I h)
/-- .. as values (bools) -/
def tAndV (ta tb : TE) : TE := fun σ H Q => ta σ H fun x H1 => ∃ c, x = .bl c ∧ if c = true then tb σ H1 Q else Q (.bl false) H1
def tOrV (ta tb : TE) : TE := fun σ H Q => ta σ H fun x H1 => ∃ c, x = .bl c ∧ if c = true then Q (.bl true) H1 else tb σ H1 Q
def tNotV (ta : TE) : TE := fun σ H Q => ta σ H fun x H1 => ∃ c, x = .bl c ∧ Q (.bl (!c)) H1
theorem pe_one {op} {t : TE} (h : PE X a t) : PE X (.BoolOp op [a] pos) t := fun pins s σ H Q I hw => BoolOp_one (h pins s σ H Q I hw)
theorem pe_and (ha : PE X a ta) (hb : PE X (.BoolOp .And (b :: rest) pos) tb) : PE X (.BoolOp .And (a :: b :: rest) pos) (tAndV ta tb) := by
  intro pins s σ H Q I h
  refine BoolOp_and (thn (ha pins s σ H _ I h) fun v s1 ⟨x, H1, I1, r1, q1⟩ => ?_)
  obtain ⟨c, rfl, q1⟩ := q1
  cases r1
  refine wpAny_truthy_bool ?_
  cases c with
  | true => exact hb pins s1 σ H1 Q I1 q1
  | false => exact ⟨.bl false, H1, I1, rfl, q1⟩
theorem pe_or (ha : PE X a ta) (hb : PE X (.BoolOp .Or (b :: rest) pos) tb) : PE X (.BoolOp .Or (a :: b :: rest) pos) (tOrV ta tb) := by
  intro pins s σ H Q I h
  refine BoolOp_or (thn (ha pins s σ H _ I h) fun v s1 ⟨x, H1, I1, r1, q1⟩ => ?_)
  obtain ⟨c, rfl, q1⟩ := q1
  cases r1
  refine wpAny_truthy_bool ?_
  cases c with
  | false => exact hb pins s1 σ H1 Q I1 q1
  | true => exact ⟨.bl true, H1, I1, rfl, q1⟩
theorem pe_not (ha : PE X a ta) : PE X (.UnaryOp .Not a pos) (tNotV ta) := by
  intro pins s σ H Q I h
  refine UnaryOp_ (thn (ha pins s σ H _ I h) fun v s1 ⟨x, H1, I1, r1, q1⟩ => ?_)
  obtain ⟨c, rfl, q1⟩ := q1
  cases r1
  exact not_of (wpAny_truthy_bool ⟨.bl (!c), H1, I1, rfl, q1⟩)
/-- a if t else b -/
def tIf (t : TT) (ta tb : TE) : TE := fun σ H Q => t σ H fun c H1 => if c = true then ta σ H1 Q else tb σ H1 Q
theorem pe_ifExp {c : Expr} (hc : PT X c tA) (ha : PE X a ta) (hb : PE X b tb) : PE X (.IfExp c a b pos) (tIf tA ta tb) := by
  intro pins s σ H Q I h
  refine wpAny_IfExp (thn (hc pins s σ H _ I h) fun d s1 ⟨H1, I1, q1⟩ => ?_)
  cases d with
  | true => exact ha pins s1 σ H1 Q I1 q1
  | false => exact hb pins s1 σ H1 Q I1 q1
end
end L2

namespace L2
open PySem PySem.Spec PyProof.Rows

/-! ### a list, a tuple that is read: tracked, frozen, or an object of the module -/
def SqL (K : PySem.W.Frag) (H : Hp) (a : Addr) (xs : List V) : Prop :=
  Rd H a (.lst xs) ∨
    ∃ (o : Obj) (its : Array Value) (n : Nat), K.lookup a = some o ∧ o.cls = .type "list" ∧ o.dict = none ∧ o.data = .seq its n ∧ its.size ≤ sizeLine ∧ Vals xs its.toList
def SqT (K : PySem.W.Frag) (H : Hp) (a : Addr) (xs : List V) : Prop :=
  Rd H a (.tup xs) ∨
    ∃ (o : Obj) (its : Array Value) (n : Nat), K.lookup a = some o ∧ o.cls = .type "tuple" ∧ o.data = .seq its n ∧ its.size ≤ sizeLine ∧ Vals xs its.toList
def absV : Value → Option V
  | .none => some .non
  | .bool b => some (.bl b)
  | .int i _ => some (.int i)
  | .str x _ => some (.str x)
  | .bytes b _ => some (.byt b)
  | .float b _ => some (.flt b)
  | .ref a => some (.ref a)
  | .type n => some (.ty n)
  | _ => none
theorem RelV.abs {x : V} {u : Value} (r : RelV x u) : absV u = some x := by
  cases x with
  | non => cases r; rfl
  | bl _ => cases r; rfl
  | int _ => obtain ⟨t, rfl⟩ := r; rfl
  | str _ => obtain ⟨t, rfl⟩ := r; rfl
  | byt _ => obtain ⟨t, rfl⟩ := r; rfl
  | flt _ => obtain ⟨t, rfl⟩ := r; rfl
  | ref _ => cases r; rfl
  | ty _ => cases r; rfl
theorem RelV.inj {x y : V} {u : Value} (r : RelV x u) (q : RelV y u) : x = y := Option.some.inj (r.abs.symm.trans q.abs)
theorem Vals.inj : ∀ {xs ys : List V} {us : List Value}, Vals xs us → Vals ys us → xs = ys
  | _, _, _, .nil, .nil => rfl
  | _, _, _, .cons r t, .cons r' t' => by rw [r.inj r', Vals.inj t t']
section
variable {X : Cx} {pins : List (Addr × Obj)} {σ : St} {H : Hp} {s : Shared} {a : Addr} {xs ys : List V}
theorem SqL.of {K : PySem.W.Frag} (h : H a = some (.lst xs)) : SqL K H a xs := .inl (.inl h)
theorem SqT.of {K : PySem.W.Frag} (h : H a = some (.tup xs)) : SqT K H a xs := .inl (.inl h)
theorem Inv.list (I : Inv X pins σ H s) (h : SqL X.K H a xs) : ∃ its : List Value, Vals xs its ∧ PlainL s.heap a its.toArray ∧ xs.length ≤ sizeLine := by
  rcases h with h | ⟨o, its, n, hk, hc, hd, hs, hz, r⟩
  · obtain ⟨z, its, n, r, e⟩ := h.ok I.hok
    exact ⟨its, r, ⟨_, n, e, rfl, rfl, rfl⟩, z⟩
  · refine ⟨its.toList, r, ⟨o, n, I.kIn a o hk, hc, hd, by simpa using hs⟩, ?_⟩
    have e := r.length
    simp only [Array.length_toList] at e
    omega
theorem Inv.tuple (I : Inv X pins σ H s) (h : SqT X.K H a xs) : ∃ its : List Value, Vals xs its ∧ IsTup s.heap a its.toArray ∧ xs.length ≤ sizeLine := by
  rcases h with h | ⟨o, its, n, hk, hc, hs, hz, r⟩
  · obtain ⟨z, its, r, p⟩ := h.ok I.hok
    exact ⟨its, r, p, z⟩
  · refine ⟨its.toList, r, ⟨o, I.kIn a o hk, hc, n, by simpa using hs⟩, ?_⟩
    have e := r.length
    simp only [Array.length_toList] at e
    omega
theorem Inv.list_inj (I : Inv X pins σ H s) (h : SqL X.K H a xs) (h' : SqL X.K H a ys) : xs = ys := by
  obtain ⟨its, r, ⟨o, n, e, _, _, d⟩, _⟩ := I.list h
  obtain ⟨its', r', ⟨o', n', e', _, _, d'⟩, _⟩ := I.list h'
  rw [e] at e'; cases e'
  rw [d] at d'
  injection d' with d1 _
  have : its = its' := by simpa using congrArg Array.toList d1
  subst this
  exact r.inj r'
theorem Inv.tuple_inj (I : Inv X pins σ H s) (h : SqT X.K H a xs) (h' : SqT X.K H a ys) : xs = ys := by
  obtain ⟨its, r, ⟨o, e, _, n, d⟩, _⟩ := I.tuple h
  obtain ⟨its', r', ⟨o', e', _, n', d'⟩, _⟩ := I.tuple h'
  rw [e] at e'; cases e'
  rw [d] at d'
  injection d' with d1 _
  have : its = its' := by simpa using congrArg Array.toList d1
  subst this
  exact r.inj r'
end

/-! ### another wish about exceptions -/
abbrev Cx.wish (X : Cx) (E : Value → Shared → Prop) : Cx := { X with xe := E }
/-- no exception leaves -/
abbrev Cx.nox (X : Cx) : Cx := X.wish fun _ _ => False
theorem Cx.Ok.wish {X : Cx} (ok : X.Ok) (E : Value → Shared → Prop) : (X.wish E).Ok :=
  ⟨ok.mod, ok.kind, ok.glob, ok.blt, ok.above, ok.inj, ok.has, ok.cab, ok.hd, ok.frames, ok.stk, ok.exf, ok.bs, ok.bsz, ok.noex, ok.exfs, ok.funs, ok.frf⟩
theorem Cx.Ok.unwish {X : Cx} {E : Value → Shared → Prop} (ok : (X.wish E).Ok) : X.Ok :=
  ⟨ok.mod, ok.kind, ok.glob, ok.blt, ok.above, ok.inj, ok.has, ok.cab, ok.hd, ok.frames, ok.stk, ok.exf, ok.bs, ok.bsz, ok.noex, ok.exfs, ok.funs, ok.frf⟩
section
variable {X : Cx} {pins : List (Addr × Obj)} {σ : St} {H : Hp} {s : Shared} {E : Value → Shared → Prop}
theorem Inv.wish (I : Inv X pins σ H s) (E : Value → Shared → Prop) : Inv (X.wish E) pins σ H s := ⟨I.ok.wish E, I.os, I.bare, I.base, I.loc, I.cell, I.free, I.freeC, I.pin, I.hok, I.len⟩
theorem Inv.unwish (I : Inv (X.wish E) pins σ H s) : Inv X pins σ H s := ⟨I.ok.unwish, I.os, I.bare, I.base, I.loc, I.cell, I.free, I.freeC, I.pin, I.hok, I.len⟩
theorem SP.unwish {D : Ends} {f : Flow} {s' : Shared} (h : SP (X.wish E) pins D f s') : SP X pins D f s' := by
  cases f with
  | next => obtain ⟨σ', H', I, q⟩ := h; exact ⟨σ', H', I.unwish, q⟩
  | brk => obtain ⟨σ', H', I, q⟩ := h; exact ⟨σ', H', I.unwish, q⟩
  | cont => obtain ⟨σ', H', I, q⟩ := h; exact ⟨σ', H', I.unwish, q⟩
  | ret u => obtain ⟨v, σ', H', I, r, q⟩ := h; exact ⟨v, σ', H', I.unwish, r, q⟩
theorem PSs.nox {st : List Stmt} {t : TS} (h : PSs X.nox st t) : PSs X st t := fun pins s σ H D I hw =>
  wpAny_mono (h pins s σ H D (I.wish _) hw) (fun _ _ q => q.unwish) fun _ _ z => False.elim z
end

/-! ### blocks and small statements -/
section
variable {X : Cx} {st : Stmt} {rest : List Stmt} {t u : TS} {e : Expr} {te : TE} {pos : Pos}
def tNext : TS := fun D σ H => D.nx σ H
def tSeq (t u : TS) : TS := fun D σ H => t { D with nx := u D } σ H
theorem pss_nil : PSs X [] tNext := fun _ _ σ H _ I h => wpAny_execs_nil ⟨σ, H, I, h⟩
theorem pss_cons (h1 : PS X st t) (h2 : PSs X rest u) : PSs X (st :: rest) (tSeq t u) := by
  intro pins s σ H D I h
  refine wpAny_execs_cons (thn (h1 pins s σ H { D with nx := u D } I h) fun f s1 q => ?_)
  cases f with
  | next =>
    obtain ⟨σ', H', I', q⟩ := q
    exact h2 pins s1 σ' H' D I' q
  | ret v => exact q
  | brk => exact q
  | cont => exact q
theorem pss_one (h1 : PS X st t) : PSs X [st] t := by
  intro pins s σ H D I h
  refine wpAny_execs_cons (thn (h1 pins s σ H D I h) fun f s1 q => ?_)
  cases f with
  | next => exact wpAny_execs_nil q
  | ret v => exact q
  | brk => exact q
  | cont => exact q
/-- in a def's body nothing is shown -/
theorem Inv.quiet {pins : List (Addr × Obj)} {σ : St} {H : Hp} {s : Shared} (I : Inv X pins σ H s) : interactive X.env = false := by simp [interactive, I.ok.kind]
/-- an expression whose value is dropped -/
def tDrop (te : TE) : TS := fun D σ H => te σ H fun _ H1 => D.nx σ H1
theorem ps_expr (he : PE X e te) (hs : swapsWith e none pos.line X.env = pure false := by rfl) : PS X (.Expr e pos) (tDrop te) := by
  intro pins s σ H D I h
  exact wpAny_Expr_any (thn (he pins s σ H _ I h) fun v s1 ⟨x, H1, I1, r1, q1⟩ => ⟨σ, H1, I1, q1⟩) I.quiet hs
def tRet (te : TE) : TS := fun D σ H => te σ H D.rt
theorem ps_ret (he : PE X e te) : PS X (.Return (some e) pos) (tRet te) := by
  intro pins s σ H D I h
  exact wpAny_Return_some (thn (he pins s σ H _ I h) fun v s1 ⟨x, H1, I1, r1, q1⟩ => ⟨x, σ, H1, I1, r1, q1⟩)
def tIfS (c : TT) (t u : TS) : TS := fun D σ H => c σ H fun b H1 => if b = true then t D σ H1 else u D σ H1
theorem ps_if {c : Expr} {a b : List Stmt} {tc : TT} (hc : PT X c tc) (ha : PSs X a t) (hb : PSs X b u) : PS X (.If c a b pos) (tIfS tc t u) := by
  intro pins s σ H D I h
  refine wpAny_If (thn (hc pins s σ H _ I h) fun d s1 ⟨H1, I1, q1⟩ => ?_)
  cases d with
  | true => exact ha pins s1 σ H1 D I1 q1
  | false => exact hb pins s1 σ H1 D I1 q1
/-- code that the proof never comes to -/
def tNever : TS := fun _ _ _ => False
theorem ps_never : PS X st tNever := fun _ _ _ _ _ _ h => h.elim
end

/-! ### targets -/
abbrev TG := V → St → Hp → (St → Hp → Prop) → Prop
abbrev TGs := List V → St → Hp → (St → Hp → Prop) → Prop
def PG (X : Cx) (target : Expr) (t : TG) : Prop :=
  ∀ (pins : List (Addr × Obj)) (s : Shared) (σ : St) (H : Hp) (v : V) (u : Value) (Q : St → Hp → Prop), Inv X pins σ H s → RelV v u → t v σ H Q →
    wpAny (model X.prog X.w) X.A (assign target X.env u) (fun _ s' => ∃ σ' H', Inv X pins σ' H' s' ∧ Q σ' H') X.xe s
/-- several targets, one after another -/
def PGs (X : Cx) (ts : List Expr) (t : TGs) : Prop :=
  ∀ (pins : List (Addr × Obj)) (s : Shared) (σ : St) (H : Hp) (vs : List V) (us : List Value) (Q : St → Hp → Prop), Inv X pins σ H s → Vals vs us → t vs σ H Q →
    wpAny (model X.prog X.w) X.A (assignInOrder ((assignEach ts X.env).map (·.2)) us) (fun _ s' => ∃ σ' H', Inv X pins σ' H' s' ∧ Q σ' H') X.xe s
/-- o[i] = v, by values -/
abbrev TSet := V → V → V → Hp → (Hp → Prop) → Prop
def PSet (X : Cx) (t : TSet) : Prop :=
  ∀ (pins : List (Addr × Obj)) (s : Shared) (σ : St) (H : Hp) (o i v : V) (ov iv u : Value) (Q : Hp → Prop), Inv X pins σ H s → RelV o ov → RelV i iv → RelV v u → t o i v H Q →
    wpAny (model X.prog X.w) X.A (setItem ov iv u) (fun _ s' => ∃ H', Inv X pins σ H' s' ∧ Q H') X.xe s
section
variable {X : Cx} {pos : Pos}
def gName (i : Nat) : TG := fun v σ H Q => Q (σ.set i (some v)) H
theorem pg_name {i : Nat} {x : Str} (hN : X.N.Nodup) (hi : X.N[i]? = some x) (hx : Loc X.env.scope x) (hf : X.fn x = true ∨ X.env.scope.names.lookup x = some .local := by first | exact .inl rfl | exact .inr rfl | assumption) : PG X (.Name x pos) (gName i) := by
  intro pins s σ H v u Q I r h
  exact wpAny_assign_Name (store_ok I hN hi hx r (fun s' I' => ⟨_, H, I', h⟩) hf)
def gNil : TGs := fun vs σ H Q => vs = [] ∧ Q σ H
def gCons (t : TG) (u : TGs) : TGs := fun vs σ H Q => ∃ v r, vs = v :: r ∧ t v σ H fun σ' H' => u r σ' H' Q
theorem pgs_nil : PGs X [] gNil := by
  intro pins s σ H vs us Q I r h
  obtain ⟨e, h⟩ := h
  subst e
  cases r
  exact assignInOrder_nil ⟨σ, H, I, h⟩
theorem pgs_cons {e : Expr} {es : List Expr} {t : TG} {u : TGs} (h1 : PG X e t) (h2 : PGs X es u)
    (hs : (assignEach (e :: es) X.env).map (·.2) = assign e X.env :: (assignEach es X.env).map (·.2) := by rfl) : PGs X (e :: es) (gCons t u) := by
  intro pins s σ H vs us Q I r h
  obtain ⟨v, vr, e1, h⟩ := h
  subst e1
  cases r with
  | cons r rr =>
    rw [hs]
    refine assignInOrder_cons (thn (h1 pins s σ H _ _ _ I r h) fun _ s1 ⟨σ1, H1, I1, q1⟩ => ?_)
    exact h2 pins s1 σ1 H1 _ _ Q I1 rr q1
/-- (a, b, ..) = a tuple of that length -/
def gTup (K : PySem.W.Frag) (n : Nat) (t : TGs) : TG := fun v σ H Q => ∃ a xs, v = .ref a ∧ SqT K H a xs ∧ xs.length = n ∧ t xs σ H Q
theorem pg_tup {es : List Expr} {k : Nat} {t : TGs} {n : Nat} (hc : X.calm = true) (h : PGs X es t)
    (hn : (assignEach es X.env).length = n := by rfl) (hst : (assignEach es X.env).findIdx? (·.1) = none := by rfl) : PG X (.Tuple es k pos) (gTup X.K n t) := by
  intro pins s σ H v u Q I r hw
  obtain ⟨a, xs, e1, hq, hl, hw⟩ := hw
  subst e1
  cases r
  obtain ⟨its, rv, ht, hz⟩ := I.tuple hq
  refine assign_Tuple_tuple (I.ok.hd hc) ht (by simp [hn, ← hl, rv.length]) hst fun h' hx => ?_
  have I1 : Inv X pins σ H { s with heap := h' } := I.kept (t' := s.toks) fun b o e => hx b o (Nat.ne_of_lt (Heap.lt_size e)) e
  exact h pins _ σ H xs _ Q I1 (by simpa using rv) hw
/-- o[i] = .. -/
def gSub (to ti : TE) (t : TSet) : TG := fun v σ H Q => to σ H fun o H1 => ti σ H1 fun i H2 => t o i v H2 fun H3 => Q σ H3
theorem pg_sub {o i : Expr} {to ti : TE} {t : TSet} (ho : PE X o to) (hi : PE X i ti) (hs : PSet X t)
    (ha : ∀ v, assign (.Subscript o i pos) X.env v = (do
      let ov ← holding [v] (eval o X.env)
      let iv ← holding [v, ov] (eval i X.env)
      standAt pos
      holding [v, ov, iv] (setItem ov iv v)
      release [v, ov, iv] []) := by intro _; rfl) : PG X (.Subscript o i pos) (gSub to ti t) := by
  intro pins s σ H v u Q I r h
  rw [ha]
  refine wpAny_bind (wpAny_holding (thn (ho pins s σ H _ I h) fun ov s1 ⟨x, H1, I1, r1, q1⟩ => ?_))
  refine wpAny_bind (wpAny_holding (thn (hi pins s1 σ H1 _ I1 q1) fun iv s2 ⟨y, H2, I2, r2, q2⟩ => ?_))
  refine wpAny_bind (wpAny_standAt (wpAny_bind (wpAny_holding (thn (hs pins s2 σ H2 x y v ov iv u _ I2 r1 r2 r q2) fun _ s3 ⟨H3, I3, q3⟩ => ?_))))
  exact wpAny_release ⟨σ, H3, I3, q3⟩
/-- target = value -/
def tAsg (te : TE) (g : TG) : TS := fun D σ H => te σ H fun x H1 => g x σ H1 D.nx
theorem ps_asg {tg e : Expr} {te : TE} {g : TG} (he : PE X e te) (hg : PG X tg g) (hs : swapsWithSole [tg] e pos.line X.env = pure false := by rfl) (hw : swappedStores [tg] e X.env = pure none := by rfl)
    (h1 : (assignEach [tg] X.env).map (·.2) = [assign tg X.env] := by rfl) : PS X (.Assign [tg] e pos) (tAsg te g) := by
  intro pins s σ H D I h
  refine wpAny_Assign_stores (thn (he pins s σ H _ I h) fun v s1 ⟨x, H1, I1, r1, q1⟩ => ?_) hs hw
  rw [h1]
  exact thn (hg pins s1 σ H1 x v _ I1 r1 q1) fun _ s2 q => q
/-- name = value -/
theorem ps_set {i : Nat} {x : Str} {e : Expr} {te : TE} {pos' : Pos} (hN : X.N.Nodup) (hi : X.N[i]? = some x) (hx : Loc X.env.scope x) (he : PE X e te) (hs : swapsWith e (some (.Name x pos')) pos.line X.env = pure false := by rfl) (hf : X.fn x = true ∨ X.env.scope.names.lookup x = some .local := by first | exact .inl rfl | exact .inr rfl | assumption) :
    PS X (.Assign [.Name x pos'] e pos) (tAsg te (gName i)) := by
  intro pins s σ H D I h
  refine wpAny_Assign_Name (thn (he pins s σ H _ I h) fun v s1 ⟨y, H1, I1, r1, q1⟩ => ?_) hs
  exact store_ok I1 hN hi hx r1 (fun s2 I2 => ⟨_, H1, I2, q1⟩) hf
end

/-! ### while -/
section
variable {X : Cx} {pos : Pos}
/-- the invariant W with its measure -/
def tWhile (c : TT) (tb : TS) : TS := fun D σ H => ∃ W : Nat → St → Hp → Prop, (∃ m, W m σ H) ∧ ∀ m σ H, W m σ H →
  c σ H fun b H1 => if b = true then ∃ N : St → Hp → Prop, (∀ σ' H', N σ' H' → ∃ m', m' < m ∧ W m' σ' H') ∧ tb { D with nx := N, ct := N, bk := D.nx } σ H1 else D.nx σ H1
theorem ps_while {c : Expr} {body : List Stmt} {tc : TT} {tb : TS} (hp : PassesOwn (model X.prog X.w) X.A X.env X.xe) (hc : PT X c tc) (hb : PSs X body tb) : PS X (.While c body [] pos) (tWhile tc tb) := by
  intro pins s σ H D I h
  obtain ⟨W, ⟨m0, w0⟩, turn⟩ := h
  refine wpAny_While (codeAny_whileLoop (fun n s' => ∃ σ' H', Inv X pins σ' H' s' ∧ W n σ' H') ?_ m0 ⟨σ, H, I, w0⟩)
  rintro n s1 ⟨σ1, H1, I1, w1⟩
  refine wpAny_passesOwn hp (thn (hc pins s1 σ1 H1 _ I1 (turn n σ1 H1 w1)) fun b s2 ⟨H2, I2, q2⟩ => ?_)
  cases b with
  | true =>
    obtain ⟨N, hN, q2⟩ := q2
    rw [if_pos rfl]
    refine wpAny_passesOwn hp (thn (hb pins s2 σ1 H2 _ I2 q2) fun f s3 q3 => ?_)
    cases f with
    | next =>
      obtain ⟨σ3, H3, I3, n3⟩ := q3
      obtain ⟨m', hm, w3⟩ := hN σ3 H3 n3
      exact ⟨m', hm, σ3, H3, I3, w3⟩
    | cont =>
      obtain ⟨σ3, H3, I3, n3⟩ := q3
      obtain ⟨m', hm, w3⟩ := hN σ3 H3 n3
      exact ⟨m', hm, σ3, H3, I3, w3⟩
    | brk => exact q3
    | ret v => exact q3
  | false =>
    rw [if_neg Bool.false_ne_true]
    exact wpAny_execs_nil ⟨σ1, H2, I2, q2⟩
end

/-! ### what a loop or a comprehension walks -/
/-- at turn i: it yields x (the heap may grow), or it stops -/
structure It where
  go : Nat → Hp → Prop
  yld : Nat → Hp → V → Hp → Prop
  stop : Nat → Hp → Prop
/-- the iterator's own objects may turn: they are not the frame's, not pinned, younger than the entry (or a comprehension's own) -/
def FpOk (X : Cx) (pins : List (Addr × Obj)) (H : Hp) (b : Addr) : Prop :=
  H b = none ∧ b ≠ X.env.locals ∧ b ∉ X.fs ∧ (b ∈ X.ex ∨ X.s₀.heap.objs.size ≤ b) ∧ (∀ x c, X.env.cells.lookup x = some c → c ≠ b) ∧ ∀ p ∈ X.pn ++ pins, p.1 ≠ b
theorem Inv.fpOk {X : Cx} {pins : List (Addr × Obj)} {σ : St} {H H' : Hp} {s : Shared} {b : Addr} (I : Inv X pins σ H s) (hb : s.heap.objs.size ≤ b) (hn : H' b = none) : FpOk X pins H' b := by
  refine ⟨hn, Nat.ne_of_gt (Nat.lt_of_lt_of_le I.lt hb), I.nofs hb, .inr (Nat.le_trans I.sz hb), fun x c e z => ?_, fun p hp z => ?_⟩
  · obtain ⟨v, q⟩ := I.cell x c e
    exact absurd (Nat.lt_of_lt_of_le q.lt (by rw [z]; exact hb)) (Nat.lt_irrefl _)
  · exact absurd (Nat.lt_of_lt_of_le (Heap.lt_size (I.pin p hp).1) (by rw [z]; exact hb)) (Nat.lt_irrefl _)
structure Turn (P : Program) (w : World) (K : PySem.W.Frag) (tg : Expr) (J : It) (fp : List Addr) (it : Addr) (tn : Nat → Heap → Prop) : Prop where
  mem : it ∈ fp
  obj : ∀ i h, tn i h → ∀ b ∈ fp, ∃ o, h.get? b = some o ∧ ∀ v, o.data ≠ .cell v
  keep : ∀ i h h', tn i h → (∀ b ∈ fp, ∀ o, h.get? b = some o → h'.get? b = some o) → tn i h'
  item : ∀ (X : Cx), X.prog = P → X.w = w → X.K = K → X.calm = true → ∀ (i : Nat) (pins : List (Addr × Obj)) (s : Shared) (σ : St) (H : Hp) (E : Value → Shared → Prop), Inv X pins σ H s → (∀ b ∈ fp, FpOk X pins H b) → tn i s.heap → J.go i H →
    wpAny (model P w) X.A (pyNext (.ref it)) (fun r s1 => ∃ u, r = some u ∧
      wpAny (model P w) X.A (letOwnedTupleGo tg (.ref it) u) (fun _ s2 => ∃ x H', Inv X pins σ H' s2 ∧ RelV x u ∧ J.yld i H x H' ∧ tn (i + 1) s2.heap ∧ ∀ b ∈ fp, H' b = none) E s1) E s
  done : ∀ (X : Cx), X.prog = P → X.w = w → X.K = K → X.calm = true → ∀ (i : Nat) (pins : List (Addr × Obj)) (s : Shared) (σ : St) (H : Hp) (E : Value → Shared → Prop), Inv X pins σ H s → (∀ b ∈ fp, FpOk X pins H b) → tn i s.heap → J.stop i H →
    wpAny (model P w) X.A (pyNext (.ref it)) (fun r s1 => r = none ∧ Inv X pins σ H s1) E s
  self : ∀ (A : Around) (i : Nat) (s : Shared) (Q : Value → Shared → Prop) (E : Value → Shared → Prop), tn i s.heap → Q (.ref it) s → wpAny (model P w) A (pyIter (.ref it)) Q E s
abbrev TI := St → Hp → (It → Hp → Prop) → Prop
/-- an iterator has come -/
def PIE (X : Cx) (pins : List (Addr × Obj)) (σ : St) (tg : Expr) (R : It → Hp → Prop) (itv : Value) (s2 : Shared) : Prop :=
  ∃ (it : Addr) (fp : List Addr) (tn : Nat → Heap → Prop) (J : It) (H' : Hp), itv = .ref it ∧ Inv X pins σ H' s2 ∧ Turn X.prog X.w X.K tg J fp it tn ∧ tn 0 s2.heap ∧ (∀ b ∈ fp, FpOk X pins H' b) ∧ R J H'
def PI (X : Cx) (tg iter : Expr) (wi : TI) : Prop :=
  ∀ (pins : List (Addr × Obj)) (s : Shared) (σ : St) (H : Hp) (R : It → Hp → Prop), Inv X pins σ H s → wi σ H R →
    wpAny (model X.prog X.w) X.A (eval iter X.env) (fun v s1 => wpAny (model X.prog X.w) X.A (pyIter v) (PIE X pins σ tg R) X.xe s1) X.xe s

/-- the step ahead of the store is nothing for an iterator that keeps no tuple -/
theorem go_of {M : Model} {A : Around} {E : Value → Shared → Prop} {s : Shared} {tg : Expr} {it : Addr} {u : Value} {o : Obj} {n : String} {vs : Array Value} {Q : Unit → Shared → Prop} (ho : s.heap.get? it = some o) (hc : o.cls = .type n) (hd : o.data = .fields vs)
    (hn : ["enumerate", "zip", "dict_itemiterator", "dict_reverseitemiterator", "odict_iterator", "itertools.zip_longest", "itertools.pairwise"].contains n = false) (hQ : Q () s) : wpAny M A (letOwnedTupleGo tg (.ref it) u) Q E s := by
  unfold letOwnedTupleGo
  cases tg <;> first
    | exact wpAny_pure hQ
    | (cases u <;> first
        | exact wpAny_pure hQ
        | (refine wpAny_bind (wpAny_load ho ?_)
           rw [hc, hd]
           show wpAny M A (if (["enumerate", "zip", "dict_itemiterator", "dict_reverseitemiterator", "odict_iterator", "itertools.zip_longest", "itertools.pairwise"].contains n && vs[0]? == some (rawInt _)) = true then _ else _) Q E s
           rw [if_neg (by intro h; rw [hn, Bool.false_and] at h; cases h)]
           exact wpAny_pure hQ))

/-- the list at a, as it stands at each turn (a loop may append to it) -/
def Itl (K : PySem.W.Frag) (a : Addr) : It :=
  ⟨fun i H => ∃ xs x, SqL K H a xs ∧ xs[i]? = some x, fun i H x H' => H' = H ∧ ∀ xs, SqL K H a xs → xs[i]? = some x, fun i H => ∃ xs, SqL K H a xs ∧ xs.length ≤ i⟩
def Itt (K : PySem.W.Frag) (a : Addr) : It :=
  ⟨fun i H => ∃ xs x, SqT K H a xs ∧ xs[i]? = some x, fun i H x H' => H' = H ∧ ∀ xs, SqT K H a xs → xs[i]? = some x, fun i H => ∃ xs, SqT K H a xs ∧ xs.length ≤ i⟩
/-- lo, lo + 1, .. (n of them) -/
def Itr (lo : Int) (n : Nat) : It := ⟨fun i _ => i < n, fun i H x H' => H' = H ∧ x = .int (lo + i), fun i _ => n ≤ i⟩
theorem turn_list {P : Program} {w : World} {K : PySem.W.Frag} {tg : Expr} (a it : Addr) : Turn P w K tg (Itl K a) [it] it (fun i h => h.IsListIter it a i) where
  mem := by simp
  obj := fun i h st b hb => by
    have e : b = it := by simpa using hb
    subst e
    obtain ⟨o, e, c, d⟩ := st
    exact ⟨o, e, fun v z => by rw [d] at z; cases z⟩
  keep := fun i h h' st k => st.at fun o e => k it (by simp) o e
  item := by
    intro X hP hw hK hc i pins s σ H E I hf st hg
    subst hP hw hK
    obtain ⟨xs, x, hq, hx⟩ := hg
    obtain ⟨its, rv, p, hz⟩ := I.list hq
    obtain ⟨u, hu, ru⟩ := rv.get hx
    obtain ⟨f0, f1, f2, f3, f4, f5⟩ := hf it (by simp)
    refine wpAny_pyNext_list_item st p.isList (x := u) (by simpa using hu) fun h' st' sb => ?_
    have I1 : Inv X pins σ H { s with heap := h' } := I.turned (t' := s.toks) (fun b o hb e => (sb.2 b hb).trans e) f0 f1 f3 f4 f5
    obtain ⟨o, e, c, d⟩ := id st'
    exact ⟨u, rfl, go_of (s := { s with heap := h' }) e c d (by decide) ⟨x, H, I1, ru, ⟨rfl, fun ys hy => by rw [I.list_inj hy hq]; exact hx⟩, st', fun b hb => (hf b hb).1⟩⟩
  done := by
    intro X hP hw hK hc i pins s σ H E I hf st hg
    subst hP hw hK
    obtain ⟨xs, hq, hx⟩ := hg
    obtain ⟨its, rv, p, hz⟩ := I.list hq
    obtain ⟨f0, f1, f2, f3, f4, f5⟩ := hf it (by simp)
    have hl := rv.length
    exact wpAny_pyNext_list_end (I.ok.hd hc) st p.isList (by simp; omega) fun h' eb => ⟨rfl, I.turned (t' := s.toks) (fun b o hb e => eb b o hb e) f0 f1 f3 f4 f5⟩
  self := fun _ _ _ _ _ st h => wpAny_pyIter_listiter st h
theorem turn_tuple {P : Program} {w : World} {K : PySem.W.Frag} {tg : Expr} (a it : Addr) : Turn P w K tg (Itt K a) [it] it (fun i h => h.IsTupleIter it a i) where
  mem := by simp
  obj := fun i h st b hb => by
    have e : b = it := by simpa using hb
    subst e
    obtain ⟨o, e, c, d⟩ := st
    exact ⟨o, e, fun v z => by rw [d] at z; cases z⟩
  keep := fun i h h' st k => st.at fun o e => k it (by simp) o e
  item := by
    intro X hP hw hK hc i pins s σ H E I hf st hg
    subst hP hw hK
    obtain ⟨xs, x, hq, hx⟩ := hg
    obtain ⟨its, rv, p, hz⟩ := I.tuple hq
    obtain ⟨u, hu, ru⟩ := rv.get hx
    obtain ⟨f0, f1, f2, f3, f4, f5⟩ := hf it (by simp)
    refine wpAny_pyNext_tuple_item st (show s.heap.IsTuple a its.toArray from p) (x := u) (by simpa using hu) fun h' st' sb => ?_
    have I1 : Inv X pins σ H { s with heap := h' } := I.turned (t' := s.toks) (fun b o hb e => (sb.2 b hb).trans e) f0 f1 f3 f4 f5
    obtain ⟨o, e, c, d⟩ := id st'
    exact ⟨u, rfl, go_of (s := { s with heap := h' }) e c d (by decide) ⟨x, H, I1, ru, ⟨rfl, fun ys hy => by rw [I.tuple_inj hy hq]; exact hx⟩, st', fun b hb => (hf b hb).1⟩⟩
  done := by
    intro X hP hw hK hc i pins s σ H E I hf st hg
    subst hP hw hK
    obtain ⟨xs, hq, hx⟩ := hg
    obtain ⟨its, rv, p, hz⟩ := I.tuple hq
    obtain ⟨f0, f1, f2, f3, f4, f5⟩ := hf it (by simp)
    have hl := rv.length
    exact wpAny_pyNext_tuple_end (I.ok.hd hc) st (show s.heap.IsTuple a its.toArray from p) (by simp; omega) fun h' eb => ⟨rfl, I.turned (t' := s.toks) (fun b o hb e => eb b o hb e) f0 f1 f3 f4 f5⟩
  self := fun _ _ _ _ _ st h => wpAny_pyIter_tupleiter st h
theorem turn_range {P : Program} {w : World} {K : PySem.W.Frag} {tg : Expr} (it : Addr) (lo : Int) (n : Nat) : Turn P w K tg (Itr lo n) [it] it (fun i h => IsRangeIter h it (lo + (i : Nat) * 1) ((n : Int) - (i : Nat)) 1) where
  mem := by simp
  obj := fun i h st b hb => by
    have e : b = it := by simpa using hb
    subst e
    exact ⟨_, st, fun v z => by
      have z' : Data.fields _ = Data.cell v := z
      cases z'⟩
  keep := fun i h h' st k => k it (by simp) _ st
  item := by
    intro X hP hw hK hc i pins s σ H E I hf st hg
    subst hP hw hK
    obtain ⟨f0, f1, f2, f3, f4, f5⟩ := hf it (by simp)
    have W := Walks.range (prog := X.prog) (w := X.w) (I.ok.hd hc) it lo 1 n
    refine W.item i s _ _ hg st fun v h' tk hv st' kk => ?_
    obtain ⟨t, rfl⟩ := hv
    have I1 : Inv X pins σ H { s with heap := h', toks := tk } := I.turned (fun b o hb e => kk b o (by simpa using hb) e) f0 f1 f3 f4 f5
    refine ⟨_, rfl, go_of (s := { s with heap := h', toks := tk }) (n := "range_iterator") st' rfl rfl (by decide) ⟨.int (lo + i), H, I1, ⟨t, ?_⟩, ⟨rfl, rfl⟩, st', fun b hb => (hf b hb).1⟩⟩
    rw [Int.mul_one]
  done := by
    intro X hP hw hK hc i pins s σ H E I hf st hg
    subst hP hw hK
    obtain ⟨f0, f1, f2, f3, f4, f5⟩ := hf it (by simp)
    exact wpAny_pyNext_range_end (I.ok.hd hc) st (by have : n ≤ i := hg; omega) fun h' eb => ⟨rfl, I.turned (t' := s.toks) (fun b o hb e => eb b o hb e) f0 f1 f3 f4 f5⟩
  self := fun _ _ _ _ _ st h => wpAny_pyIter_rangeiter st h
end L2

namespace L2
open PySem PySem.Spec PyProof.Rows
section
variable {X : Cx} {tg : Expr}
def iList (K : PySem.W.Frag) (tl : TE) : TI := fun σ H R => tl σ H fun x H1 => ∃ a, x = .ref a ∧ (∃ xs, SqL K H1 a xs) ∧ R (Itl K a) H1
def iTup (K : PySem.W.Frag) (tl : TE) : TI := fun σ H R => tl σ H fun x H1 => ∃ a, x = .ref a ∧ (∃ xs, SqT K H1 a xs) ∧ R (Itt K a) H1
theorem pi_list {l : Expr} {tl : TE} (hl : PE X l tl) : PI X tg l (iList X.K tl) := by
  intro pins s σ H R I h
  refine thn (hl pins s σ H _ I h) fun v s1 ⟨x, H1, I1, r1, q1⟩ => ?_
  obtain ⟨a, e, ⟨xs, hq⟩, q⟩ := q1
  subst e
  cases r1
  obtain ⟨its, rv, p, hz⟩ := I1.list hq
  refine wpAny_pyIter_list p.isList ?_
  refine ⟨s1.heap.objs.size, [s1.heap.objs.size], _, _, H1, rfl, I1.kept (t' := s1.toks) fun b o e => Heap.get?_push_of_some _ e, turn_list a _, ⟨_, Heap.get?_push_size _ rfl, rfl, rfl⟩, fun b hb => ?_, q⟩
  have e : b = s1.heap.objs.size := by simpa using hb
  subst e
  exact I1.fpOk (Nat.le_refl _) (I1.hok.fresh (Nat.le_refl _))
theorem pi_tup {l : Expr} {tl : TE} (hl : PE X l tl) : PI X tg l (iTup X.K tl) := by
  intro pins s σ H R I h
  refine thn (hl pins s σ H _ I h) fun v s1 ⟨x, H1, I1, r1, q1⟩ => ?_
  obtain ⟨a, e, ⟨xs, hq⟩, q⟩ := q1
  subst e
  cases r1
  obtain ⟨its, rv, p, hz⟩ := I1.tuple hq
  refine wpAny_pyIter_tuple (show s1.heap.IsTuple a its.toArray from p) ?_
  refine ⟨s1.heap.objs.size, [s1.heap.objs.size], _, _, H1, rfl, I1.kept (t' := s1.toks) fun b o e => Heap.get?_push_of_some _ e, turn_tuple a _, ⟨_, Heap.get?_push_size _ rfl, rfl, rfl⟩, fun b hb => ?_, q⟩
  have e : b = s1.heap.objs.size := by simpa using hb
  subst e
  exact I1.fpOk (Nat.le_refl _) (I1.hok.fresh (Nat.le_refl _))
/-- a range object just made, walked -/
theorem range_it {pins : List (Addr × Obj)} {σ : St} {H : Hp} {s : Shared} {R : It → Hp → Prop} {E : Value → Shared → Prop} {lo hi : Int} {t u v : Tok} {tk : Nat} (I : Inv X pins σ H s) (h1 : -(2 ^ 62) ≤ lo) (h2 : lo < 2 ^ 62) (h3 : -(2 ^ 62) ≤ hi) (h4 : hi < 2 ^ 62)
    (q : R (Itr lo (hi - lo).toNat) H) : wpAny (model X.prog X.w) X.A (pyIter (.ref s.heap.objs.size)) (PIE X pins σ tg R) E { s with heap := s.heap.push { cls := .type "range", data := .fields #[.int lo t, .int hi u, .int 1 v] }, toks := tk } := by
  refine wpAny_pyIter_range (IsRange.new ..) (small_one h1 h2 h3 h4) ?_
  have I1 : Inv X pins σ H { s with heap := s.heap.push { cls := .type "range", data := .fields #[.int lo t, .int hi u, .int 1 v] }, toks := tk } := I.kept fun b o e => Heap.get?_push_of_some _ e
  refine ⟨(s.heap.push { cls := .type "range", data := .fields #[.int lo t, .int hi u, .int 1 v] }).objs.size, [(s.heap.push { cls := .type "range", data := .fields #[.int lo t, .int hi u, .int 1 v] }).objs.size], _, _, H, rfl,
    I1.kept (t' := tk) fun b o e => Heap.get?_push_of_some _ e, turn_range _ lo (hi - lo).toNat, ?_, fun b hb => ?_, q⟩
  · have e1 : lo + ((0 : Nat) : Int) * 1 = lo := by simp
    have e2 : (((hi - lo).toNat : Nat) : Int) - ((0 : Nat) : Int) = Builtin.Range.rangeSize lo hi 1 := by rw [rangeSize_one]; split <;> omega
    show IsRangeIter _ _ (lo + ((0 : Nat) : Int) * 1) ((((hi - lo).toNat : Nat) : Int) - ((0 : Nat) : Int)) 1
    rw [e1, e2]
    exact Heap.get?_push_size _ rfl
  · have e : b = (s.heap.push { cls := .type "range", data := .fields #[.int lo t, .int hi u, .int 1 v] }).objs.size := by simpa using hb
    subst e
    exact I1.fpOk (Nat.le_refl _) (I1.hok.fresh (Nat.le_refl _))
def iRng1 (ta : TA) : TI := fun σ H R => ta σ H fun vs H1 => ∃ j : Int, vs = [.int j] ∧ -(2 ^ 62) ≤ j ∧ j < 2 ^ 62 ∧ R (Itr 0 j.toNat) H1
def iRng2 (ta : TA) : TI := fun σ H R => ta σ H fun vs H1 => ∃ i j : Int, vs = [.int i, .int j] ∧ (-(2 ^ 62) ≤ i ∧ i < 2 ^ 62 ∧ -(2 ^ 62) ≤ j ∧ j < 2 ^ 62) ∧ R (Itr i (j - i).toNat) H1
theorem pi_range1 {a : Expr} {ta : TA} {p pos : Pos} (hg : Gl X "range") (hm : X.mg "range" = none) (ha : PA X [a] ta) (hs : starEach [a] X.env = [(false, eval a X.env)] := by rfl) : PI X tg (.Call (.Name "range" p) [a] [] pos) (iRng1 ta) := by
  intro pins s σ H R I h
  refine Call_ (ld_blt I hg hm boot_range (PyProof.Rows.callWith_type1 (thn (ha pos pins s σ H _ I h) fun us s1 ⟨vs, H1, I1, r1, q1⟩ => ?_) hs rfl))
  obtain ⟨j, e, q1, q2, q⟩ := q1
  subst e
  cases r1 with
  | cons r rr =>
    cases rr
    obtain ⟨t, rfl⟩ := r
    exact call_range_1 (range_it I1 (by omega) (by omega) q1 q2 (by simpa using q))
theorem pi_range2 {a b : Expr} {ta : TA} {p pos : Pos} (hg : Gl X "range") (hm : X.mg "range" = none) (ha : PA X [a, b] ta) (hs : starEach [a, b] X.env = [(false, eval a X.env), (false, eval b X.env)] := by rfl) (hs2 : starEach [b] X.env = [(false, eval b X.env)] := by rfl) :
    PI X tg (.Call (.Name "range" p) [a, b] [] pos) (iRng2 ta) := by
  intro pins s σ H R I h
  refine Call_ (ld_blt I hg hm boot_range (PyProof.Rows.callWith_type1 (thn (ha pos pins s σ H _ I h) fun us s1 ⟨vs, H1, I1, r1, q1⟩ => ?_) (by rw [hs, hs2]) (by rw [hs2]; rfl)))
  obtain ⟨i, j, e, ⟨q1, q2, q3, q4⟩, q⟩ := q1
  subst e
  cases r1 with
  | cons r rr =>
    cases rr with
    | cons r' rr =>
      cases rr
      obtain ⟨t, rfl⟩ := r
      obtain ⟨t', rfl⟩ := r'
      exact call_range_2 (range_it I1 q1 q2 q3 q4 q)

/-! ### for -/
/-- W: the invariant by the turn and a measure; N: what the body is to reach -/
def tFor (wi : TI) (g : TG) (tb : TS) : TS := fun D σ H => wi σ H fun J H1 => ∃ W : Nat → Nat → St → Hp → Prop, (∃ m, W 0 m σ H1) ∧ ∀ i m σ H, W i m σ H →
  (J.stop i H ∧ D.nx σ H) ∨ (J.go i H ∧ ∃ N : St → Hp → Prop, (∀ σ' H', N σ' H' → ∃ m', m' < m ∧ W (i + 1) m' σ' H') ∧ ∀ x H', J.yld i H x H' → g x σ H' fun σ2 H2 => tb { D with nx := N, ct := N, bk := D.nx } σ2 H2)
/-- the records at fp as they stand -/
def pinsAt (fp : List Addr) (h : Heap) : List (Addr × Obj) := fp.filterMap fun b => (h.get? b).map fun o => (b, o)
theorem mem_pinsAt {fp : List Addr} {h : Heap} {b : Addr} {o : Obj} (hb : b ∈ fp) (e : h.get? b = some o) : (b, o) ∈ pinsAt fp h := List.mem_filterMap.mpr ⟨b, hb, by rw [e]; rfl⟩
theorem of_pinsAt {fp : List Addr} {h : Heap} {p : Addr × Obj} (hp : p ∈ pinsAt fp h) : p.1 ∈ fp ∧ h.get? p.1 = some p.2 := by
  obtain ⟨b, hb, e⟩ := List.mem_filterMap.mp hp
  cases q : h.get? b with
  | none => rw [q] at e; cases e
  | some o =>
    rw [q] at e
    have e' : (b, o) = p := Option.some.inj e
    subst e'
    exact ⟨hb, q⟩
theorem Inv.pinned {pins : List (Addr × Obj)} {σ : St} {H : Hp} {s : Shared} {fp : List Addr} (I : Inv X pins σ H s) (hf : ∀ b ∈ fp, FpOk X pins H b) (ho : ∀ b ∈ fp, ∃ o, s.heap.get? b = some o ∧ ∀ v, o.data ≠ .cell v) : Inv X (pins ++ pinsAt fp s.heap) σ H s :=
  I.pins_of fun p hp => (List.mem_append.mp hp).elim (fun z => I.pin p (List.mem_append_right _ z)) fun z => by
    obtain ⟨hb, e⟩ := of_pinsAt z
    obtain ⟨f0, f1, f2, _⟩ := hf p.1 hb
    obtain ⟨o, e', d⟩ := ho p.1 hb
    rw [e] at e'; cases e'
    exact ⟨e, f0, f1, f2, d⟩
theorem Inv.unpinned {pins pl : List (Addr × Obj)} {σ : St} {H : Hp} {s : Shared} (I : Inv X (pins ++ pl) σ H s) : Inv X pins σ H s := I.pins_of fun p hp => I.pin p (List.mem_append_right _ (List.mem_append_left _ hp))
theorem ps_for {iter : Expr} {body : List Stmt} {wi : TI} {g : TG} {tb : TS} {pos : Pos} (hp : PassesOwn (model X.prog X.w) X.A X.env X.xe) (hc : X.calm = true) (hi : PI X tg iter wi) (hg : PG X tg g) (hb : PSs X body tb)
    (hs : ∀ x, foldedSetIterable iter X.env x = pure x := by intro _; rfl) : PS X (.For tg iter body [] pos) (tFor wi g tb) := by
  intro pins s σ H D I h
  refine wpAny_For (thn (hi pins s σ H _ I h) fun v s1 h1 => thn h1 fun itv s2 h2 => ?_) hs
  obtain ⟨it, fp, tn, J, H2, e, I2, T, st2, f2, W, ⟨m0, w0⟩, turn⟩ := h2
  subst e
  -- what stays true of the iterator's objects through the loop
  have stat : ∀ {H' : Hp}, (∀ b ∈ fp, H' b = none) → ∀ b ∈ fp, FpOk X pins H' b := fun hn b hb => ⟨hn b hb, (f2 b hb).2⟩
  refine codeAny_forLoop_any (fun n s' => ∃ i σ' H', Inv X pins σ' H' s' ∧ tn i s'.heap ∧ (∀ b ∈ fp, H' b = none) ∧ W i n σ' H') ?_ m0 ⟨0, σ, H2, I2, st2, fun b hb => (f2 b hb).1, w0⟩
  rintro n s3 ⟨i, σ3, H3, I3, st3, fr3, w3⟩
  rcases turn i n σ3 H3 w3 with ⟨stop, qn⟩ | ⟨go, N, hN, step⟩
  · refine wpAny_passesOwn hp (thn (T.done X rfl rfl rfl hc i pins s3 σ3 H3 X.xe I3 (stat fr3) st3 stop) fun r s4 ⟨hr, I4⟩ => ?_)
    subst hr
    exact wpAny_execs_nil ⟨σ3, H3, I4, qn⟩
  · refine wpAny_passesOwn hp (thn (T.item X rfl rfl rfl hc i pins s3 σ3 H3 X.xe I3 (stat fr3) st3 go) fun r s4 ⟨u, hr, h4⟩ => ?_)
    subst hr
    refine wpAny_passesOwn hp (thn h4 fun _ s5 ⟨x, H5, I5, r5, y5, st5, fr5⟩ => ?_)
    have I5' := I5.pinned (stat fr5) (T.obj _ _ st5)
    refine wpAny_passesOwn hp (thn (hg _ s5 σ3 H5 x u _ I5' r5 (step x H5 y5)) fun _ s6 ⟨σ6, H6, I6, q6⟩ => ?_)
    refine wpAny_passesOwn hp (thn (hb _ s6 σ6 H6 _ I6 q6) fun f s7 q7 => ?_)
    have again : ∀ {σ7 : St} {H7 : Hp}, Inv X (pins ++ pinsAt fp s5.heap) σ7 H7 s7 → N σ7 H7 → ∃ m, m < n ∧ ∃ i σ' H', Inv X pins σ' H' s7 ∧ tn i s7.heap ∧ (∀ b ∈ fp, H' b = none) ∧ W i m σ' H' := fun {σ7 H7} I7 n7 => by
      obtain ⟨m', hm, w7⟩ := hN σ7 H7 n7
      refine ⟨m', hm, i + 1, σ7, H7, I7.unpinned, T.keep _ _ _ st5 fun b hb o e => (I7.pin (b, o) (List.mem_append_right _ (List.mem_append_right _ (mem_pinsAt hb e)))).1, fun b hb => ?_, w7⟩
      obtain ⟨o, e, d⟩ := T.obj _ _ st5 b hb
      exact (I7.pin (b, o) (List.mem_append_right _ (List.mem_append_right _ (mem_pinsAt hb e)))).2.1
    cases f with
    | next => obtain ⟨σ7, H7, I7, n7⟩ := q7; exact again I7 n7
    | cont => obtain ⟨σ7, H7, I7, n7⟩ := q7; exact again I7 n7
    | brk => obtain ⟨σ7, H7, I7, q7⟩ := q7; exact ⟨σ7, H7, I7.unpinned, q7⟩
    | ret v => obtain ⟨x7, σ7, H7, I7, r7, q7⟩ := q7; exact ⟨x7, σ7, H7, I7.unpinned, r7, q7⟩
end

/-! ### the forms one uses -/
end L2

namespace L2
open PySem PySem.Spec PyProof.Rows

abbrev R2 := V → V → Hp → VK → Prop
/-- a two-place operation on values: f is binaryOp op, inplaceOp op or compareOp op -/
def OpR (X : Cx) (f : Value → Value → Sem Value) (r : R2) : Prop :=
  ∀ (pins : List (Addr × Obj)) (s : Shared) (σ : St) (H : Hp) (x y : V) (v u : Value) (Q : VK), Inv X pins σ H s → RelV x v → RelV y u → r x y H Q →
    wpAny (model X.prog X.w) X.A (f v u) (EP X pins σ Q) X.xe s
/-- a one-place operation -/
def UnR (X : Cx) (f : Value → Sem Value) (r : V → Hp → VK → Prop) : Prop :=
  ∀ (pins : List (Addr × Obj)) (s : Shared) (σ : St) (H : Hp) (x : V) (v : Value) (Q : VK), Inv X pins σ H s → RelV x v → r x H Q →
    wpAny (model X.prog X.w) X.A (f v) (EP X pins σ Q) X.xe s
/-- a call of a value that is known (a builtin, a type) with values -/
def CallR (X : Cx) (f : Value) (r : List V → Hp → VK → Prop) : Prop :=
  ∀ (pins : List (Addr × Obj)) (s : Shared) (σ : St) (H : Hp) (xs : List V) (us : List Value) (Q : VK), Inv X pins σ H s → Vals xs us → r xs H Q →
    wpAny (model X.prog X.w) X.A (call f us) (EP X pins σ Q) X.xe s
/-- a value's truth -/
def TruR (X : Cx) (r : V → Hp → (Bool → Hp → Prop) → Prop) : Prop :=
  ∀ (pins : List (Addr × Obj)) (s : Shared) (σ : St) (H : Hp) (x : V) (v : Value) (Q : Bool → Hp → Prop), Inv X pins σ H s → RelV x v → r x H Q →
    wpAny (model X.prog X.w) X.A (truthy v) (TP X pins σ Q) X.xe s

def tOp (r : R2) (ta tb : TE) : TE := fun σ H Q => ta σ H fun x H1 => tb σ H1 fun y H2 => r x y H2 Q
def tUn (r : V → Hp → VK → Prop) (ta : TE) : TE := fun σ H Q => ta σ H fun x H1 => r x H1 Q
/-- ints in, under C, and a value out -/
def rI (C : Int → Int → Prop) (g : Int → Int → V) : R2 := fun x y H Q => ∃ i j, x = .int i ∧ y = .int j ∧ C i j ∧ Q (g i j) H
def rI0 (g : Int → Int → V) : R2 := fun x y H Q => ∃ i j, x = .int i ∧ y = .int j ∧ Q (g i j) H
def rU (g : Int → V) : V → Hp → VK → Prop := fun x H Q => ∃ i, x = .int i ∧ Q (g i) H

section
variable {X : Cx} {a b c : Expr} {ta tb tc : TE} {pos : Pos}

theorem binT (ha : PE X a ta) (hb : PE X b tb) {pins : List (Addr × Obj)} {s : Shared} {σ : St} {H : Hp} {R : V → V → Hp → Prop} (I : Inv X pins σ H s)
    (h : ta σ H fun x H1 => tb σ H1 fun y H2 => R x y H2) {Q : Value → Shared → Prop} {f : Value → Value → Sem Value}
    (hf : ∀ v u s2 x y H2, Inv X pins σ H2 s2 → RelV x v → RelV y u → R x y H2 → wpAny (model X.prog X.w) X.A (f v u) Q X.xe s2) :
    wpAny (model X.prog X.w) X.A (eval a X.env) (fun v s₁ => wpAny (model X.prog X.w) X.A (eval b X.env) (fun u s₂ => wpAny (model X.prog X.w) X.A (f v u) Q X.xe s₂) X.xe s₁) X.xe s := by
  refine thn (ha pins s σ H _ I h) fun v s1 ⟨x, H1, I1, r1, q1⟩ => ?_
  refine thn (hb pins s1 σ H1 _ I1 q1) fun u s2 ⟨y, H2, I2, r2, q2⟩ => ?_
  exact hf v u s2 x y H2 I2 r1 r2 q2

theorem pe_op {op : Operator} {r : R2} (ho : OpR X (binaryOp op) r) (ha : PE X a ta) (hb : PE X b tb) : PE X (.BinOp a op b pos) (tOp r ta tb) := by
  intro pins s σ H Q I h
  exact wpAny_BinOp (binT ha hb I h fun v u s2 x y H2 I2 rx ry q => ho pins s2 σ H2 x y v u Q I2 rx ry q)
theorem pe_un {op : UnaryOp} {r : V → Hp → VK → Prop} (ho : UnR X (unaryOp op) r) (ha : PE X a ta) : PE X (.UnaryOp op a pos) (tUn r ta) := by
  intro pins s σ H Q I h
  exact UnaryOp_ (thn (ha pins s σ H _ I h) fun v s1 ⟨x, H1, I1, r1, q1⟩ => ho pins s1 σ H1 x v Q I1 r1 q1)
/-! ### ints -/
theorem opI {f : Value → Value → Sem Value} {C : Int → Int → Prop} {g : Int → Int → Int}
    (rule : ∀ (i j : Int) (t u : Tok) (s : Shared) (Q : Value → Shared → Prop) (E : Value → Shared → Prop), C i j → Q (.int (g i j) s.toks) { s with toks := s.toks + 1 } → wpAny (model X.prog X.w) X.A (f (.int i t) (.int j u)) Q E s) :
    OpR X f (rI C fun i j => .int (g i j)) := by
  intro pins s σ H x y v u Q I rx ry h
  obtain ⟨i, j, rfl, rfl, hc, q⟩ := h
  obtain ⟨t, rfl⟩ := rx
  obtain ⟨t', rfl⟩ := ry
  exact rule i j t t' s _ _ hc ⟨.int (g i j), H, I.tok _, ⟨_, rfl⟩, q⟩
theorem opI0 {f : Value → Value → Sem Value} {g : Int → Int → Int}
    (rule : ∀ (i j : Int) (t u : Tok) (s : Shared) (Q : Value → Shared → Prop) (E : Value → Shared → Prop), Q (.int (g i j) s.toks) { s with toks := s.toks + 1 } → wpAny (model X.prog X.w) X.A (f (.int i t) (.int j u)) Q E s) :
    OpR X f (rI0 fun i j => .int (g i j)) := by
  intro pins s σ H x y v u Q I rx ry h
  obtain ⟨i, j, rfl, rfl, q⟩ := h
  obtain ⟨t, rfl⟩ := rx
  obtain ⟨t', rfl⟩ := ry
  exact rule i j t t' s _ _ ⟨.int (g i j), H, I.tok _, ⟨_, rfl⟩, q⟩
theorem opB0 {f : Value → Value → Sem Value} {g : Int → Int → Bool}
    (rule : ∀ (i j : Int) (t u : Tok) (s : Shared) (Q : Value → Shared → Prop) (E : Value → Shared → Prop), Q (.bool (g i j)) s → wpAny (model X.prog X.w) X.A (f (.int i t) (.int j u)) Q E s) :
    OpR X f (rI0 fun i j => .bl (g i j)) := by
  intro pins s σ H x y v u Q I rx ry h
  obtain ⟨i, j, rfl, rfl, q⟩ := h
  obtain ⟨t, rfl⟩ := rx
  obtain ⟨t', rfl⟩ := ry
  exact rule i j t t' s _ _ ⟨.bl (g i j), H, I, rfl, q⟩

def CDiv (i j : Int) : Prop := 0 < j ∧ j < 1073741824
def CPow (i j : Int) : Prop := 0 ≤ j ∧ j ≤ 1000000 ∧ i.natAbs < 2 ^ 64
def CMul (i j : Int) : Prop := (-(2 ^ 64) < i ∧ i < 2 ^ 64) ∨ (-(2 ^ 64) < j ∧ j < 2 ^ 64)
theorem CMul.ok {i j : Int} (h : CMul i j) : IntMulOk i j := by
  rcases h with ⟨h1, h2⟩ | ⟨h1, h2⟩
  · exact .of_left (intBits_le_64 h1 h2)
  · exact .of_right (intBits_le_64 h1 h2)
theorem op_add : OpR X (binaryOp .Add) (rI0 fun i j => .int (i + j)) := opI0 fun _ _ _ _ _ _ _ q => add_int q
theorem op_sub : OpR X (binaryOp .Sub) (rI0 fun i j => .int (i - j)) := opI0 fun _ _ _ _ _ _ _ q => sub_int q
theorem op_mul : OpR X (binaryOp .Mult) (rI CMul fun i j => .int (i * j)) := opI fun _ _ _ _ _ _ _ hc q => mul_int q hc.ok
/-- // by a positive divisor -/
theorem op_fdiv : OpR X (binaryOp .FloorDiv) (rI CDiv fun i j => .int (i / j)) := opI fun i j _ _ _ _ _ hc q => by
  have h1 : (0 : Int) < j := hc.1
  have h2 : j < 1073741824 := hc.2
  exact floordiv_int (by omega) (by rw [Int.fdiv_eq_ediv_of_nonneg i (by omega)]; exact q) (.inl (PyProof.noPylong_small (by omega)))
/-- % by a positive divisor of any size -/
theorem op_mod : OpR X (binaryOp .Mod) (rI (fun _ j => 0 < j) fun i j => .int (i % j)) := opI fun i j _ _ _ _ _ hc q => by
  have h1 : (0 : Int) < j := hc
  exact mod_int' (by omega) (by rw [Int.fmod_eq_emod_of_nonneg i (by omega)]; exact q)
theorem op_pow : OpR X (binaryOp .Pow) (rI CPow fun i j => .int (i ^ j.toNat)) := opI fun _ _ _ _ _ _ _ hc q => pow_int_small hc.1 hc.2.1 hc.2.2 q
theorem unI {f : Value → Sem Value} {g : Int → Int}
    (rule : ∀ (i : Int) (t : Tok) (s : Shared) (Q : Value → Shared → Prop) (E : Value → Shared → Prop), Q (.int (g i) s.toks) { s with toks := s.toks + 1 } → wpAny (model X.prog X.w) X.A (f (.int i t)) Q E s) :
    UnR X f (rU fun i => .int (g i)) := by
  intro pins s σ H x v Q I rx h
  obtain ⟨i, rfl, q⟩ := h
  obtain ⟨t, rfl⟩ := rx
  exact rule i t s _ _ ⟨.int (g i), H, I.tok _, ⟨_, rfl⟩, q⟩
theorem un_neg : UnR X (unaryOp .USub) (rU fun i => .int (-i)) := unI fun _ _ _ _ _ q => neg_int q
/-! ### bools among ints: n += (a < b) -/
end

/-! ### comparisons -/
section
variable {X : Cx} {a b c : Expr} {ta tb tc : TE} {pos : Pos}
theorem fin_bl {pins : List (Addr × Obj)} {σ : St} {H : Hp} {s : Shared} {Q : VK} {k k' : Bool} (I : Inv X pins σ H s) (q : Q (.bl k) H) (e : k = k') : EP X pins σ Q (.bool k') s := by
  subst e
  exact ⟨.bl k, H, I, rfl, q⟩
theorem op_lt : OpR X (compareOp .Lt) (rI0 fun i j => .bl (decide (i < j))) := opB0 fun _ _ _ _ _ _ _ q => lt_int q
theorem op_le : OpR X (compareOp .LtE) (rI0 fun i j => .bl (decide (i ≤ j))) := opB0 fun _ _ _ _ _ _ _ q => le_int q
theorem op_gt : OpR X (compareOp .Gt) (rI0 fun i j => .bl (decide (j < i))) := opB0 fun _ _ _ _ _ _ _ q => gt_int q
/-- is None, is not None: the right side a value none -/
theorem op_isN : OpR X (compareOp .Is) (fun x y H Q => y = .non ∧ Q (.bl (decide (x = .non))) H) := by
  intro pins s σ H x y v u Q I rx ry h
  obtain ⟨rfl, q⟩ := h
  cases ry
  refine is_none_gen (fin_bl I q ?_)
  cases x <;> first
    | (cases rx; rfl)
    | (obtain ⟨t, rfl⟩ := rx; rfl)
theorem op_notN : OpR X (compareOp .IsNot) (fun x y H Q => y = .non ∧ Q (.bl (!decide (x = .non))) H) := by
  intro pins s σ H x y v u Q I rx ry h
  obtain ⟨rfl, q⟩ := h
  cases ry
  refine isnot_none_gen (fin_bl I q ?_)
  cases x <;> first
    | (cases rx; rfl)
    | (obtain ⟨t, rfl⟩ := rx; rfl)

/-- two rules for one operation: by cases -/
theorem OpR.or {f : Value → Value → Sem Value} {r r' : R2} (h : OpR X f r) (h' : OpR X f r') : OpR X f (fun x y H Q => r x y H Q ∨ r' x y H Q) := by
  intro pins s σ H x y v u Q I rx ry q
  rcases q with q | q
  · exact h pins s σ H x y v u Q I rx ry q
  · exact h' pins s σ H x y v u Q I rx ry q

theorem nomark (b : Expr) {op : CmpOp} (h : op ≠ .In := by decide) (h2 : op ≠ .NotIn := by decide) : behindInMarks op b = false := by
  have e1 : (op == CmpOp.In) = false := by cases op <;> first | rfl | exact absurd rfl h
  have e2 : (op == CmpOp.NotIn) = false := by cases op <;> first | rfl | exact absurd rfl h2
  cases b <;> simp [behindInMarks, e1, e2]
/-- a comparison as a value; hm: nomark b, or (for in, not in) by with_unfolding_all rfl -/
theorem pe_cmpR {op : CmpOp} {r : R2} (ho : OpR X (compareOp op) r) (ha : PE X a ta) (hb : PE X b tb) (hm : behindInMarks op b = false) : PE X (.Compare a [op] [b] pos) (tOp r ta tb) := by
  intro pins s σ H Q I h
  exact wpAny_Compare1 (binT ha hb I h fun v u s2 x y H2 I2 rx ry q => ho pins s2 σ H2 x y v u Q I2 rx ry q) hm
/-- a reading of a value as a test -/
def tTest (t : TE) : TT := fun σ H Q => t σ H fun x H' => ∃ k, x = .bl k ∧ Q k H'
theorem pt_cmpR {op : CmpOp} {r : R2} (ho : OpR X (compareOp op) r) (ha : PE X a ta) (hb : PE X b tb) (hm : behindInMarks op b = false) : PT X (.Compare a [op] [b] pos) (tTest (tOp r ta tb)) := by
  intro pins s σ H Q I h
  refine wpAny_isTrue_Compare1 (thn (ha pins s σ H _ I h) fun v s1 ⟨x, H1, I1, r1, q1⟩ => thn (hb pins s1 σ H1 _ I1 q1) fun u s2 ⟨y, H2, I2, r2, q2⟩ =>
    thn (ho pins s2 σ H2 x y v u _ I2 r1 r2 q2) fun c s3 ⟨z, H3, I3, r3, k, e, q3⟩ => ?_) hm
  subst e
  cases r3
  exact wpAny_truthy_bool ⟨H3, I3, q3⟩
/-- a op1 b op2 c -/
def tChain (r r' : R2) (ta tb tc : TE) : TE := fun σ H Q => ta σ H fun x H1 => tb σ H1 fun y H2 => r x y H2 fun z H3 => ∃ k, z = .bl k ∧
  (if k = true then tc σ H3 fun w' H4 => r' y w' H4 Q else Q (.bl false) H3)
theorem pe_chain {op op' : CmpOp} {r r' : R2} (ho : OpR X (compareOp op) r) (ho' : OpR X (compareOp op') r') (ha : PE X a ta) (hb : PE X b tb) (hc : PE X c tc)
    (hm : lastMarks [op, op'] [b, c] = false := by with_unfolding_all rfl) : PE X (.Compare a [op, op'] [b, c] pos) (tChain r r' ta tb tc) := by
  intro pins s σ H Q I h
  refine Compare_chain (thn (ha pins s σ H _ I h) fun v s1 ⟨x, H1, I1, r1, q1⟩ => chain_link (thn (hb pins s1 σ H1 _ I1 q1) fun u s2 ⟨y, H2, I2, r2, q2⟩ =>
    thn (ho pins s2 σ H2 x y v u _ I2 r1 r2 q2) fun d s3 ⟨z, H3, I3, r3, k, e, q3⟩ => ?_)) hm
  subst e
  cases r3
  refine wpAny_truthy_bool ?_
  cases k with
  | false => exact ite_ff ⟨.bl false, H3, I3, rfl, q3⟩
  | true => exact ite_tt (chain_last (thn (hc pins s3 σ H3 _ I3 q3) fun w' s4 ⟨z', H4, I4, r4, q4⟩ => ho' pins s4 σ H4 y z' u w' Q I4 r2 r4 q4))
theorem pt_chain {op op' : CmpOp} {r r' : R2} (ho : OpR X (compareOp op) r) (ho' : OpR X (compareOp op') r') (ha : PE X a ta) (hb : PE X b tb) (hc : PE X c tc)
    (hm : lastMarks [op, op'] [b, c] = false := by with_unfolding_all rfl) : PT X (.Compare a [op, op'] [b, c] pos) (tTest (tChain r r' ta tb tc)) := by
  intro pins s σ H Q I h
  refine isTrue_chain (thn (ha pins s σ H _ I h) fun v s1 ⟨x, H1, I1, r1, q1⟩ => test_link (thn (hb pins s1 σ H1 _ I1 q1) fun u s2 ⟨y, H2, I2, r2, q2⟩ =>
    thn (ho pins s2 σ H2 x y v u _ I2 r1 r2 q2) fun d s3 ⟨z, H3, I3, r3, k, e, q3⟩ => ?_)) hm
  subst e
  cases r3
  refine wpAny_truthy_bool ?_
  cases k with
  | false =>
    obtain ⟨k', e', q'⟩ := q3
    cases e'
    exact ite_ff ⟨H3, I3, q'⟩
  | true =>
    refine ite_tt (test_last (thn (hc pins s3 σ H3 _ I3 q3) fun w' s4 ⟨z', H4, I4, r4, q4⟩ => thn (ho' pins s4 σ H4 y z' u w' _ I4 r2 r4 q4) fun d' s5 ⟨z2, H5, I5, r5, k2, e2, q5⟩ => ?_))
    subst e2
    cases r5
    exact wpAny_truthy_bool ⟨H5, I5, q5⟩

/-! ### truth -/
/-- a value's truth by the abstract heap -/
def TruV (K : PySem.W.Frag) (x : V) (H : Hp) (k : Bool) : Prop :=
  match x with
  | .non => k = false
  | .bl b => k = b
  | .int i => k = (i != 0)
  | .str y => y.length ≤ sizeLine ∧ k = ((y.length : Int) != 0)
  | .byt y => y.size ≤ sizeLine ∧ k = ((y.size : Int) != 0)
  | .ref p => (∃ xs, SqL K H p xs ∧ k = !xs.isEmpty) ∨ (∃ xs, SqT K H p xs ∧ k = !xs.isEmpty) ∨ ∃ kvs, H p = some (.dK kvs) ∧ k = !kvs.isEmpty
  | _ => False
theorem isEmpty_kv {κ : Type} {kvs : List (κ × V)} {vs : List (κ × Value)} (r : KV kvs vs) : (!vs.isEmpty) = !kvs.isEmpty := by
  cases r <;> rfl
theorem isEmpty_of {xs : List V} {its : List Value} (r : Vals xs its) : (!its.toArray.isEmpty) = !xs.isEmpty := by
  cases r <;> simp
theorem line63 : (sizeLine : Nat) < 2 ^ 63 := by rw [sizeLine_eq]; decide
theorem tru_ok : TruR X (fun x H Q => ∃ k, TruV X.K x H k ∧ Q k H) := by
  intro pins s σ H x v Q I rx h
  obtain ⟨k, e, q⟩ := h
  have hl := line63
  have hs : sizeLine = 16777216 := sizeLine_eq
  cases x with
  | non =>
    cases rx
    have e' : k = false := e
    subst e'
    exact truthy_none ⟨H, I, q⟩
  | bl b =>
    cases rx
    have e' : k = b := e
    subst e'
    exact wpAny_truthy_bool ⟨H, I, q⟩
  | int i =>
    obtain ⟨t, rfl⟩ := rx
    have e' : k = (i != 0) := e
    subst e'
    exact PySem.P.truthy_int ⟨H, I, q⟩
  | str y =>
    obtain ⟨t, rfl⟩ := rx
    obtain ⟨hy, e'⟩ : y.length ≤ sizeLine ∧ k = ((y.length : Int) != 0) := e
    subst e'
    exact PySem.P.truthy_str (by omega) ⟨H, I.tok _, q⟩
  | byt y =>
    obtain ⟨t, rfl⟩ := rx
    obtain ⟨hy, e'⟩ : y.size ≤ sizeLine ∧ k = ((y.size : Int) != 0) := e
    subst e'
    exact PySem.W.truthy_bytes (by omega) ⟨H, I.tok _, q⟩
  | ref p =>
    cases rx
    have e' : (∃ xs, SqL X.K H p xs ∧ k = !xs.isEmpty) ∨ (∃ xs, SqT X.K H p xs ∧ k = !xs.isEmpty) ∨ ∃ kvs, H p = some (.dK kvs) ∧ k = !kvs.isEmpty := e
    rcases e' with ⟨xs, hx, e'⟩ | ⟨xs, hx, e'⟩ | ⟨kvs, hx, e'⟩
    · subst e'
      obtain ⟨its, r, pl, hz⟩ := I.list hx
      have hlen := r.length
      exact wpAny_truthy_list pl.isList (by simp only [List.size_toArray]; omega) ⟨H, I.tok _, by rw [isEmpty_of r]; exact q⟩
    · subst e'
      obtain ⟨its, r, pl, hz⟩ := I.tuple hx
      have hlen := r.length
      exact truthy_tuple pl (by simp only [List.size_toArray]; omega) ⟨H, I.tok _, by rw [isEmpty_of r]; exact q⟩
    · subst e'
      obtain ⟨hz, hS, vs, r, m⟩ : kvs.length ≤ sizeLine ∧ (p == sysModules) = false ∧ ∃ vs, KV kvs vs ∧ s.heap.DictOf (mixKind X.prog X.w) p vs := I.hok p _ hx
      have hlen : kvs.length = vs.length := Paired.length r
      exact wpAny_truthy_dict hS m (by omega) ⟨H, I.tok _, by rw [isEmpty_kv r]; exact q⟩
  | _ => exact (show False from e).elim
/-- any expression whose test is its value's truth (a name, a call, a subscript, a field ..: he by fun _ => rfl) -/
theorem pt_truth (ha : PE X a ta) (he : ∀ whole, isTrue a X.env whole = (do let v ← whole; standAt a.pos; holding [v] (truthy v))) :
    PT X a (fun σ H Q => ta σ H fun x H' => ∃ k, TruV X.K x H' k ∧ Q k H') := by
  intro pins s σ H Q I h
  exact isTrue_plain (thn (ha pins s σ H _ I h) fun v s1 ⟨x, H1, I1, r1, q1⟩ => tru_ok pins s1 σ H1 x v Q I1 r1 q1) (he _)

/-! ### strs and bytes -/
/-! ### scalar builtins, by CallR -/
theorem vals1 {x : V} {us : List Value} (r : Vals [x] us) : ∃ u, us = [u] ∧ RelV x u := by
  cases r with
  | cons r1 r2 => cases r2; exact ⟨_, rfl, r1⟩
end
end L2

namespace L2
open PySem PySem.Spec PyProof.Rows

/-! ### an instance, its attributes a map -/
structure ObjM (h : Heap) (x dx C : Addr) (mA : Str → Option Value) : Prop where
  obj : h.get? x = some (PySem.W.instObj C dx)
  ns : h.Ns1 dx mA
  ne : dx ≠ x

theorem lookIn_ns {h : Heap} {dx : Addr} {mA : Str → Option Value} (n : h.Ns1 dx mA) : ∃ od, h.get? dx = some od ∧ ∀ name, PySem.W.lookIn name od = some (mA name) := by
  obtain ⟨o, es, ep, ho, hd, hk, _, hm⟩ := n
  refine ⟨o, ho, fun name => ?_⟩
  have e := hm name
  unfold nsFind findBy at e
  rw [← Array.find?_toList] at e
  unfold PySem.W.lookIn
  rw [hd]
  dsimp only
  split
  · rename_i y q
    rw [q] at e
    exact congrArg some e
  · rename_i q
    rw [q] at e
    have a : es.toList.any (·.refKey) = false := by
      rw [List.any_eq_false]
      intro y hy
      obtain ⟨z, t, hkey⟩ := hk y (Array.mem_toList_iff.mp hy)
      simp [DictEntry.refKey, hkey]
    have a' : ¬ es.toList.any (·.refKey) = true := by rw [a]; exact Bool.false_ne_true
    rw [if_neg a']
    exact congrArg some e

theorem ObjM.look {h : Heap} {x dx C : Addr} {mA : Str → Option Value} (I : ObjM h x dx C mA) : ∃ od, PySem.W.InstAt h x (PySem.W.instObj C dx) C (some od) ∧ ∀ name, PySem.W.lookIn name od = some (mA name) :=
  let ⟨od, ho, hl⟩ := lookIn_ns I.ns
  ⟨od, ⟨I.obj, rfl, rfl, ho⟩, hl⟩

section
variable {prog : Program} {w : World} {A : Around} {E : Value → Shared → Prop} {s : Shared} {K : PySem.W.Frag} {x dx C f : Addr} {mA : Str → Option Value} {name : Str} {v : Value}

theorem get_map {expr : Bool} {Q : Value → Shared → Prop} (X : K.In s.heap) (I : ObjM s.heap x dx C mA) (hg : PySem.W.plainGet K C name = true) (hh : PySem.W.hasDictIn K C = true)
    (ha : PySem.W.findIn K (.ref C) name = some none) (hv : mA name = some v) (hv' : PySem.W.handedIn v = true) (h : Q v { s with toks := s.toks + 1 }) :
    wpAny (model prog w) A (getAttr (.ref x) name expr) Q E s := by
  obtain ⟨od, J, hl⟩ := I.look
  exact PySem.W.get_value X J (PySem.W.plainGet_of hg).1 (PySem.W.findObj_own hh ha rfl (by rw [hl, hv])) hv' h

theorem get_meth {pl : Sem Bool} {Q : Value × List Value → Shared → Prop} (X : K.In s.heap) (I : ObjM s.heap x dx C mA) (hg : PySem.W.plainGet K C name = true)
    (hf : PySem.W.findIn K (.ref C) name = some (some (.ref f))) (ht : PySem.W.isFn K (.ref f) = true) (hv : mA name = none) (h : Q (.ref f, [.ref x]) s) :
    wpAny (model prog w) A (getMethod (.ref x) name pl) Q E s := by
  obtain ⟨od, J, hl⟩ := I.look
  exact PySem.W.method_fn X J (PySem.W.plainGet_of hg).1 (PySem.W.plainGet_of hg).2 hf (beq_iff_eq.mp ht) (by show (PySem.W.lookIn name od).map (·.isSome) = some false; rw [hl, hv]; rfl) h

theorem set_map {ns : List Str} {Q : Unit → Shared → Prop} (X : K.In s.heap) (I : ObjM s.heap x dx C mA)
    (hs : PySem.W.findIn K (.ref C) "__setattr__" = some (some (.builtin "object.__setattr__"))) (hp : PySem.W.plainOver K C = true) (ht : PySem.W.takerIn K C name = some none) (hh : PySem.W.hasDictIn K C = true)
    (hw : PySem.Within mA ns) (hsz : ns.length ≤ sizeLine)
    (h : ∀ h', ObjM h' x dx C (fun y => if y = name then some v else mA y) → Heap.SameBut dx s.heap h' → Q () { s with heap := h', toks := s.toks + 2 }) :
    wpAny (model prog w) A (setAttr (.ref x) name v) Q E s := by
  obtain ⟨od, J, hl⟩ := I.look
  refine PySem.W.set_plain X J hs (PySem.W.osa_open (s := { s with toks := s.toks + 1 }) (r := none) X J hp ht fun b => ?_)
  obtain ⟨cd, hc, hd'⟩ := PySem.W.any_some hh
  have hx : s.heap.get? x = some ⟨.ref C, some dx, .plain, #[]⟩ := I.obj
  refine wpAny_bind (wpAny_pure (wpAny_bind (wpAny_bind (wpAny_loadPart hx (wpAny_bind (PySem.W.Looks.here (s := { s with toks := s.toks + 1 }) (PySem.W.looks_clsIn X hc) ?_))))))
  rw [hd']
  refine wpAny_pure (a := some dx) (wpAny_bind (wpAny_pure (wpAny_bind ?_)))
  refine wpAny_nsSet1 (s := { s with toks := s.toks + 1 }) I.ns fun h' hn2 hs2 => ?_
  obtain ⟨oD, esD, epD, hoD, hdD, hcD⟩ := hn2.count (PySem.Within.cons name v hw)
  refine wpAny_bind (wpAny_lookBehind hoD (by rw [hdD]; exact pastItsLine_dict (Nat.le_trans hcD (by rw [List.length_cons]; omega))) ?_)
  exact wpAny_pure (h _ ⟨(hs2.2 _ (Ne.symm I.ne)).trans I.obj, hn2, I.ne⟩ hs2)

/-- C(..): the dict at the heap's end, the instance behind it; then its __init__ -/
theorem make_map {R : Result → Shared → Prop} {vs : List Value} {kw : List (Str × Value)} (X : K.In s.heap) (hm : PySem.W.makesIn K C = true)
    (hi : PySem.W.findIn K (.ref C) "__init__" = some (some (.ref f))) (hf : PySem.W.typeIn K (.ref f) = some (.type "function"))
    (h : codeAny (model prog w) (A.under (.builtin "type.__call__" ⟨.ref C :: vs, kw⟩)) (.call (.ref f) ⟨.ref (s.heap.objs.size + 1) :: vs, kw⟩) (PySem.W.InitBack (s.heap.objs.size + 1) R)
      { s with heap := (s.heap.push PySem.W.emptyDict).push (PySem.W.instObj C s.heap.objs.size) }) :
    codeAny (model prog w) A (.call (.ref C) ⟨vs, kw⟩) R s := by
  obtain ⟨hh, g, d, t, os⟩ := s
  exact PySem.W.make_core (PySem.W.makes_of X hm) (PySem.W.looks_findIn X hi) (fun self => PySem.W.bind_fn X self hf) (.inl rfl) h
end

/-! ### the attributes as a list of pairs -/
def putF (f : Str) (v : V) : List (Str × V) → List (Str × V)
  | [] => [(f, v)]
  | (g, x) :: r => if g = f then (g, v) :: r else (g, x) :: putF f v r
theorem lookup_putF (f g : Str) (v : V) : ∀ fs : List (Str × V), (putF f v fs).lookup g = if g = f then some v else fs.lookup g
  | [] => by
    show List.lookup g [(f, v)] = _
    by_cases h : g = f
    · have hb : (g == f) = true := beq_iff_eq.mpr h
      simp only [List.lookup, hb, if_pos h]
    · have hb : (g == f) = false := beq_eq_false_iff_ne.mpr h
      simp only [List.lookup, hb, if_neg h]
  | (k, x) :: r => by
    have ih := lookup_putF f g v r
    rw [show putF f v ((k, x) :: r) = (if k = f then (k, v) :: r else (k, x) :: putF f v r) from rfl]
    by_cases hk : k = f
    · rw [if_pos hk]
      by_cases h : g = k
      · have hb : (g == k) = true := beq_iff_eq.mpr h
        simp only [List.lookup, hb, if_pos (h.trans hk)]
      · have hb : (g == k) = false := beq_eq_false_iff_ne.mpr h
        simp only [List.lookup, hb, if_neg (fun e : g = f => h (e.trans hk.symm))]
    · rw [if_neg hk]
      by_cases h : g = k
      · have hb : (g == k) = true := beq_iff_eq.mpr h
        simp only [List.lookup, hb, if_neg (fun e : g = f => hk (h.symm.trans e))]
      · have hb : (g == k) = false := beq_eq_false_iff_ne.mpr h
        simp only [List.lookup, hb]
        exact ih
theorem keys_putF (f : Str) (v : V) : ∀ fs : List (Str × V), f ∈ (putF f v fs).map (·.1) ∧ ∀ g, g ∈ fs.map (·.1) → g ∈ (putF f v fs).map (·.1)
  | [] => ⟨by simp [putF], fun g h => by simp at h⟩
  | (k, x) :: r => by
    obtain ⟨i1, i2⟩ := keys_putF f v r
    rw [show putF f v ((k, x) :: r) = (if k = f then (k, v) :: r else (k, x) :: putF f v r) from rfl]
    by_cases hk : k = f
    · rw [if_pos hk]
      subst hk
      exact ⟨by simp, fun g h => by simpa using h⟩
    · rw [if_neg hk]
      refine ⟨?_, fun g h => ?_⟩
      · rw [List.map_cons]
        exact List.mem_cons_of_mem _ i1
      · rw [List.map_cons] at h ⊢
        rcases List.mem_cons.mp h with e | e
        · exact List.mem_cons.mpr (.inl e)
        · exact List.mem_cons_of_mem _ (i2 g e)
theorem length_putF (f : Str) (v : V) : ∀ fs : List (Str × V), (putF f v fs).length ≤ fs.length + 1
  | [] => by simp [putF]
  | (k, x) :: r => by
    have ih := length_putF f v r
    rw [show putF f v ((k, x) :: r) = (if k = f then (k, v) :: r else (k, x) :: putF f v r) from rfl]
    by_cases hk : k = f
    · rw [if_pos hk, List.length_cons, List.length_cons]; omega
    · rw [if_neg hk, List.length_cons, List.length_cons]; omega

theorem RelO.some_of {v : V} {o : Option Value} (r : RelO (some v) o) : ∃ u, o = some u ∧ RelV v u := by
  cases o with
  | none => exact (show False from r).elim
  | some u => exact ⟨u, rfl, r⟩
theorem RelO.none_of {o : Option Value} (r : RelO none o) : o = none := by
  cases o with
  | none => rfl
  | some u => exact (show False from r).elim
theorem handed_of {v : V} {u : Value} (r : RelV v u) : PySem.W.handedIn u = true := by
  cases v with
  | non => cases (show u = Value.none from r); rfl
  | bl b => cases (show u = Value.bool b from r); rfl
  | int i => obtain ⟨t, e⟩ := (show ∃ t, u = Value.int i t from r); cases e; rfl
  | str x => obtain ⟨t, e⟩ := (show ∃ t, u = Value.str x t from r); cases e; rfl
  | byt b => obtain ⟨t, e⟩ := (show ∃ t, u = Value.bytes b t from r); cases e; rfl
  | flt b => obtain ⟨t, e⟩ := (show ∃ t, u = Value.float b t from r); cases e; rfl
  | ref a => cases (show u = Value.ref a from r); rfl
  | ty n => cases (show u = Value.type n from r); rfl

section
variable {P : Program} {w : World} {H H' : Hp} {h h' : Heap} {a C dx : Addr} {fs fs' : List (Str × V)}
theorem ins_get (hok : HOk P w H h) (e : H a = some (.ins C dx fs)) : ∃ mA, ObjM h a dx C mA ∧ (∀ f, RelO (fs.lookup f) (mA f)) ∧ PySem.Within mA (fs.map (·.1)) ∧ fs.length ≤ 1000 ∧ H dx = some (.own a) := by
  obtain ⟨d, z, ne, ob, mA, n, r, q⟩ := (show ObjOk P w H h a (.ins C dx fs) from hok a _ e)
  exact ⟨mA, ⟨ob, n, ne⟩, r, q, z, d⟩
end

/-! ### what of the text a class must have -/
structure Cls (K : PySem.W.Frag) (C : Addr) : Prop where
  pg : PySem.W.plainGet K C Str.empty = true
  hd : PySem.W.hasDictIn K C = true
  po : PySem.W.plainOver K C = true
  sa : PySem.W.findIn K (.ref C) "__setattr__" = some (some (.builtin "object.__setattr__"))
theorem Cls.get {K : PySem.W.Frag} {C : Addr} (c : Cls K C) (f : Str) : PySem.W.plainGet K C f = true := c.pg
/-- no class of it has the name -/
def NoAttr (K : PySem.W.Frag) (C : Addr) (f : Str) : Prop := PySem.W.findIn K (.ref C) f = some none
theorem NoAttr.taker {K : PySem.W.Frag} {C : Addr} {f : Str} (n : NoAttr K C f) : PySem.W.takerIn K C f = some none := by
  unfold PySem.W.takerIn
  rw [show PySem.W.findIn K (.ref C) f = some none from n]
  rfl
/-- a method: a plain def of the class or of one above it -/
structure Meth (K : PySem.W.Frag) (C : Addr) (m : Str) (f : Addr) : Prop where
  at_ : PySem.W.findIn K (.ref C) m = some (some (.ref f))
  fn : PySem.W.isFn K (.ref f) = true
  kp : PySem.W.keepIn K (.ref f) = true

section
variable {X : Cx} {pins : List (Addr × Obj)} {σ : St} {H : Hp} {s : Shared} {a C dx : Addr} {fs : List (Str × V)} {f : Str} {v : V} {A : Around} {E : Value → Shared → Prop}

theorem getattr_ok {b : Bool} {Q : Value → Shared → Prop} (I : Inv X pins σ H s) (e : H a = some (.ins C dx fs)) (c : Cls X.K C) (n : NoAttr X.K C f) (l : fs.lookup f = some v)
    (h : ∀ u s', Inv X pins σ H s' → RelV v u → Q u s') : wpAny (model X.prog X.w) A (getAttr (.ref a) f b) Q E s := by
  obtain ⟨mA, O, r, _, _, _⟩ := ins_get I.hok e
  obtain ⟨u, hu, ru⟩ := RelO.some_of (v := v) (o := mA f) (by rw [← l]; exact r f)
  exact get_map I.kIn O (c.get f) c.hd n hu (handed_of ru) (h u _ (I.tok _) ru)

theorem getmeth_ok {m : Str} {g : Addr} {pl : Sem Bool} {Q : Value × List Value → Shared → Prop} (I : Inv X pins σ H s) (e : H a = some (.ins C dx fs)) (c : Cls X.K C) (k : Meth X.K C m g) (l : fs.lookup m = none)
    (h : Q (.ref g, [.ref a]) s) : wpAny (model X.prog X.w) A (getMethod (.ref a) m pl) Q E s := by
  obtain ⟨mA, O, r, _, _, _⟩ := ins_get I.hok e
  have hn : mA m = none := RelO.none_of (by rw [← l]; exact r m)
  exact get_meth I.kIn O (c.get m) k.at_ k.fn hn h

theorem setattr_ok {y : V} {u : Value} {Q : Unit → Shared → Prop} (I : Inv X pins σ H s) (e : H a = some (.ins C dx fs)) (c : Cls X.K C) (n : NoAttr X.K C f) (hl : fs.length < 1000) (ry : RelV y u)
    (h : ∀ s', Inv X pins σ (upd H a (.ins C dx (putF f y fs))) s' → Q () s') : wpAny (model X.prog X.w) A (setAttr (.ref a) f u) Q E s := by
  obtain ⟨mA, O, r, wi, _, ho⟩ := ins_get I.hok e
  have hz : (fs.map (·.1)).length ≤ sizeLine := by rw [List.length_map, sizeLine_eq]; omega
  refine set_map I.kIn O c.sa c.po n.taker c.hd wi hz fun h' O' sb => h _ ?_
  have hd : ∃ o, h'.get? dx = some o := let ⟨o, _, _, e', _⟩ := O'.ns; ⟨o, e'⟩
  refine I.write (x := a) (e := dx) (by rw [e]; exact True.intro) (.inr ho) (fun b q hb z => (sb.2 b hb).trans z) hd ?_
  refine ⟨by rw [upd_ne O.ne]; exact ho, ?_, O.ne, O'.obj, _, O'.ns, fun g => ?_, fun g hg => ?_⟩
  · have := length_putF f y fs; omega
  · show RelO ((putF f y fs).lookup g) (if g = f then some u else mA g)
    rw [lookup_putF]
    by_cases q : g = f
    · rw [if_pos q, if_pos q]; exact ry
    · rw [if_neg q, if_neg q]; exact r g
  · by_cases q : g = f
    · rw [q]; exact (keys_putF f y fs).1
    · refine (keys_putF f y fs).2 g (wi g fun z => hg ?_)
      show (if g = f then some u else mA g) = none
      rw [if_neg q]; exact z

/-- a new instance, tracked, without attributes -/
theorem Inv.made (I : Inv X pins σ H s) : Inv X pins σ (upd (upd H s.heap.objs.size (.own (s.heap.objs.size + 1))) (s.heap.objs.size + 1) (.ins C s.heap.objs.size []))
    { s with heap := (s.heap.push PySem.W.emptyDict).push (PySem.W.instObj C s.heap.objs.size) } := by
  have e1 : (s.heap.push PySem.W.emptyDict).get? s.heap.objs.size = some PySem.W.emptyDict := Heap.get?_push_size s.heap rfl
  have e2 : ((s.heap.push PySem.W.emptyDict).push (PySem.W.instObj C s.heap.objs.size)).get? (s.heap.objs.size + 1) = some (PySem.W.instObj C s.heap.objs.size) := by
    have := Heap.get?_push_size (s.heap.push PySem.W.emptyDict) (o := PySem.W.instObj C s.heap.objs.size) rfl
    rwa [Heap.size_push] at this
  have e3 : (s.heap.push PySem.W.emptyDict).Ns s.heap.objs.size (fun _ => none) := ⟨PySem.W.emptyDict, #[], _, e1, rfl, (fun e he => absurd he (by simp)), fun _ => rfl⟩
  have I1 := I.laid (a := s.heap.objs.size) (o := .own (s.heap.objs.size + 1)) (h' := s.heap.push PySem.W.emptyDict) (t' := s.toks) (fun b u q => Heap.get?_push_of_some _ q) (Nat.le_refl _) ⟨_, e1⟩
  refine I1.laid (a := s.heap.objs.size + 1) (o := .ins C s.heap.objs.size []) (t' := s.toks) (fun b u q => Heap.get?_push_of_some _ q) (Nat.le_of_eq (Heap.size_push _ _)) ?_
  have ne : s.heap.objs.size ≠ s.heap.objs.size + 1 := Nat.ne_of_lt (Nat.lt_succ_self _)
  refine ⟨by rw [upd_ne ne, upd_same], Nat.zero_le _, ne, e2, fun _ => none, (Heap.Ns1.of_empty e3).at fun o q => Heap.get?_push_of_some _ q, fun _ => True.intro, fun y hy => absurd rfl hy⟩

/-- e.f where nothing but the object is asked: through attributeBase (super) and the last hold -/
theorem attr_of {prog : Program} {w : World} {env : Env} {e : Expr} {f : Str} {pos : Pos} {s : Shared} {Q : Value → Shared → Prop} (hb : attributeBase e f env (eval e env) = eval e env)
    (h : wpAny (model prog w) A (eval e env) (fun o s₁ => wpAny (model prog w) A (getAttr o f true) Q E s₁) E s) : wpAny (model prog w) A (eval (.Attribute e f pos) env) Q E s :=
  Attribute_any_ h (by rw [arm_eval_Attribute, hb])
end

/-! ### readings and rules -/
/-- e.f, an attribute of the instance -/
def tFld (K : PySem.W.Frag) (ta : TE) (f : Str) : TE := fun σ H Q => ta σ H fun x H1 => ∃ a C dx fs v, x = .ref a ∧ H1 a = some (.ins C dx fs) ∧ Cls K C ∧ NoAttr K C f ∧ fs.lookup f = some v ∧ Q v H1
/-- e.f = value -/
def sFld (K : PySem.W.Frag) (ta tv : TE) (f : Str) : TS := fun D σ H => tv σ H fun y H1 => ta σ H1 fun x H2 => ∃ a C dx fs, x = .ref a ∧ H2 a = some (.ins C dx fs) ∧ Cls K C ∧ NoAttr K C f ∧ fs.length < 1000 ∧
  D.nx σ (upd H2 a (.ins C dx (putF f y fs)))
section
variable {X : Cx} {o e value : Expr} {f : Str} {pos pos' tpos : Pos} {ta tv : TE}
theorem pe_fld (he : PE X e ta) (hb : attributeBase e f X.env (eval e X.env) = eval e X.env) : PE X (.Attribute e f pos) (tFld X.K ta f) := by
  intro pins s σ H Q I h
  refine attr_of hb (thn (he pins s σ H _ I h) fun u s1 ⟨x, H1, I1, rx, a, C, dx, fs, v, ex, ea, c, n, l, q⟩ => ?_)
  subst ex
  obtain rfl : u = Value.ref a := rx
  exact getattr_ok I1 ea c n l fun u' s2 I2 ru => ⟨v, H1, I2, ru, q⟩
theorem ps_fld (ha : PE X o ta) (hv : PE X value tv) (hs : swapsWith value (some (.Attribute o f pos')) pos.line X.env = pure false) : PS X (.Assign [.Attribute o f pos'] value pos) (sFld X.K ta tv f) := by
  intro pins s σ H D I h
  refine plainObj_wpAny_Assign_Attribute (thn (hv pins s σ H _ I h) fun u s1 ⟨y, H1, I1, ry, q⟩ => thn (ha pins s1 σ H1 _ I1 q) fun ov s2 ⟨x, H2, I2, rx, a, C, dx, fs, ex, ea, c, n, l, q2⟩ => ?_) hs
  subst ex
  obtain rfl : ov = Value.ref a := rx
  exact setattr_ok I2 ea c n l ry fun s3 I3 => ⟨σ, _, I3, q2⟩
end

/-! ### isinstance -/
section
variable {X : Cx} {pins : List (Addr × Obj)} {σ : St} {H : Hp} {s : Shared} {A : Around} {E : Value → Shared → Prop} {Q : Value → Shared → Prop} {c : Value} {b : Bool}
/-- the type of a value, as the fragment's deciders take it; for an instance its class -/
inductive TyOf (K : PySem.W.Frag) (H : Hp) : V → Value → Prop where
  | non : TyOf K H .non (.type "NoneType")
  | bl (x : Bool) : TyOf K H (.bl x) (.type "bool")
  | int (i : Int) : TyOf K H (.int i) (.type "int")
  | str (x : Str) : TyOf K H (.str x) (.type "str")
  | flt (x : UInt64) : TyOf K H (.flt x) (.type "float")
  | lst {a : Addr} {xs : List V} (e : H a = some (.lst xs)) : TyOf K H (.ref a) (.type "list")
  | frz {a : Addr} {o : Obj} {xs : List V} (e : H a = some (.frz o (.lst xs))) : TyOf K H (.ref a) (.type "list")
  | tup {a : Addr} {xs : List V} (e : H a = some (.tup xs)) : TyOf K H (.ref a) (.type "tuple")
  | dK {a : Addr} {kvs : List (Key × V)} (e : H a = some (.dK kvs)) : TyOf K H (.ref a) (.type "dict")
  | dT {a : Addr} {kvs : List (List Key × V)} (e : H a = some (.dT kvs)) : TyOf K H (.ref a) (.type "dict")
  | ins {a C dx : Addr} {fs : List (Str × V)} (e : H a = some (.ins C dx fs)) (cl : Cls K C) (ha : PySem.W.findIn K (.ref C) "__class__" = some (some (.builtin "object.__class__")))
      (hn : PySem.W.specialIn K (.builtin "object.__class__") "__get__" = some (some (.builtin "getset_descriptor.__get__"))) (htk : PySem.W.takesIn K (.builtin "object.__class__") = some true)
      (hm : PySem.W.mroIn K C (.type "object") = some true) : TyOf K H (.ref a) (.ref C)
/-- isinstance(x, c) for one class c, a built-in or an own one: kitOne's answer -/
theorem isinst_ok {x : V} {u t : Value} (I : Inv X pins σ H s) (rx : RelV x u) (ty : TyOf X.K H x t) (e : PySem.W.kitOne X.K t c = some b) (h : ∀ tk, Q (.bool b) { s with toks := tk }) :
    wpAny (model X.prog X.w) A (call (.builtin "isinstance") [u, c]) Q E s := by
  cases ty with
  | non => cases (show u = Value.none from rx); exact PySem.W.kia_one PySem.W.kitx_none I.kIn True.intro e (fun z => nomatch z) h
  | bl y => cases (show u = Value.bool y from rx); exact PySem.W.kia_one PySem.W.kitx_bool I.kIn True.intro e (fun z => nomatch z) h
  | int i => obtain ⟨t, q⟩ := (show ∃ t, u = Value.int i t from rx); cases q; exact PySem.W.kia_one PySem.W.kitx_int I.kIn True.intro e (fun z => nomatch z) h
  | str y => obtain ⟨t, q⟩ := (show ∃ t, u = Value.str y t from rx); cases q; exact PySem.W.kia_one PySem.W.kitx_str I.kIn True.intro e (fun z => nomatch z) h
  | flt y => obtain ⟨t, q⟩ := (show ∃ t, u = Value.float y t from rx); cases q; exact PySem.W.kia_one PySem.W.kitx_float I.kIn True.intro e (fun z => nomatch z) h
  | @lst a xs ea =>
    cases (show u = Value.ref a from rx)
    obtain ⟨_, _, n, _, h1⟩ := (show ObjOk X.prog X.w H s.heap a (.lst xs) from I.hok a _ ea)
    exact PySem.W.kia_one PySem.W.kitx_list I.kIn ⟨_, h1, rfl⟩ e (fun z => nomatch z) h
  | @frz a ob xs ea =>
    cases (show u = Value.ref a from rx)
    obtain ⟨_, _, _, n, _, h1⟩ := (show ObjOk X.prog X.w H s.heap a (.frz ob (.lst xs)) from I.hok a _ ea)
    exact PySem.W.kia_one PySem.W.kitx_list I.kIn ⟨_, h1, rfl⟩ e (fun z => nomatch z) h
  | @tup a xs ea =>
    cases (show u = Value.ref a from rx)
    obtain ⟨_, _, _, p⟩ := (show ObjOk X.prog X.w H s.heap a (.tup xs) from I.hok a _ ea)
    obtain ⟨o, h1, h2, _⟩ := p
    exact PySem.W.kia_one PySem.W.kitx_tuple I.kIn ⟨o, h1, h2⟩ e (fun z => nomatch z) h
  | @dK a kvs ea =>
    cases (show u = Value.ref a from rx)
    obtain ⟨_, _, vs, _, p⟩ := (show ObjOk X.prog X.w H s.heap a (.dK kvs) from I.hok a _ ea)
    obtain ⟨o, es, ep, h1, h2, _⟩ := p
    exact PySem.W.kia_one PySem.W.kitx_dict I.kIn ⟨o, h1, h2.1⟩ e (fun z => nomatch z) h
  | @dT a kvs ea =>
    cases (show u = Value.ref a from rx)
    obtain ⟨_, _, xs, _, o, es, ep, h1, h2, _⟩ := (show ObjOk X.prog X.w H s.heap a (.dT kvs) from I.hok a _ ea)
    exact PySem.W.kia_one PySem.W.kitx_dict I.kIn ⟨o, h1, h2.1⟩ e (fun z => nomatch z) h
  | @ins a C dx fs ea cl ha hn htk hm =>
    cases (show u = Value.ref a from rx)
    obtain ⟨mA, O, _⟩ := ins_get I.hok ea
    obtain ⟨od, J, _⟩ := O.look
    exact PySem.W.kia_one (PySem.W.kitx_own (cl.get _) cl.hd ha hn htk hm) I.kIn J e (fun z => nomatch z) h
end
end L2

namespace L2
open PySem PySem.Spec PyProof.Rows

/-! ### room -/
structure Room (k : Nat) (A : Around) : Prop where
  hd : A.handled = none
  dp : A.depth + 3 * k + 5 < recursionLimit
  un : A.units + 16 * k + 200 < cLine
theorem Room.mono {j k : Nat} {A : Around} (r : Room k A) (h : j ≤ k) : Room j A := ⟨r.hd, by have := r.dp; omega, by have := r.un; omega⟩
theorem Room.deeper {k : Nat} {A : Around} (r : Room (k + 1) A) (env : Env) : Room k (A.deeper env) :=
  ⟨r.hd, by have := r.dp; show A.depth + 1 + 3 * k + 5 < _; omega, by have := r.un; show A.units + 3 + 16 * k + 200 < _; omega⟩
theorem make_depth {A : Around} {C : Addr} {us : List Value} {kw : List (Str × Value)} : (A.under (.builtin "type.__call__" ⟨.ref C :: us, kw⟩)).depth = A.depth + 1 := by
  first | rfl | simp [Around.under, Code.weight, Code.isCreation, Code.isGuard, Code.isCaller, Code.frames, Code.isFrame, guardIds]
theorem make_units {A : Around} {C : Addr} {us : List Value} {kw : List (Str × Value)} : (A.under (.builtin "type.__call__" ⟨.ref C :: us, kw⟩)).units = A.units + 1 := by
  first | rfl | simp [Around.under, Code.cUnits, Code.frames, Code.isFrame]
theorem Room.make {k : Nat} {A : Around} (r : Room (k + 1) A) (C : Addr) (us : List Value) (kw : List (Str × Value)) : Room k (A.under (.builtin "type.__call__" ⟨.ref C :: us, kw⟩)) :=
  ⟨r.hd, by have := r.dp; rw [make_depth]; omega, by have := r.un; rw [make_units]; omega⟩
theorem Room.depth {k : Nat} {A : Around} (r : Room k A) : A.depth < recursionLimit := by have := r.dp; omega
theorem Room.units {k : Nat} {A : Around} (r : Room k A) : A.units + 64 < cLine := by have := r.un; omega
/-! ### argument lists and displays -/
def tNil : TA := fun _ H Q => Q [] H
def tCons (ta : TE) (tr : TA) : TA := fun σ H Q => ta σ H fun x H1 => tr σ H1 fun xs H2 => Q (x :: xs) H2
section
variable {X : Cx} {e : Expr} {es : List Expr} {te : TE} {t : TA} {pos : Pos}
theorem pa_nil : PA X [] tNil := fun _ _ _ _ H Q I h => Calls.spliced_nil ⟨[], H, I, .nil, h⟩
theorem pa_cons (ha : PE X e te) (hr : PA X es t) (hs : starEach (e :: es) X.env = (false, eval e X.env) :: starEach es X.env := by rfl) : PA X (e :: es) (tCons te t) := by
  intro pos pins s σ H Q I h
  rw [hs]
  show wpAny _ _ (spliced ((false, eval e X.env) :: backTo pos (starEach es X.env))) _ _ s
  refine Calls.spliced_cons (thn (ha pins s σ H _ I h) fun u s1 ⟨x, H1, I1, r1, q1⟩ => ?_)
  exact thn (hr pos pins s1 σ H1 _ I1 q1) fun us s2 ⟨xs, H2, I2, r2, q2⟩ => ⟨x :: xs, H2, I2, .cons r1 r2, q2⟩

/-- a tuple, a list of written items -/
def tTup (t : TA) : TE := fun σ H Q => t σ H fun xs H1 => xs.length ≤ sizeLine ∧ ∀ p, H1 p = none → Q (.ref p) (upd H1 p (.tup xs))
def tLst (t : TA) : TE := fun σ H Q => t σ H fun xs H1 => xs.length ≤ sizeLine ∧ ∀ p, H1 p = none → Q (.ref p) (upd H1 p (.lst xs))
theorem pe_tup {x1} (h : PA X es t) : PE X (.Tuple es x1 pos) (tTup t) := by
  intro pins s σ H Q I hq
  refine wpAny_Tuple_spliced (thn (h pos pins s σ H _ I hq) fun us s1 ⟨xs, H1, I1, r, z, q⟩ => ⟨by rw [← r.length]; exact z, ?_⟩)
  have hf : H1 s1.heap.objs.size = none := I1.hok.fresh (Nat.le_refl _)
  refine ⟨.ref s1.heap.objs.size, upd H1 s1.heap.objs.size (.tup xs), I1.laid (t' := s1.toks) (fun b u e => Heap.get?_push_of_some _ e) (Nat.le_refl _) ?_, rfl, q _ hf⟩
  exact ⟨z, us, r, ⟨_, Heap.get?_push_size _ rfl, rfl, _, rfl⟩⟩
theorem pe_lst (h : PA X es t) : PE X (.List es pos) (tLst t) := by
  intro pins s σ H Q I hq
  refine wpAny_List_spliced (thn (h pos pins s σ H _ I hq) fun us s1 ⟨xs, H1, I1, r, z, q⟩ => ⟨by rw [← r.length]; exact z, ?_⟩)
  have hf : H1 s1.heap.objs.size = none := I1.hok.fresh (Nat.le_refl _)
  refine ⟨.ref s1.heap.objs.size, upd H1 s1.heap.objs.size (.lst xs), I1.laid (t' := s1.toks) (fun b u e => Heap.get?_push_of_some _ e) (Nat.le_refl _) ?_, rfl, q _ hf⟩
  exact ⟨z, us, 0, r, Heap.get?_push_size _ rfl⟩
end

/-! ### what a def promises -/
/-- a def's promise: the bound arguments in the parameters' order, the heap, the wanted end, the wanted exception -/
abbrev Sp := List V → Hp → VK → XK → Prop
/-- how an exception lies behind a call (file 08 gives it): the callers' frames, abstract heap and state ahead of the call, the wish, the exception, the state -/
abbrev CXT := List Env → Hp → Shared → XK → Value → Shared → Prop

/-- the state at a call -/
structure Env0 (P : Program) (w : World) (K : PySem.W.Frag) (mg : Str → Option Value) (base : Heap) (A : Around) (outer : List Env) (s : Shared) (H : Hp) : Prop where
  frames : A.frames = some outer
  mod : Mod K mg base
  bs : ∀ b o, base.get? b = some o → s.heap.get? b = some o ∧ H b = none
  bsz : base.objs.size ≤ s.heap.objs.size
  funs : s.heap.FunFrames base outer
  frf : ∀ b ∈ frs outer, H b = none
  hok : HOk P w H s.heap
  bare : AllBare s.gens
/-- a call's end -/
def CE (outer : List Env) (P : Program) (w : World) (H : Hp) (s : Shared) (Q : VK) (u : Value) (s' : Shared) : Prop :=
  ∃ v H', s'.os = s.os ∧ AllBare s'.gens ∧ Un (frs outer) [] H H' s.heap s'.heap ∧ HOk P w H' s'.heap ∧ RelV v u ∧ Q v H'
def CR (CX : CXT) (outer : List Env) (P : Program) (w : World) (H : Hp) (s : Shared) (Q : VK) (E : XK) (r : Result) (s' : Shared) : Prop :=
  match r with
  | .ok (.ret u) => CE outer P w H s Q u s'
  | .ok _ => False
  | .error e => CX outer H s E e s'
structure FnOk (P : Program) (w : World) (K : PySem.W.Frag) (mg : Str → Option Value) (base : Heap) (CX : CXT) (k : Nat) (f : Addr) (fd : FuncData) (ps : List Str) (sp : Sp) : Prop where
  len : ∀ vs H Q E, sp vs H Q E → vs.length = ps.length
  run : ∀ (A : Around) (outer : List Env) (s : Shared) (H : Hp) (args : Args) (us : List Value) (vs : List V) (Q : VK) (E : XK), Room k A → Env0 P w K mg base A outer s H → BindsTo s fd args (ps.zip us) → Vals vs us → sp vs H Q E →
    codeAny (model P w) A (.call (.ref f) args) (CR CX outer P w H s Q E) s
theorem FnOk.mono {P : Program} {w : World} {K : PySem.W.Frag} {mg : Str → Option Value} {base : Heap} {CX : CXT} {j k : Nat} {f : Addr} {fd : FuncData} {ps : List Str} {sp : Sp} (F : FnOk P w K mg base CX j f fd ps sp) (h : j ≤ k) :
    FnOk P w K mg base CX k f fd ps sp := ⟨F.len, fun A outer s H args us vs Q E hr => F.run A outer s H args us vs Q E (hr.mono h)⟩
/-- a weaker promise -/
theorem FnOk.imp {P : Program} {w : World} {K : PySem.W.Frag} {mg : Str → Option Value} {base : Heap} {CX : CXT} {k : Nat} {f : Addr} {fd : FuncData} {ps : List Str} {sp sp' : Sp} (F : FnOk P w K mg base CX k f fd ps sp)
    (h : ∀ vs H Q E, sp' vs H Q E → sp vs H Q E) : FnOk P w K mg base CX k f fd ps sp' :=
  ⟨fun vs H Q E q => F.len vs H Q E (h _ _ _ _ q), fun A outer s H args us vs Q E hr he hb hv hs => F.run A outer s H args us vs Q E hr he hb hv (h _ _ _ _ hs)⟩

theorem Env0.make {P : Program} {w : World} {K : PySem.W.Frag} {mg : Str → Option Value} {base : Heap} {A : Around} {outer : List Env} {s : Shared} {H : Hp} (e : Env0 P w K mg base A outer s H) (C : Addr) (us : List Value) (kw : List (Str × Value)) :
    Env0 P w K mg base (A.under (.builtin "type.__call__" ⟨.ref C :: us, kw⟩)) outer s H := ⟨by first | exact e.frames | (simpa [Around.under, Code.envs, Code.isFrame, pushEnvs] using e.frames), e.mod, e.bs, e.bsz, e.funs, e.frf, e.hok, e.bare⟩
section
variable {X : Cx} {pins : List (Addr × Obj)} {σ : St} {H : Hp} {s s' : Shared}
/-- from a body: what a callee wants -/
theorem Inv.env0 (I : Inv X pins σ H s) : Env0 X.prog X.w X.K X.mg X.base X.A X.stack s H :=
  ⟨I.ok.frames, I.ok.mod, I.bs, Nat.le_trans I.ok.bsz I.sz, I.stack, I.stkFree, I.hok, I.bare⟩
/-- behind a call -/
theorem Inv.after {Q : VK} {u : Value} (I : Inv X pins σ H s) (h : CE X.stack X.prog X.w H s Q u s') : EP X pins σ Q u s' := by
  obtain ⟨v, H', os, bare, un, hok, r, q⟩ := h
  obtain ⟨hh, g, d, t, os'⟩ := s'
  obtain rfl : os' = s.os := os
  exact ⟨v, H', I.call (h' := hh) (g' := g) (d' := d) (t' := t) (ch := []) un hok bare (fun b z => absurd z (by simp)), r, q⟩
end

/-! ### calls -/
/-- f(..): the written arguments, then the defaults dvs; E: what is wanted of an exception -/
def tCall (sp : Sp) (dvs : List V) (E : XK) (t : TA) : TE := fun σ H Q => t σ H fun vs H1 => sp (vs ++ dvs) H1 Q E
/-- o.m(..) of an instance of the class at C -/
def tMeth (C : Addr) (m : Str) (sp : Sp) (dvs : List V) (E : XK) (ta : TE) (t : TA) : TE := fun σ H Q => ta σ H fun x H1 => ∃ a dx fs, x = .ref a ∧ H1 a = some (.ins C dx fs) ∧ fs.lookup m = none ∧
  t σ H1 fun vs H2 => sp (x :: (vs ++ dvs)) H2 Q E
/-- C(..): a new instance and its dict, then __init__ -/
def tMake (C : Addr) (sp : Sp) (dvs : List V) (E : XK) (t : TA) : TE := fun σ H Q => t σ H fun vs H1 => ∀ x dx, H1 x = none → H1 dx = none → dx ≠ x →
  sp (.ref x :: (vs ++ dvs)) (upd (upd H1 dx (.own x)) x (.ins C dx [])) (fun v H2 => v = .non ∧ Q (.ref x) H2) E

/-- how the parameters are bound: us the positional arguments, kw the keywords' values by name, ds the defaults that fill up -/
def Binds (K : PySem.W.Frag) (fd : FuncData) (ps : List Str) (ds : List Value) : Prop :=
  ∀ (s : Shared) (us : List Value), K.In s.heap → (us ++ ds).length = ps.length → BindsTo s fd ⟨us, []⟩ (ps.zip (us ++ ds))
/-- every parameter is given -/
theorem Binds.all {K : PySem.W.Frag} {fd : FuncData} {ps : List Str} (h : ∀ us : List Value, us.length = ps.length → bindArgs fd ⟨us, []⟩ = pure (ps.zip us)) : Binds K fd ps [] := fun s us _ hl => by
  rw [List.append_nil] at hl ⊢
  exact .of_eq (h us hl)

/-- an exception of a callee reaches what this body wants of exceptions -/
def Passes (CX : CXT) (X : Cx) (E : XK) : Prop := ∀ (pins : List (Addr × Obj)) (σ : St) (H : Hp) (s : Shared) (e : Value) (s' : Shared), Inv X pins σ H s → CX X.stack H s E e s' → X.xe e s'

section
variable {X : Cx} {CX : CXT} {k : Nat} {f C : Addr} {fd : FuncData} {ps : List Str} {sp : Sp} {dvs : List V} {ds : List Value} {E : XK} {x m : Str} {p pos apos : Pos} {e o : Expr} {es : List Expr} {ta : TE} {t : TA}

/-- the callee runs -/
theorem run_fn {pins : List (Addr × Obj)} {σ : St} {H : Hp} {s : Shared} {Q : VK} {us : List Value} {vs : List V} (F : FnOk X.prog X.w X.K X.mg X.base CX k f fd ps sp) (hr : Room k X.A) (hb : Binds X.K fd ps ds) (hd : Vals dvs ds) (hx : Passes CX X E)
    (I : Inv X pins σ H s) (r : Vals vs us) (h : sp (vs ++ dvs) H Q E) : wpAny (model X.prog X.w) X.A (call (.ref f) us) (EP X pins σ Q) X.xe s := by
  have r2 : Vals (vs ++ dvs) (us ++ ds) := r.append hd
  have hl : (us ++ ds).length = ps.length := by rw [← r2.length]; exact F.len _ _ _ _ h
  refine wpAny_call (codeAny_mono (F.run X.A X.stack s H ⟨us, []⟩ (us ++ ds) (vs ++ dvs) Q E hr I.env0 (hb s us I.kIn hl) r2 h) fun r s' hq => ?_)
  cases r with
  | error e => exact hx pins σ H s e s' I hq
  | ok fl =>
    cases fl with
    | ret u => exact I.after hq
    | next => exact False.elim hq
    | brk => exact False.elim hq
    | cont => exact False.elim hq

theorem pe_call (F : FnOk X.prog X.w X.K X.mg X.base CX k f fd ps sp) (hr : Room k X.A) (hg : Gl X x) (hm : X.mg x = some (.ref f)) (hk : PySem.W.keepIn X.K (.ref f) = true) (hb : Binds X.K fd ps ds) (hd : Vals dvs ds) (hx : Passes CX X E)
    (ha : PA X (e :: es) t) (hdb : (x == ("__debug__" : Str)) = false := by decide) (he : starEach (e :: es) X.env = (false, eval e X.env) :: starEach es X.env := by rfl) (hpl : (backTo pos (starEach es X.env)).any (·.1) = false := by rfl) :
    PE X (.Call (.Name x p) (e :: es) [] pos) (tCall sp dvs E t) := by
  intro pins s σ H Q I h
  refine wpAny_Call_Name_kw (ld_glob I hg hm ?_ hdb)
  refine PySem.W.callWith_K (h₀ := X.base) I.ok.mod.kin hk (thn (ha pos pins s σ H _ I h) fun us s1 ⟨vs, H1, I1, r, q⟩ => ⟨I1.kIn, ?_⟩) he hpl
  exact run_fn F hr hb hd hx I1 r q
/-- o.m() -/
theorem pe_meth0 {pl : Sem Bool} (he : PE X o ta) (c : Cls X.K C) (hm : Meth X.K C m f) (F : FnOk X.prog X.w X.K X.mg X.base CX k f fd ps sp) (hr : Room k X.A) (hb : Binds X.K fd ps ds) (hd : Vals dvs ds) (hx : Passes CX X E)
    (ht : eval (.Call (.Attribute o m apos) [] [] pos) X.env = (do
      let ov ← eval o X.env
      standAt apos.atName
      let (f, first) ← holding [ov] (getMethod ov m pl)
      callWith pos f first (backTo pos (starEach [] X.env)) (backToKw pos (keywordEach [] X.env))) := by rfl) :
    PE X (.Call (.Attribute o m apos) [] [] pos) (tMeth C m sp dvs E ta tNil) := by
  intro pins s σ H Q I h
  refine PySem.W.methodCall_KW (pl := pl) (thn (he pins s σ H _ I h) fun u s1 ⟨x, H1, I1, rx, a, dx, fs, ex, ea, l, q⟩ => ?_) ht
  subst ex
  obtain rfl : u = Value.ref a := rx
  refine getmeth_ok I1 ea c hm l ?_
  exact PySem.W.callWith_K0 (first := [.ref a]) I1.kIn hm.kp (run_fn (us := [.ref a]) (vs := [.ref a]) F hr hb hd hx I1 (.cons rfl .nil) q)

/-- what a class must have to be made -/
structure Mk (K : PySem.W.Frag) (C f : Addr) : Prop where
  makes : PySem.W.makesIn K C = true
  init : PySem.W.findIn K (.ref C) "__init__" = some (some (.ref f))
  fn : PySem.W.isFn K (.ref f) = true
  kp : PySem.W.keepIn K (.ref C) = true

theorem run_make {pins : List (Addr × Obj)} {σ : St} {H : Hp} {s : Shared} {Q : VK} {us : List Value} {vs : List V} (M : Mk X.K C f) (F : FnOk X.prog X.w X.K X.mg X.base CX k f fd ps sp) (hr : Room (k + 1) X.A) (hb : Binds X.K fd ps ds) (hd : Vals dvs ds)
    (hx : Passes CX X E) (I : Inv X pins σ H s) (r : Vals vs us)
    (h : ∀ x dx, H x = none → H dx = none → dx ≠ x → sp (.ref x :: (vs ++ dvs)) (upd (upd H dx (.own x)) x (.ins C dx [])) (fun v H2 => v = .non ∧ Q (.ref x) H2) E) :
    wpAny (model X.prog X.w) X.A (call (.ref C) us) (EP X pins σ Q) X.xe s := by
  have hq := h (s.heap.objs.size + 1) s.heap.objs.size (I.hok.fresh (Nat.le_succ _)) (I.hok.fresh (Nat.le_refl _)) (Nat.ne_of_lt (Nat.lt_succ_self _))
  have I2 := Inv.made (C := C) I
  have r2 : Vals (V.ref (s.heap.objs.size + 1) :: (vs ++ dvs)) (Value.ref (s.heap.objs.size + 1) :: (us ++ ds)) := .cons rfl (r.append hd)
  have hl : (Value.ref (s.heap.objs.size + 1) :: us ++ ds).length = ps.length := by
    have e := r2.length
    rw [F.len _ _ _ _ hq] at e
    exact e.symm
  refine wpAny_call (make_map (f := f) I.kIn M.makes M.init (beq_iff_eq.mp M.fn) (codeAny_mono (F.run _ X.stack _ _ ⟨Value.ref (s.heap.objs.size + 1) :: us, []⟩ (Value.ref (s.heap.objs.size + 1) :: (us ++ ds)) _ _ E (hr.make C us [])
    (I2.env0.make C us []) (hb _ (Value.ref (s.heap.objs.size + 1) :: us) I2.kIn hl) r2 hq) fun r s' hq' => ?_))
  cases r with
  | error e => exact hx pins σ _ _ e s' I2 hq'
  | ok fl =>
    cases fl with
    | ret u =>
      obtain ⟨v, H', I3, rv, ev, q3⟩ := I2.after hq'
      subst ev
      exact ⟨rv, ⟨V.ref (s.heap.objs.size + 1), H', I3, rfl, q3⟩⟩
    | next => exact False.elim hq'
    | brk => exact False.elim hq'
    | cont => exact False.elim hq'
theorem pe_make (M : Mk X.K C f) (F : FnOk X.prog X.w X.K X.mg X.base CX k f fd ps sp) (hr : Room (k + 1) X.A) (hg : Gl X x) (hm : X.mg x = some (.ref C)) (hb : Binds X.K fd ps ds) (hd : Vals dvs ds) (hx : Passes CX X E)
    (ha : PA X (e :: es) t) (hdb : (x == ("__debug__" : Str)) = false := by decide) (he : starEach (e :: es) X.env = (false, eval e X.env) :: starEach es X.env := by rfl) (hpl : (backTo pos (starEach es X.env)).any (·.1) = false := by rfl) :
    PE X (.Call (.Name x p) (e :: es) [] pos) (tMake C sp dvs E t) := by
  intro pins s σ H Q I h
  refine wpAny_Call_Name_kw (ld_glob I hg hm ?_ hdb)
  refine PySem.W.callWith_K (h₀ := X.base) I.ok.mod.kin M.kp (thn (ha pos pins s σ H _ I h) fun us s1 ⟨vs, H1, I1, r, q⟩ => ⟨I1.kIn, ?_⟩) he hpl
  exact run_make M F hr hb hd hx I1 r q
end

/-! ### keywords -/
section
variable {X : Cx} {CX : CXT} {k : Nat} {f C : Addr} {fd : FuncData} {ps ks : List Str} {sp : Sp} {E : XK} {x m : Str} {p pos apos kpos : Pos} {e o : Expr} {es : List Expr} {kws : List Keyword} {te ta : TE} {t tk : TA} {nm : Option Str}
variable {g : List Value → List Value → List Value} {gV : List V → List V → List V}
end

/-! ### a def's body keeps its promise -/
/-- names: the parameters first -/
structure FnScope (N P : List Str) (sc : Scope) : Prop where
  kind : sc.kind = .function
  co : sc.isCoroutine = false
  gen : sc.isGenerator = false
  nd : N.Nodup
  pre : N.take P.length = P
  par : ∀ x ∈ P, sc.names.lookup x = some .local ∨ sc.names.lookup x = some .cell
  nofree : ∀ y ∈ sc.names, y.2 ≠ .free

theorem bindL_out {kindOf : Str → Option NameKind} {x : Str} : ∀ {binds : List (Str × Value)} {m : Str → Option Value}, (∀ v, (x, v) ∉ binds) → bindL kindOf binds m x = m x
  | [], _, _ => rfl
  | (n, v) :: r, m, h => by
    unfold bindL
    rw [bindL_out fun w hw => h w (List.mem_cons_of_mem _ hw)]
    split
    · have : x ≠ n := by rintro rfl; exact h v List.mem_cons_self
      simp [this]
    · rfl
theorem bindC_out {kindOf : Str → Option NameKind} {x : Str} : ∀ {binds : List (Str × Value)} {m : Str → Option Value}, (∀ v, (x, v) ∉ binds) → bindC kindOf binds m x = m x
  | [], _, _ => rfl
  | (n, v) :: r, m, h => by
    unfold bindC
    rw [bindC_out fun w hw => h w (List.mem_cons_of_mem _ hw)]
    split
    · rfl
    · have : x ≠ n := by rintro rfl; exact h v List.mem_cons_self
      simp [this]
theorem bindL_get {kindOf : Str → Option NameKind} {x : Str} {v : Value} : ∀ {P : List Str} {vs : List Value} {i : Nat} {m : Str → Option Value}, P.Nodup → P[i]? = some x → vs[i]? = some v → kindOf x = some .local →
    bindL kindOf (P.zip vs) m x = some v
  | [], _, _, _, _, h, _, _ => by simp at h
  | _ :: _, [], _, _, _, _, h, _ => by simp at h
  | p :: P, w :: vs, 0, m, nd, h1, h2, hk => by
    simp at h1 h2; subst h1; subst h2
    show bindL kindOf ((p, w) :: P.zip vs) m p = _
    unfold bindL
    rw [bindL_out fun v hv => (List.nodup_cons.mp nd).1 (List.of_mem_zip hv).1, if_pos hk]
    simp
  | p :: P, w :: vs, i + 1, m, nd, h1, h2, hk => by
    show bindL kindOf ((p, w) :: P.zip vs) m x = _
    unfold bindL
    exact bindL_get (i := i) (List.nodup_cons.mp nd).2 (by simpa using h1) (by simpa using h2) hk
theorem bindC_get {kindOf : Str → Option NameKind} {x : Str} {v : Value} : ∀ {P : List Str} {vs : List Value} {i : Nat} {m : Str → Option Value}, P.Nodup → P[i]? = some x → vs[i]? = some v → kindOf x ≠ some .local →
    bindC kindOf (P.zip vs) m x = some v
  | [], _, _, _, _, h, _, _ => by simp at h
  | _ :: _, [], _, _, _, _, h, _ => by simp at h
  | p :: P, w :: vs, 0, m, nd, h1, h2, hk => by
    simp at h1 h2; subst h1; subst h2
    show bindC kindOf ((p, w) :: P.zip vs) m p = _
    unfold bindC
    rw [bindC_out fun v hv => (List.nodup_cons.mp nd).1 (List.of_mem_zip hv).1, if_neg hk]
    simp
  | p :: P, w :: vs, i + 1, m, nd, h1, h2, hk => by
    show bindC kindOf ((p, w) :: P.zip vs) m x = _
    unfold bindC
    exact bindC_get (i := i) (List.nodup_cons.mp nd).2 (by simpa using h1) (by simpa using h2) hk

/-- the names' values at the entry -/
def start (N : List Str) (vs : List V) : St := vs.map some ++ List.replicate (N.length - vs.length) none

/-- the context of a def's body, at its entry; an exception leaves the frame, then lies as CX says -/
def cxOf (CX : CXT) (P : Program) (w : World) (K : PySem.W.Frag) (mg : Str → Option Value) (base : Heap) (N : List Str) (qual : Str) (scope : Scope) (f : Addr) (cd : Value) (A : Around) (outer : List Env) (s : Shared) (H : Hp) (E : XK) : Cx where
  prog := P
  w := w
  K := K
  mg := mg
  base := base
  A := A.deeper (envOfC qual scope s.heap.objs.size f cd)
  N := N
  s₀ := s
  H₀ := H
  env := envOfC qual scope s.heap.objs.size f cd
  outer := outer
  stack := envOfC qual scope s.heap.objs.size f cd :: outer
  ex := []
  calm := true
  fn := fun _ => true
  pn := []
  xe := fun e s' => wpAny (model P w) (A.deeper (envOfC qual scope s.heap.objs.size f cd)) (leaving (envOfC qual scope s.heap.objs.size f cd) e) (fun _ s'' => CX outer H s E e s'') (fun e' s'' => CX outer H s E e' s'') s'

theorem cell_has {sc : Scope} {n : Nat} {x : Str} (h : sc.names.lookup x = some .cell) : ∃ c, (cellsFrom n sc.names []).lookup x = some c := by
  have q := PySem.W.cellsFrom_some sc.names n [] (.inl h)
  exact Option.isSome_iff_exists.mp q

theorem inv_start {CX : CXT} {P : Program} {w : World} {K : PySem.W.Frag} {mg : Str → Option Value} {base : Heap} {N ps : List Str} {qual : Str} {scope : Scope} {f : Addr} {cd : Value} {A : Around} {outer : List Env} {s s1 : Shared} {H : Hp} {E : XK} {us : List Value} {vs : List V}
    (S : FnScope N ps scope) (hd : A.handled = none) (e0 : Env0 P w K mg base A outer s H) (hl : vs.length = ps.length) (r : Vals vs us)
    (x : InCallC s s.heap.objs.size (bindL (envOfC qual scope s.heap.objs.size f cd).kindOf (ps.zip us) fun _ => none) (cellsFrom (s.heap.objs.size + 1) scope.names []) (bindC (envOfC qual scope s.heap.objs.size f cd).kindOf (ps.zip us) fun _ => none) s1) :
    Inv (cxOf CX P w K mg base N qual scope f cd A outer s H E) [] (start N vs) H s1 := by
  have hpl : ps.length ≤ N.length := by have := congrArg List.length S.pre; rw [List.length_take] at this; omega
  obtain ⟨h1, tk, rfl, hk⟩ := x.done
  have noA : ∀ b : Addr, b ∉ (cxOf CX P w K mg base N qual scope f cd A outer s H E).ex := fun b z => absurd (show b ∈ ([] : List Addr) from z) (by simp)
  refine ⟨⟨e0.mod, S.kind, rfl, rfl, Nat.le_refl _, fun y z c h1 h2 => ?_, fun y hy => ?_, fun y c _ h => ?_, fun _ => hd, Around.frames_deeper e0.frames, .inr ⟨rfl, rfl⟩, fun b z => absurd z (noA b), e0.bs, e0.bsz, fun b _ _ => noA b, fun b z => absurd z (noA b), e0.funs, e0.frf⟩,
    rfl, e0.bare, Un.kept hk, ⟨_, x.toInCall.ns, fun i y v h1 h2 h3 => ?_⟩, fun y c h => ⟨_, x.cell y c h⟩, e0.hok.fresh (Nat.le_refl _), fun y c h => ?_, fun p hp => absurd (show p ∈ ([] : List (Addr × Obj)) from hp) (by simp), e0.hok.kept hk, ?_⟩
  · exact name_of_addr x.apart (PySem.mem_of_lookup h1) (PySem.mem_of_lookup h2)
  · have hy : scope.names.lookup y = some .cell ∨ scope.names.lookup y = some .free := hy
    rcases hy with hy | hy
    · exact cell_has hy
    · exact absurd rfl (S.nofree _ (PySem.mem_of_lookup hy))
  · exact Nat.le_of_lt (x.above y c (PySem.mem_of_lookup h))
  · have hi : i < vs.length := by
      unfold start at h2
      by_cases hi : i < vs.length
      · exact hi
      · rw [List.getElem?_append_right (by simpa using hi)] at h2
        rw [List.getElem?_replicate] at h2
        split at h2 <;> cases h2
    have ha : vs[i]? = some v := by
      unfold start at h2
      rw [List.getElem?_append_left (by simpa using hi), List.getElem?_map] at h2
      cases e : vs[i]? with
      | none => rw [e] at h2; cases h2
      | some a => rw [e] at h2; cases h2; rfl
    obtain ⟨u, hu, rv⟩ := r.get ha
    have hp : ps[i]? = some y := by
      rw [← S.pre, List.getElem?_take_of_lt (by omega)]; exact h1
    have ndP : ps.Nodup := by rw [← S.pre]; exact S.nd.sublist (List.take_sublist _ _)
    refine ⟨u, rv, ?_⟩
    rcases S.par y (List.mem_of_getElem? hp) with k | k
    · exact .inl ⟨k, bindL_get ndP hp hu k⟩
    · obtain ⟨c, e⟩ := cell_has (n := s.heap.objs.size + 1) k
      refine .inr ⟨.inl k, c, e, ?_⟩
      have q := x.cell y c e
      rw [bindC_get ndP hp hu (by show scope.names.lookup y ≠ _; rw [k]; decide)] at q
      exact q
  · exact e0.hok.fresh (Nat.le_of_lt (x.above y c (PySem.mem_of_lookup h)))
  · unfold start
    show _ = N.length
    rw [List.length_append, List.length_map, List.length_replicate]
    omega

/-- THE RULE: a def (or a method) of the text, by its body. The body's reading t is chosen for each entry; it is run at the parameters' values -/
theorem fn_of {CX : CXT} {P : Program} {w : World} {K : PySem.W.Frag} {mg : Str → Option Value} {base : Heap} {k : Nat} {f : Addr} {name qual : Str} {params : Arguments} {body : List Stmt} {scope : Scope} {dV kV doc pm cdv ct oc : Value} {an od : Option Addr}
    {osl : Array (Option Value)} {N ps : List Str} {sp : Sp} (lk : K.lookup f = some ⟨oc, od, .func (PySem.W.fnOf name qual params body scope dV kV doc pm an cdv ct), osl⟩) (hcd : PySem.W.codeIn K cdv qual = true) (S : FnScope N ps scope)
    (len : ∀ vs H Q E, sp vs H Q E → vs.length = ps.length)
    (hbody : ∀ (A : Around) (outer : List Env) (s : Shared) (H : Hp) (vs : List V) (Q : VK) (E : XK), Room k (A.deeper (envOfC qual scope s.heap.objs.size f cdv)) → sp vs H Q E →
      ∃ t, PSs (cxOf CX P w K mg base N qual scope f cdv A outer s H E) body t ∧ t { nx := fun _ H' => Q .non H', rt := Q } (start N vs) H) :
    FnOk P w K mg base CX (k + 1) f (PySem.W.fnOf name qual params body scope dV kV doc pm an cdv ct) ps sp := by
  refine ⟨len, fun A outer s H args us vs Q E hr e0 hb r hsp => ?_⟩
  have hl := len _ _ _ _ hsp
  have KX : K.In s.heap := e0.mod.kin.keeps fun b o e => (e0.bs b o e).1
  have lim : s.heap.NoLimit := e0.mod.nolimit.keeps fun b o e => (e0.bs b o e).1
  have hkind : ∀ y ∈ ps.zip us, scope.names.lookup y.1 = some .local ∨ (scope.names.lookup y.1 = some .cell ∧ ((cellsFrom (s.heap.objs.size + 1) scope.names []).lookup y.1).isSome = true) := fun ⟨n, v⟩ hy => by
    rcases S.par n (List.of_mem_zip hy).1 with q | q
    · exact .inl q
    · exact .inr ⟨q, PySem.W.cellsFrom_some _ _ _ (.inl q)⟩
  refine codeAny_call_function hr.depth (KX _ _ lk) rfl S.co S.gen rfl (PySem.W.codeRec_of KX hcd) (hb _ _ _ _ ?_)
  refine wpAny_newFunctionEnv_cells S.kind hkind fun env he s1 x => ?_
  subst he
  refine ⟨lim.keeps x.toInCall.keep, codeAny_func ?_⟩
  obtain ⟨t, ht, hq⟩ := hbody A outer s H vs Q E (hr.deeper _) hsp
  have I : Inv (cxOf CX P w K mg base N qual scope f cdv A outer s H E) [] (start N vs) H s1 := inv_start S hr.hd e0 hl r x
  refine wpAny_mono (ht [] s1 (start N vs) H _ I hq) (fun fl s' hs => ?_) fun e s' hs => hs
  have fin : ∀ {σ' : St} {H' : Hp} {v : V} {u : Value}, Inv (cxOf CX P w K mg base N qual scope f cdv A outer s H E) [] σ' H' s' → RelV v u → Q v H' → CE outer P w H s Q u s' :=
    fun {σ' H' v u} J rv q => ⟨v, H', J.os, J.bare, J.base, J.hok, rv, q⟩
  cases fl with
  | ret u =>
    obtain ⟨v, σ', H', J, rv, q⟩ := hs
    exact fin J rv q
  | next =>
    obtain ⟨σ', H', J, q⟩ := hs
    exact fin (v := V.non) (u := Value.none) J rfl q
  | brk =>
    obtain ⟨_, _, _, q⟩ := hs
    exact False.elim q
  | cont =>
    obtain ⟨_, _, _, q⟩ := hs
    exact False.elim q
end L2

namespace L2
open PySem PySem.Spec PyProof.Rows
section
variable {X : Cx} {x : Str} {p pos : Pos} {e : Expr} {es : List Expr} {t : TA} {id T : String} {r : List V → Hp → VK → Prop}

def tCB (r : List V → Hp → VK → Prop) (t : TA) : TE := fun σ H Q => t σ H fun vs H1 => r vs H1 Q
/-- f(e, ..), f a built-in function -/
theorem pe_callB (hc : CallR X (.builtin id) r) (hg : Gl X x) (hm : X.mg x = none) (hv : bootBuiltins x = some (.builtin id)) (ha : PA X (e :: es) t) (hn : x ≠ "__name__" := by decide) (hdb : (x == ("__debug__" : Str)) = false := by decide)
    (he : starEach (e :: es) X.env = (false, eval e X.env) :: starEach es X.env := by rfl) (hpl : (backTo pos (starEach es X.env)).any (·.1) = false := by rfl) : PE X (.Call (.Name x p) (e :: es) [] pos) (tCB r t) := by
  intro pins s σ H Q I h
  refine wpAny_Call_Name_kw (ld_blt I hg hm hv ?_ hn hdb)
  exact PyProof.Rows.callWith_builtin1 (thn (ha pos pins s σ H _ I h) fun us s1 ⟨vs, H1, I1, r1, q1⟩ => hc pins s1 σ H1 vs us Q I1 r1 q1) he hpl
/-- T(e, ..), T a built-in type -/
theorem pe_callTy (hc : CallR X (.type T) r) (hg : Gl X x) (hm : X.mg x = none) (hv : bootBuiltins x = some (.type T)) (ha : PA X (e :: es) t) (hn : x ≠ "__name__" := by decide) (hdb : (x == ("__debug__" : Str)) = false := by decide)
    (he : starEach (e :: es) X.env = (false, eval e X.env) :: starEach es X.env := by rfl) (hpl : (backTo pos (starEach es X.env)).any (·.1) = false := by rfl) : PE X (.Call (.Name x p) (e :: es) [] pos) (tCB r t) := by
  intro pins s σ H Q I h
  refine wpAny_Call_Name_kw (ld_blt I hg hm hv ?_ hn hdb)
  exact PyProof.Rows.callWith_type1 (thn (ha pos pins s σ H _ I h) fun us s1 ⟨vs, H1, I1, r1, q1⟩ => hc pins s1 σ H1 vs us Q I1 r1 q1) he hpl
end
end L2

namespace HT
open PySem PyProof.Rows

/-- t < u of tuples of ints -/
def lexLt : List Int → List Int → Bool
  | [], [] => false
  | [], _ :: _ => true
  | _ :: _, [] => false
  | x :: xs, y :: ys => if x = y then lexLt xs ys else decide (x < y)
theorem lexLt_cons (x y : Int) (xs ys : List Int) : lexLt (x :: xs) (y :: ys) = if x = y then lexLt xs ys else decide (x < y) := rfl
theorem lexLt_nil_nil : lexLt [] [] = false := rfl
theorem lexLt_nil_cons (y : Int) (ys : List Int) : lexLt [] (y :: ys) = true := rfl
theorem lexLt_cons_nil (x : Int) (xs : List Int) : lexLt (x :: xs) [] = false := rfl

theorem eqAt_int (A : Around) (s : Shared) (a : Int) (t : Tok) (c : Int) (u : Tok) : ∃ e, SeqAt.EqAt A s (.int a t) (.int c u) e ∧ (e = true ↔ a = c) :=
  ⟨(a == c), SeqAt.EqAt.int_int a t c u, by simp⟩
theorem rcLt_int (A : Around) (s : Shared) (a : Int) (t : Tok) (c : Int) (u : Tok) (prog : Program) (w : World) (E : Value → Shared → Prop) (Q : Value → Shared → Prop) (h : Q (.bool (decide (a < c))) s) :
    wpAny (model prog w) A (richCompare .Lt (.int a t) (.int c u)) Q E s :=
  (PyProof.Rows.lt_int h : wpAny (model prog w) A (compareOp .Lt (.int a t) (.int c u)) Q E s)

section
open PySem.SeqAt
open PySem.AutoSeq1 (wpAny_loadPart')
open PySem.MeetsSeq PySem.MeetsSeq2 PySem.MeetsSeq3

theorem tuple_lt_ints (l b : Addr) (items items2 : Array Value) (n n2 : Nat) (dd dd2 : Option Addr) (sl sl2 : Array (Option Value)) (ns ms : List Int) (hi : IntsAre items.toList ns) (hj : IntsAre items2.toList ms) :
    Meets (Builtin.«tuple.__lt__» ⟨[.ref l, .ref b], []⟩)
      (fun _ R s => s.heap.get? l = some { cls := .type "tuple", dict := dd, data := .seq items n, slots := sl } ∧ s.heap.get? b = some { cls := .type "tuple", dict := dd2, data := .seq items2 n2, slots := sl2 } ∧
        R (.ok (.ret (.bool (lexLt ns ms)))) s) :=
  .of_wp fun prog w A R s h => by
    obtain ⟨hp, g, d, tk, os⟩ := s; obtain ⟨hl, hb, h⟩ := h
    have f2 := AutoSeq1.sub_tuple_tuple
    have z1 : items.size = ns.length := by rw [← hi.length]; simp
    have z2 : items2.size = ms.length := by rw [← hj.length]; simp
    wp_walk using wpAny_loadPart' hl, wpAny_loadPart' hb, wpAny_forIn_list _ (fun rest b s' => b.1 = none ∧ s' = ⟨hp, g, d, tk, os⟩ ∧ ∃ (vs ws : List Value) (ns' ms' : List Int), rest = vs.zip ws ∧
      IntsAre vs ns' ∧ IntsAre ws ms' ∧ ns'.length + items2.size = ms'.length + items.size ∧ R (.ok (.ret (.bool (lexLt ns' ms')))) ⟨hp, g, d, tk, os⟩) _
    case turn =>
      rintro ⟨y, x⟩ rest b s' ⟨hb', rfl, vs, ws, ns', ms', hz, hvi, hwi, hlen, hR⟩
      cases hvi with
      | nil => rw [List.zip_nil_left] at hz; cases hz
      | cons a t hvi' =>
        cases hwi with
        | nil => rw [List.zip_nil_right] at hz; cases hz
        | cons c u hwi' =>
          rw [List.zip_cons_cons] at hz
          injection hz with hyx hrest
          injection hyx with hy hx
          subst hy hx
          rw [lexLt_cons] at hR
          simp only [List.length_cons] at hlen
          obtain ⟨e, he, hiff⟩ := eqAt_int A.in1 ⟨hp, g, d, tk, os⟩ a t c u
          refine wpAny_bind (he prog w _ _ ?_)
          cases e with
          | true =>
            rw [if_pos (hiff.mp rfl)] at hR
            wp_walk
            exact ⟨rfl, rfl, _, _, _, _, hrest, hvi', hwi', by omega, hR⟩
          | false =>
            rw [if_neg (fun q => absurd (hiff.mpr q) Bool.false_ne_true)] at hR
            have hri := rcLt_int A.in1 ⟨hp, g, d, tk, os⟩ a t c u prog w
            wp_walk using hri
            exact ⟨_, rfl, by simpa using hR⟩
    case fin =>
      rintro ⟨b1, b2⟩ s' ⟨hb', rfl, vs, ws, ns', ms', hz, hvi, hwi, hlen, hR⟩
      simp only at hb'
      subst hb'
      have hv : lexLt ns' ms' = decide (items.size < items2.size) := by
        cases hvi with
        | nil =>
          cases hwi with
          | nil =>
            simp only [List.length_nil] at hlen
            rw [lexLt_nil_nil]
            exact (decide_eq_false (by omega)).symm
          | cons c u hw =>
            simp only [List.length_nil, List.length_cons] at hlen
            rw [lexLt_nil_cons]
            exact (decide_eq_true (by omega)).symm
        | cons a t hv =>
          cases hwi with
          | nil =>
            simp only [List.length_nil, List.length_cons] at hlen
            rw [lexLt_cons_nil]
            exact (decide_eq_false (by omega)).symm
          | cons c u hw =>
            rw [List.zip_cons_cons] at hz
            cases hz
      rw [hv] at hR
      wp_walk
      exact ⟨_, rfl, by simpa [Builtin.Tuple.tupleCompareSizes] using hR⟩
    case h =>
      exact ⟨rfl, rfl, items.toList, items2.toList, ns, ms, rfl, hi, hj, by omega, h⟩
end

section
variable {prog : Program} {w : World} {A : Around} {E : Value → Shared → Prop} {s : Shared}

theorem lt_tupInts {l b : Addr} {items items2 : Array Value} {ns ms : List Int} {Q : Value → Shared → Prop} (hl : IsTup s.heap l items) (hb : IsTup s.heap b items2) (hi : IntsAre items.toList ns) (hj : IntsAre items2.toList ms)
    (hu : A.units < cLine) (h : Q (.bool (lexLt ns ms)) s) : wpAny (model prog w) A (compareOp .Lt (.ref l) (.ref b)) Q E s := by
  obtain ⟨⟨cls, dd, data, sl⟩, ho, hc, n, hd⟩ := id hl
  obtain ⟨⟨cls2, dd2, data2, sl2⟩, ho2, hc2, n2, hd2⟩ := id hb
  simp only at hc hd hc2 hd2
  subst hc hd hc2 hd2
  exact richCompare_meets_room (op := .Lt) ⟨_, ho, rfl⟩ ⟨_, ho2, rfl⟩ PySem.F.slot_tuple_lt PySem.F.entry_tuple_lt (PySem.F.args_tuple_lt_2 _ _) (tuple_lt_ints l b items items2 n n2 dd dd2 sl sl2 ns ms hi hj)
    ⟨ho, ho2, show Value.bool (lexLt ns ms) ≠ Value.notImplemented ∧ Q (.bool (lexLt ns ms)) s from ⟨(fun x => nomatch x), h⟩⟩ hu

/-- t + u, t not empty -/
theorem cat_tup {t b : Addr} {vs ws : List Value} {Q : Value → Shared → Prop} (ht : IsTup s.heap t vs.toArray) (hb : IsTup s.heap b ws.toArray) (hv : vs ≠ [])
    (h1 : ws = [] → Q (.ref t) s) (h2 : ws ≠ [] → Q (.ref s.heap.objs.size) { s with heap := s.heap.push { cls := .type "tuple", data := .seq (vs ++ ws).toArray } })
    (hsz : vs.length + ws.length ≤ sizeLine) : wpAny (model prog w) A (binaryOp .Add (.ref t) (.ref b)) Q E s := by
  obtain ⟨⟨cls, dd, data, sl⟩, ho, hc, n, hd⟩ := id ht
  obtain ⟨⟨cls2, dd2, data2, sl2⟩, ho2, hc2, n2, hd2⟩ := id hb
  simp only at hc hd hc2 hd2
  subst hc hd hc2 hd2
  have e : vs.toArray ++ ws.toArray = (vs ++ ws).toArray := by simp
  by_cases hw : ws = []
  · exact concat_meets ⟨_, ho, rfl⟩ ⟨_, ho2, rfl⟩ noFill_tuple_add seq_tuple_add PySem.F.slot_tuple_add PySem.F.entry_tuple_add (PySem.F.args_tuple_add_2 _ _)
      (tuple_addW1 t b vs.toArray ws.toArray n n2 dd dd2 sl sl2 (by simpa using hv) (by simp [hw])) ⟨ho, ho2, h1 hw⟩
  · refine concat_meets ⟨_, ho, rfl⟩ ⟨_, ho2, rfl⟩ noFill_tuple_add seq_tuple_add PySem.F.slot_tuple_add PySem.F.entry_tuple_add (PySem.F.args_tuple_add_2 _ _)
      (tuple_addW2 t b vs.toArray ws.toArray n n2 dd dd2 sl sl2 (by simpa using hv) (by simpa using hw) (by rw [List.size_toArray, List.size_toArray]; exact hsz)) ⟨ho, ho2, ?_⟩
    rw [e]
    exact h2 hw

/-! ### t[a:b], not the whole -/
/-- a slice's bound as a place among n (d where it is left out) -/
def sIx (n d : Nat) : Option Int → Nat
  | none => d
  | some v => if v < 0 then (v + (n : Int)).toNat else min v.toNat n
theorem sIx_le (n d : Nat) (hd : d ≤ n) (o : Option Int) : sIx n d o ≤ n := by
  cases o with
  | none => exact hd
  | some v =>
    show (if v < 0 then (v + (n : Int)).toNat else min v.toNat n) ≤ n
    by_cases hv : v < 0
    · rw [if_pos hv]; omega
    · rw [if_neg hv]; exact Nat.min_le_right _ _
theorem clip_eq (v : Int) (n d : Nat) : (if v < 0 then max (v + (n : Int)) 0 else min v (n : Int)) = ((sIx n d (some v) : Nat) : Int) := by
  show (if v < 0 then max (v + (n : Int)) 0 else min v (n : Int)) = (((if v < 0 then (v + (n : Int)).toNat else min v.toNat n) : Nat) : Int)
  by_cases hv : v < 0
  · simp only [if_pos hv]; omega
  · simp only [if_neg hv]; omega
theorem adjust_gen (lo hi : Option Int) (n : Nat) : Builtin.Slice.sliceAdjust lo hi 1 (n : Int) = (((sIx n 0 lo : Nat) : Int), ((sIx n n hi : Nat) : Int)) := by
  have h1 : ¬ ((1 : Int) < 0) := by omega
  unfold Builtin.Slice.sliceAdjust
  simp only [h1, if_false]
  refine Prod.ext ?_ ?_
  · cases lo with
    | none => rfl
    | some v => exact clip_eq v n 0
  · cases hi with
    | none => rfl
    | some v => exact clip_eq v n n
theorem places_gen (i j : Nat) : Builtin.Slice.slicePlaces (i : Int) (j : Int) 1 = j - i := by
  unfold Builtin.Slice.slicePlaces
  have h1 : (1 : Int) > 0 := by omega
  simp only [h1, if_true, Int.ediv_one]
  split <;> omega
theorem slicePart_ {v : Value} {o : Option Int} {Q : Option Int → Shared → Prop} (p : IsPart v o) (h : Q o s) : wpAny (model prog w) A (Builtin.Slice.slicePartIndex v) Q E s := by
  cases p with
  | none => exact slicePart_none h
  | int i t => exact slicePart_int h
theorem sliceApplied_gen {sl : Addr} {vl vu : Value} {lo hi : Option Int} {n : Nat} {Q : Int × Int × Nat → Shared → Prop} (hs : s.heap.IsSliceOf sl vl vu .none) (pl : IsPart vl lo) (pu : IsPart vu hi)
    (h : Q (((sIx n 0 lo : Nat) : Int), 1, sIx n n hi - sIx n 0 lo) s) : wpAny (model prog w) A (Builtin.Slice.sliceApplied (.ref sl) (pure (n : Int))) Q E s := by
  obtain ⟨os, hos, hcs, hds⟩ := id hs
  unfold Builtin.Slice.sliceApplied Builtin.Slice.sliceFields
  refine wpAny_bind (wpAny_bind (wpAny_field hos hds (x := vl) rfl (wpAny_bind (wpAny_field hos hds (x := vu) rfl (wpAny_bind (wpAny_field hos hds (x := .none) rfl (wpAny_pure ?_)))))))
  refine wpAny_bind (slicePart_none ?_)
  show wpAny _ _ (if ((1 : Int) == 0) = true then _ else _) _ _ s
  rw [if_neg (by decide)]
  refine wpAny_bind (slicePart_ pl (wpAny_bind (slicePart_ pu (wpAny_bind (wpAny_pure ?_)))))
  show wpAny _ _ (match Builtin.Slice.sliceAdjust lo hi 1 (n : Int) with | (lo, hi) => pure (lo, (1 : Int), Builtin.Slice.slicePlaces lo hi 1)) _ _ s
  rw [adjust_gen lo hi n]
  show wpAny _ _ (pure (((sIx n 0 lo : Nat) : Int), (1 : Int), Builtin.Slice.slicePlaces ((sIx n 0 lo : Nat) : Int) ((sIx n n hi : Nat) : Int) 1)) _ _ s
  rw [places_gen]
  exact wpAny_pure h
theorem pick_gen (xs : Array Value) (i k : Nat) : ((List.range k).filterMap fun (m : Nat) => xs[((i : Int) + (m : Int) * 1).toNat]?).toArray = ((xs.toList.drop i).take k).toArray := by
  have e : (fun (m : Nat) => xs[((i : Int) + (m : Int) * 1).toNat]?) = fun m => xs[i + m]? := by
    funext m
    have : ((i : Int) + (m : Int) * 1).toNat = i + m := by omega
    rw [this]
  rw [e]
  have := pick_run xs i k
  rw [List.filterMap_map] at this
  have e2 : ((fun x => xs[x]?) ∘ fun x => i + x) = fun m => xs[i + m]? := rfl
  rw [e2] at this
  rw [this]

theorem getItem_tuple_cut {t sl : Addr} {items : Array Value} {vl vu : Value} {lo hi : Option Int} {Q : Value → Shared → Prop} (ht : IsTup s.heap t items) (hs : s.heap.IsSliceOf sl vl vu .none) (pl : IsPart vl lo) (pu : IsPart vu hi)
    (hw : ¬ (sIx items.size 0 lo = 0 ∧ sIx items.size items.size hi = items.size))
    (h : Q (.ref s.heap.objs.size) { s with heap := s.heap.push { cls := .type "tuple", data := .seq ((items.toList.drop (sIx items.size 0 lo)).take (sIx items.size items.size hi - sIx items.size 0 lo)).toArray } })
    (hsz : items.size ≤ sizeLine) : wpAny (model prog w) A (getItem (.ref t) (.ref sl)) Q E s := by
  have htake : sizeOk (.seq ((items.toList.drop (sIx items.size 0 lo)).take (sIx items.size items.size hi - sIx items.size 0 lo)).toArray) := by
    show ((items.toList.drop (sIx items.size 0 lo)).take (sIx items.size items.size hi - sIx items.size 0 lo)).toArray.size ≤ sizeLine
    rw [List.size_toArray, List.length_take, List.length_drop, Array.length_toList]
    omega
  have hj : sIx items.size items.size hi ≤ items.size := sIx_le _ _ (Nat.le_refl _) hi
  obtain ⟨os, hos, hcs, hds⟩ := id hs
  have hTs : s.TypeIs (.ref sl) "slice" := ⟨os, hos, hcs⟩
  unfold getItem
  try with_reducible refine wpAny_holding ?_
  first | refine wpAny_bind (wpAny_pure ?_) | skip
  refine wpAny_bind (wpAny_sequenceKey ht.typeIs (by decide) ?_)
  refine wpAny_bind (wpAny_callSpecial?_slot (name := Str.ofString "__getitem__") ht.typeIs PyProof.Rows.slot_tuple_getitem
    (wpAny_call_entry PyProof.Rows.slot_tuple_getitem ht.typeIs entry_tuple_getitem ?_ (args_tuple_getitem _ _)))
  show wpAny _ _ (Builtin.Tuple.tupleItemsOf (.ref t) >>= _) _ _ s
  refine wpAny_bind (tupleItemsOf_ ht ?_)
  refine wpAny_bind (wpAny_typeOf hTs ?_)
  rw [if_pos (by decide)]
  refine wpAny_bind (sliceApplied_gen hs pl pu ?_)
  have hno : ¬ ((((sIx items.size 0 lo : Nat) : Int) == 0 && (1 : Int) == 1 && (sIx items.size items.size hi - sIx items.size 0 lo) == items.size) = true) := by
    intro q
    rw [Bool.and_eq_true, Bool.and_eq_true] at q
    have q1 : ((sIx items.size 0 lo : Nat) : Int) = 0 := eq_of_beq q.1.1
    have q2 : sIx items.size items.size hi - sIx items.size 0 lo = items.size := eq_of_beq q.2
    exact hw ⟨by omega, by omega⟩
  show wpAny _ _ (if (((sIx items.size 0 lo : Nat) : Int) == 0 && (1 : Int) == 1 && (sIx items.size items.size hi - sIx items.size 0 lo) == items.size) = true then _ else _) _ _ s
  rw [if_neg hno, pick_gen]
  first
    | exact wpAny_bind (m := Builtin.Tuple.tupleExact _) (wpAny_newObj_type (wpAny_pure ⟨_, rfl, wpAny_pure h⟩) htake)
    | exact wpAny_bind (m := Builtin.Tuple.tupleExact _) (wpAny_newObj_type (wpAny_bind (wpAny_pure (wpAny_pure ⟨_, rfl, wpAny_pure h⟩))) htake)
    | exact wpAny_bind (wpAny_bind (m := Builtin.Tuple.tupleExact _) (wpAny_newObj_type (wpAny_pure (wpAny_pure ⟨_, rfl, wpAny_pure h⟩)) htake))
    | exact wpAny_bind (wpAny_bind (m := Builtin.Tuple.tupleExact _) (wpAny_newObj_type (wpAny_pure ⟨_, rfl, wpAny_pure h⟩) htake))
end
end HT

namespace L2
open PySem PySem.Spec PyProof.Rows

/-! ### the parts of a slice -/
abbrev TO := St → Hp → (Option Int → Hp → Prop) → Prop
/-- a slice's part (left out, or an int) -/
def PO (X : Cx) (e : Option Expr) (t : TO) : Prop :=
  ∀ (pins : List (Addr × Obj)) (s : Shared) (σ : St) (H : Hp) (Q : Option Int → Hp → Prop), Inv X pins σ H s → t σ H Q →
    wpAny (model X.prog X.w) X.A (evalPart e X.env) (fun u s' => ∃ o H', Inv X pins σ H' s' ∧ IsPart u o ∧ Q o H') X.xe s
def tNoPart : TO := fun _ H Q => Q none H
def tPart (t : TE) : TO := fun σ H Q => t σ H fun x H1 => ∃ i, x = .int i ∧ Q (some i) H1

theorem intsAre_of {ns : List Int} : ∀ {us : List Value}, Vals (ns.map V.int) us → IntsAre us ns := by
  induction ns with
  | nil => intro us r; rw [List.map_nil] at r; cases r; exact .nil
  | cons n ns ih =>
    intro us r
    rw [List.map_cons] at r
    cases r with
    | cons r1 r2 =>
      obtain ⟨t, e⟩ := r1
      subst e
      exact .cons n t (ih r2)

section
variable {X : Cx} {e : Expr} {te : TE} {lo hi : Option Expr} {tl th : TO} {pos p2 : Pos}

theorem po_none : PO X none tNoPart := by
  intro pins s σ H Q I h
  rw [evalPart_none]
  exact wpAny_pure ⟨none, H, I, .none, h⟩
theorem po_some (h : PE X e te) : PO X (some e) (tPart te) := by
  intro pins s σ H Q I hw
  rw [evalPart_some]
  refine thn (h pins s σ H _ I hw) fun u s1 ⟨x, H1, I1, r1, q1⟩ => ?_
  obtain ⟨i, rfl, q⟩ := q1
  obtain ⟨t, rfl⟩ := r1
  exact ⟨some i, H1, I1, .int i t, q⟩

/-- what a slice of a value is, by values: the slice object stands at sl -/
def SlR (X : Cx) (r : V → Option Int → Option Int → Hp → VK → Prop) : Prop :=
  ∀ (pins : List (Addr × Obj)) (s : Shared) (σ : St) (H : Hp) (x : V) (v vl vu : Value) (lo hi : Option Int) (sl : Addr) (Q : VK), Inv X pins σ H s → RelV x v → s.heap.IsSliceOf sl vl vu .none → IsPart vl lo → IsPart vu hi → r x lo hi H Q →
    ∃ T id, typeLookup (.type T) "__getitem__" = pure (some (.builtin id)) ∧ s.TypeIs v T ∧ wpAny (model X.prog X.w) X.A (getItem v (.ref sl)) (EP X pins σ Q) X.xe s
theorem SlR.or {r r' : V → Option Int → Option Int → Hp → VK → Prop} (h : SlR X r) (h' : SlR X r') : SlR X (fun x lo hi H Q => r x lo hi H Q ∨ r' x lo hi H Q) := by
  intro pins s σ H x v vl vu lo hi sl Q I rx hs pl pu q
  rcases q with q | q
  · exact h pins s σ H x v vl vu lo hi sl Q I rx hs pl pu q
  · exact h' pins s σ H x v vl vu lo hi sl Q I rx hs pl pu q
def tSl (r : V → Option Int → Option Int → Hp → VK → Prop) (te : TE) (tl th : TO) : TE := fun σ H Q => te σ H fun x H1 => tl σ H1 fun l H2 => th σ H2 fun u H3 => r x l u H3 Q
/-- a[lo:hi], any a -/
theorem pe_slice {r : V → Option Int → Option Int → Hp → VK → Prop} (hr : SlR X r) (he : PE X e te) (hl : PO X lo tl) (hu : PO X hi th) : PE X (.Subscript e (.Slice lo hi none p2) pos) (tSl r te tl th) := by
  intro pins s σ H Q I h
  refine Subscript_ (thn (he pins s σ H _ I h) fun v s1 ⟨x, H1, I1, r1, q1⟩ => ?_)
  refine wpAny_Slice (thn (hl pins s1 σ H1 _ I1 q1) fun vl s2 ⟨l, H2, I2, pl, q2⟩ => thn (hu pins s2 σ H2 _ I2 q2) fun vu s3 ⟨u, H3, I3, pu, q3⟩ => ?_)
  rw [evalPart_none]
  refine wpAny_pure ?_
  have I4 : Inv X pins σ H3 { s3 with heap := s3.heap.push { cls := .type "slice", data := .fields #[vl, vu, .none] } } := I3.kept (t' := s3.toks) fun b ob q => Heap.get?_push_of_some _ q
  obtain ⟨T, id, hT, ht, hg⟩ := hr pins { s3 with heap := s3.heap.push { cls := .type "slice", data := .fields #[vl, vu, .none] } } σ H3 x v vl vu l u s3.heap.objs.size Q I4 r1 (Heap.IsSliceOf.new ..) pl pu q3
  show wpAny (model X.prog X.w) X.A (subscriptTail e (.Slice lo hi none p2) v (.ref s3.heap.objs.size)) (EP X pins σ Q) X.xe { s3 with heap := s3.heap.push { cls := .type "slice", data := .fields #[vl, vu, .none] } }
  exact tail_any (ops := [.ref s3.heap.objs.size, v]) ht hT hg (by with_unfolding_all rfl)

/-- the items of xs[lo:hi] -/
def cutV (xs : List V) (lo hi : Option Int) : List V := (xs.drop (HT.sIx xs.length 0 lo)).take (HT.sIx xs.length xs.length hi - HT.sIx xs.length 0 lo)
theorem cutV_length (xs : List V) (lo hi : Option Int) : (cutV xs lo hi).length ≤ xs.length := by
  unfold cutV
  rw [List.length_take, List.length_drop]
  omega
/-- t[lo:hi], not the whole of it (the whole would be t itself) -/
def rSlT (K : PySem.W.Frag) : V → Option Int → Option Int → Hp → VK → Prop := fun x lo hi H Q => ∃ a xs, x = .ref a ∧ SqT K H a xs ∧
  ¬ (HT.sIx xs.length 0 lo = 0 ∧ HT.sIx xs.length xs.length hi = xs.length) ∧ ∀ p, H p = none → Q (.ref p) (upd H p (.tup (cutV xs lo hi)))
theorem sl_tup : SlR X (rSlT X.K) := by
  intro pins s σ H x v vl vu lo hi sl Q I rx hs pl pu h
  obtain ⟨a, xs, rfl, hx, hw, q⟩ := h
  cases rx
  obtain ⟨its, r, ht, hz⟩ := I.tuple hx
  have hlen : its.toArray.size = xs.length := by rw [List.size_toArray]; exact r.length.symm
  refine ⟨"tuple", _, PyProof.Rows.slot_tuple_getitem.lookup, ht.typeIs, ?_⟩
  refine HT.getItem_tuple_cut ht hs pl pu (by rw [hlen]; exact hw) ?_ (by rw [hlen]; exact hz)
  rw [hlen]
  refine ⟨.ref s.heap.objs.size, _, I.laid (t' := s.toks) (o := .tup (cutV xs lo hi)) (fun b ob q => Heap.get?_push_of_some _ q) (Nat.le_refl _) ?_, rfl, q _ (I.hok.fresh (Nat.le_refl _))⟩
  exact ⟨Nat.le_trans (cutV_length xs lo hi) hz, _, (r.drop (HT.sIx xs.length 0 lo)).take (HT.sIx xs.length xs.length hi - HT.sIx xs.length 0 lo), IsTup.new _ _⟩

/-! ### t < u, t + u -/
/-- t + u, t not empty: u empty gives t itself -/
def rCatT (K : PySem.W.Frag) : R2 := fun x y H Q => ∃ a b xs ys, x = .ref a ∧ y = .ref b ∧ SqT K H a xs ∧ SqT K H b ys ∧ xs ≠ [] ∧ xs.length + ys.length ≤ sizeLine ∧
  (ys = [] → Q (.ref a) H) ∧ (ys ≠ [] → ∀ p, H p = none → Q (.ref p) (upd H p (.tup (xs ++ ys))))
theorem Vals.nil_iff {xs : List V} {us : List Value} (r : Vals xs us) : us = [] ↔ xs = [] := by
  cases r with
  | nil => simp
  | cons _ _ => simp
theorem op_catT : OpR X (binaryOp .Add) (rCatT X.K) := by
  intro pins s σ H x y v u Q I rx ry h
  obtain ⟨a, b, xs, ys, rfl, rfl, ha, hb, hx, hz, q1, q2⟩ := h
  cases rx
  cases ry
  obtain ⟨its, r1, p1, _⟩ := I.tuple ha
  obtain ⟨its2, r2, p2, _⟩ := I.tuple hb
  refine HT.cat_tup p1 p2 (fun z => hx (r1.nil_iff.mp z)) (fun z => ⟨.ref a, H, I, rfl, q1 (r2.nil_iff.mp z)⟩) (fun z => ?_) (by rw [← r1.length, ← r2.length]; exact hz)
  refine ⟨.ref s.heap.objs.size, _, I.laid (t' := s.toks) (o := .tup (xs ++ ys)) (fun b ob q => Heap.get?_push_of_some _ q) (Nat.le_refl _) ?_, rfl, q2 (fun w => z (r2.nil_iff.mpr w)) _ (I.hok.fresh (Nat.le_refl _))⟩
  exact ⟨by rw [List.length_append]; exact hz, _, r1.append r2, IsTup.new _ _⟩
end
end L2

namespace L2
open PySem PySem.Spec PyProof.Rows

/-! ### places -/
/-- the place that an index of any sign means -/
def ixN (n : Nat) (i : Int) : Option Nat := if 0 ≤ i then (if i < n then some i.toNat else none) else if -(n : Int) ≤ i then some (i + n).toNat else none
def atI {α : Type} (xs : List α) (i : Int) : Option α := (ixN xs.length i).bind fun j => xs[j]?
theorem ixN_seq {n : Nat} {i : Int} {j : Nat} (h : ixN n i = some j) : seqIndex? i n = some j ∧ j < n ∧ -(n : Int) ≤ i ∧ i < n := by
  unfold ixN at h
  by_cases h0 : 0 ≤ i
  · rw [if_pos h0] at h
    by_cases h1 : i < n
    · rw [if_pos h1] at h
      have e : i.toNat = j := Option.some.inj h
      exact ⟨by rw [seqIndex_of h0 h1, e], by omega, by omega, h1⟩
    · rw [if_neg h1] at h; cases h
  · rw [if_neg h0] at h
    by_cases h1 : -(n : Int) ≤ i
    · rw [if_pos h1] at h
      have e : (i + n).toNat = j := Option.some.inj h
      exact ⟨by rw [seqIndex_neg (by omega) h1, e], by omega, h1, by omega⟩
    · rw [if_neg h1] at h; cases h
theorem atI_get {α : Type} {xs : List α} {i : Int} {v : α} (h : atI xs i = some v) : ∃ j, seqIndex? i xs.length = some j ∧ xs[j]? = some v ∧ j < xs.length ∧ -(xs.length : Int) ≤ i ∧ i < xs.length := by
  unfold atI at h
  cases e : ixN xs.length i with
  | none => rw [e] at h; cases h
  | some j =>
    rw [e] at h
    obtain ⟨h1, h2, h3, h4⟩ := ixN_seq e
    exact ⟨j, h1, h, h2, h3, h4⟩
theorem atI_nat {α : Type} {xs : List α} {j : Nat} {v : α} (h : xs[j]? = some v) : atI xs (j : Int) = some v := by
  have hj : j < xs.length := (List.getElem?_eq_some_iff.mp h).1
  have e : ixN xs.length (j : Int) = some j := by
    unfold ixN
    rw [if_pos (by omega), if_pos (by omega)]; simp
  unfold atI; rw [e]; exact h
/-! ### what may be subscripted -/
/-- what stands as an index of a plain subscript -/
def PlainIx (b : Expr) : Prop := ∀ o i, subscripted b false o i = operate [o, i] (getItem o i)
/-- a subscript by values -/
def IxR (X : Cx) (r : R2) : Prop :=
  ∀ (value slice : Expr) (pins : List (Addr × Obj)) (s : Shared) (σ : St) (H : Hp) (x y : V) (v u : Value) (Q : VK), Inv X pins σ H s → RelV x v → RelV y u → r x y H Q →
    subscripted slice false v u = operate [v, u] (getItem v u) → wpAny (model X.prog X.w) X.A (subscriptTail value slice v u) (EP X pins σ Q) X.xe s
/-- a call of a builtin's method by values: the receiver, the arguments -/
def MtR (X : Cx) (id : String) (r : V → List V → Hp → VK → Prop) : Prop :=
  ∀ (pins : List (Addr × Obj)) (s : Shared) (σ : St) (H : Hp) (x : V) (xs : List V) (v : Value) (us : List Value) (Q : VK), Inv X pins σ H s → RelV x v → Vals xs us → r x xs H Q →
    wpAny (model X.prog X.w) X.A (call (.builtin id) (v :: us)) (EP X pins σ Q) X.xe s
section
variable {X : Cx} {a b : Expr} {ta tb : TE} {pos : Pos}
theorem IxR.or {r r' : R2} (h : IxR X r) (h' : IxR X r') : IxR X (fun x y H Q => r x y H Q ∨ r' x y H Q) := by
  intro value slice pins s σ H x y v u Q I rx ry q hs
  rcases q with q | q
  · exact h value slice pins s σ H x y v u Q I rx ry q hs
  · exact h' value slice pins s σ H x y v u Q I rx ry q hs
/-- a[b] -/
theorem pe_ix {r : R2} (hr : IxR X r) (ha : PE X a ta) (hb : PE X b tb) (hs : PlainIx b) : PE X (.Subscript a b pos) (tOp r ta tb) := by
  intro pins s σ H Q I h
  exact Subscript_ (binT ha hb I h fun v u s2 x y H2 I2 rx ry q => hr a b pins s2 σ H2 x y v u Q I2 rx ry q (hs _ _))

def rIxL (K : PySem.W.Frag) : R2 := fun x y H Q => ∃ p xs i v, x = .ref p ∧ y = .int i ∧ SqL K H p xs ∧ atI xs i = some v ∧ Q v H
def rIxT (K : PySem.W.Frag) : R2 := fun x y H Q => ∃ p xs i v, x = .ref p ∧ y = .int i ∧ SqT K H p xs ∧ atI xs i = some v ∧ Q v H
theorem ix_list : IxR X (rIxL X.K) := by
  intro value slice pins s σ H x y v u Q I rx ry h hs
  obtain ⟨p, xs, i, z, rfl, rfl, hq, he, q⟩ := h
  cases rx
  obtain ⟨t, rfl⟩ := ry
  obtain ⟨its, r, pl, hz⟩ := I.list hq
  obtain ⟨j, h1, h2, h3, h4, h5⟩ := atI_get he
  obtain ⟨w, ew, rw'⟩ := r.get h2
  have hl := r.length
  have hn := line63
  have fin : EP X pins σ Q w s := ⟨z, H, I, rw', q⟩
  by_cases h0 : 0 ≤ i
  · have hj : i.toNat = j := by
      rw [seqIndex_of h0 h5] at h1
      exact Option.some.inj h1
    exact item_listR pl.isList h0 (by omega) (by rw [hj]; simpa using ew) fin hs
  · have hj : (i + (its.toArray.size : Int)).toNat = j := by
      rw [seqIndex_neg (by omega) h4] at h1
      rw [List.size_toArray, ← hl]
      exact Option.some.inj h1
    exact subscriptTail_builtinR (x := w) pl.isList.typeIs slot_list_getitem.lookup
      (wpAny_getItem_list_neg (Q := fun r s' => r = w ∧ EP X pins σ Q r s') pl.isList (by omega) (by rw [List.size_toArray] <;> omega) (by omega) (by rw [hj]; simpa using ew) ⟨rfl, fin⟩) hs
theorem ix_tup : IxR X (rIxT X.K) := by
  intro value slice pins s σ H x y v u Q I rx ry h hs
  obtain ⟨p, xs, i, z, rfl, rfl, hq, he, q⟩ := h
  cases rx
  obtain ⟨t, rfl⟩ := ry
  obtain ⟨its, r, pl, hz⟩ := I.tuple hq
  obtain ⟨j, h1, h2, h3, h4, h5⟩ := atI_get he
  obtain ⟨w, ew, rw'⟩ := r.get h2
  have hl := r.length
  have hn := line63
  have fin : EP X pins σ Q w s := ⟨z, H, I, rw', q⟩
  exact subscriptTail_builtinR (x := w) pl.typeIs slot_tuple_getitem.lookup
    (getItem_tuple (j := j) (Q := fun r s' => r = w ∧ EP X pins σ Q r s') pl (by omega) (by omega) (by rw [List.size_toArray, ← hl]; exact h1) (by simpa using ew) ⟨rfl, fin⟩) hs
/-! ### xs[i] = v, any sign -/
/-- the list's object behind a store -/
theorem mapSeq_set (its : List Value) (n j : Nat) (u : Value) : Obj.mapSeq (·.setIfInBounds j u) { cls := .type "list", data := .seq its.toArray n } = { cls := .type "list", data := .seq (its.set j u).toArray n } := by
  simp [Obj.mapSeq]
theorem Inv.lst {pins : List (Addr × Obj)} {σ : St} {H : Hp} {s : Shared} {p : Addr} {xs : List V} (I : Inv X pins σ H s) (h : H p = some (.lst xs)) :
    ∃ (its : List Value) (n : Nat), Vals xs its ∧ s.heap.get? p = some { cls := .type "list", data := .seq its.toArray n } ∧ xs.length ≤ sizeLine := by
  obtain ⟨z, its, n, r, e⟩ := I.hok p _ h
  exact ⟨its, n, r, e, z⟩
/-- the list at p is written by an update of its object -/
theorem Inv.lstUpd {pins : List (Addr × Obj)} {σ : St} {H : Hp} {s : Shared} {p : Addr} {xs ys : List V} {its its' : List Value} {n n' : Nat} {f : Obj → Obj} (I : Inv X pins σ H s) (h : H p = some (.lst xs))
    (ho : s.heap.get? p = some { cls := .type "list", data := .seq its.toArray n }) (hf : f { cls := .type "list", data := .seq its.toArray n } = { cls := .type "list", data := .seq its'.toArray n' }) (r : Vals ys its') (hz : ys.length ≤ sizeLine) (t : Nat) :
    Inv X pins σ (upd H p (.lst ys)) { s with heap := s.heap.update p f, toks := t } := by
  have e : (s.heap.update p f).get? p = some { cls := .type "list", data := .seq its'.toArray n' } := by
    rw [Heap.get?_update_self f ho (by rw [hf] <;> rfl), hf]
  refine I.write (x := p) (e := p) (by rw [h]; trivial) (.inl rfl) (fun b u hb q => (Heap.get?_update_other _ _ (Ne.symm hb)).trans q) ⟨_, e⟩ ?_
  exact ⟨hz, its', n', r, e⟩
def rSetL : V → V → V → Hp → (Hp → Prop) → Prop := fun o i v H Q => ∃ p xs k j, o = .ref p ∧ i = .int k ∧ H p = some (.lst xs) ∧ ixN xs.length k = some j ∧ Q (upd H p (.lst (xs.set j v)))
theorem set_list : PSet X rSetL := by
  intro pins s σ H o i v ov iv u Q I ro ri rv h
  obtain ⟨p, xs, k, j, rfl, rfl, hp, hj, q⟩ := h
  cases ro
  obtain ⟨t, rfl⟩ := ri
  obtain ⟨its, n, r, ho, hz⟩ := I.lst hp
  obtain ⟨h1, h2, h3, h4⟩ := ixN_seq hj
  have hl := r.length
  have hn := line63
  have I' : Inv X pins σ (upd H p (.lst (xs.set j v))) { s with heap := s.heap.update p (Obj.mapSeq (·.setIfInBounds j u)) } :=
    I.lstUpd hp ho (mapSeq_set its n j u) (r.set rv j) (by rw [List.length_set]; exact hz) s.toks
  by_cases h0 : 0 ≤ k
  · have hk : k.toNat = j := by
      rw [seqIndex_of h0 h4] at h1
      exact Option.some.inj h1
    exact PySem.W.ki_setAt ho h0 (by omega) (by rw [List.size_toArray, ← hl]; exact h4) (by rw [hk]; exact ⟨_, I', q⟩)
  · have hk : (k + (its.toArray.size : Int)).toNat = j := by
      rw [seqIndex_neg (by omega) h3] at h1
      rw [List.size_toArray, ← hl]
      exact Option.some.inj h1
    exact PySem.W.ki_setBack ho (by omega) (by rw [List.size_toArray, ← hl]; exact h3) (by omega) (by rw [hk]; exact ⟨_, I', q⟩)

/-! ### slices -/
theorem slice_bounds (lo hi : Option Int) (n : Nat) : (sliceBounds lo hi none n).1 = ((HT.sIx n 0 lo : Nat) : Int) ∧ (sliceBounds lo hi none n).2.1 = ((HT.sIx n n hi : Nat) : Int) ∧ (sliceBounds lo hi none n).2.2 = 1 := by
  refine ⟨?_, ?_, rfl⟩
  · cases lo with
    | none => simp [sliceBounds, HT.sIx]
    | some i =>
      simp only [sliceBounds, HT.sIx, Option.getD_none, show (1 : Int) > 0 by decide, if_true]
      by_cases h : i < 0
      · simp only [h, if_true] <;> omega
      · simp only [h, if_false] <;> omega
  · cases hi with
    | none => simp [sliceBounds, HT.sIx]
    | some i =>
      simp only [sliceBounds, HT.sIx, Option.getD_none, show (1 : Int) > 0 by decide, if_true]
      by_cases h : i < 0
      · simp only [h, if_true] <;> omega
      · simp only [h, if_false] <;> omega
theorem slicePick_cut (its : List Value) (lo hi : Option Int) : slicePick its.toArray lo hi none = ((its.drop (HT.sIx its.length 0 lo)).take (HT.sIx its.length its.length hi - HT.sIx its.length 0 lo)).toArray := by
  obtain ⟨h1, h2, h3⟩ := slice_bounds lo hi its.toArray.size
  unfold slicePick
  rw [h1, h2, h3]
  simp only [sliceRange_one, pick_run, List.size_toArray] <;> rfl
/-- xs[lo:hi] of a list: a new list -/
def rSlL (K : PySem.W.Frag) : V → Option Int → Option Int → Hp → VK → Prop := fun x lo hi H Q => ∃ a xs, x = .ref a ∧ SqL K H a xs ∧ ∀ p, H p = none → Q (.ref p) (upd H p (.lst (cutV xs lo hi)))
theorem sl_list : SlR X (rSlL X.K) := by
  intro pins s σ H x v vl vu lo hi sl Q I rx hs pl pu h
  obtain ⟨a, xs, rfl, hx, q⟩ := h
  cases rx
  obtain ⟨its, r, ht, hz⟩ := I.list hx
  have hlen := r.length
  refine ⟨"list", _, slot_list_getitem.lookup, ht.isList.typeIs, ?_⟩
  refine wpAny_getItem_list_slice ht.isList hs pl pu .none (by simp) ?_ (by rw [List.size_toArray] <;> omega)
  rw [slicePick_cut, ← hlen]
  refine ⟨.ref s.heap.objs.size, _, I.laid (t' := s.toks) (o := .lst (cutV xs lo hi)) (fun b ob q => Heap.get?_push_of_some _ q) (Nat.le_refl _) ?_, rfl, q _ (I.hok.fresh (Nat.le_refl _))⟩
  exact ⟨Nat.le_trans (cutV_length xs lo hi) hz, _, 0, (r.drop (HT.sIx xs.length 0 lo)).take (HT.sIx xs.length xs.length hi - HT.sIx xs.length 0 lo), Heap.get?_push_size _ rfl⟩

/-! ### in, not in: flat items -/
def flatV : V → Bool
  | .non => true
  | .bl _ => true
  | .int _ => true
  | .str _ => true
  | _ => false
/-- == of flat values -/
def eqV : V → V → Bool
  | .non, .non => true
  | .bl a, .bl b => a == b
  | .bl a, .int b => (if a then 1 else 0) == b
  | .int a, .bl b => a == (if b then 1 else 0)
  | .int a, .int b => a == b
  | .str a, .str b => a == b
  | _, _ => false
theorem eqAt_V {A : Around} {s : Shared} {y x : V} {u v : Value} (ry : RelV y u) (rx : RelV x v) (fy : flatV y = true) (fx : flatV x = true) : SeqAt.EqAt A s u v (eqV y x) := by
  cases y with
  | non =>
    cases ry
    cases x with
    | non => cases rx; exact SeqAt.EqAt.same _
    | bl b => cases rx; exact SeqAt.EqAt.none_bool b
    | int b => obtain ⟨t, rfl⟩ := rx; exact SeqAt.EqAt.none_int b t
    | str b => obtain ⟨t, rfl⟩ := rx; exact SeqAt.EqAt.none_str b t
    | _ => exact absurd (show false = true from fx) Bool.false_ne_true
  | bl a =>
    cases ry
    cases x with
    | non => cases rx; exact SeqAt.EqAt.bool_none a
    | bl b => cases rx; exact SeqAt.EqAt.bool_bool a b
    | int b => obtain ⟨t, rfl⟩ := rx; exact SeqAt.EqAt.bool_int a b t
    | str b => obtain ⟨t, rfl⟩ := rx; exact SeqAt.EqAt.bool_str a b t
    | _ => exact absurd (show false = true from fx) Bool.false_ne_true
  | int a =>
    obtain ⟨t', rfl⟩ := ry
    cases x with
    | non => cases rx; exact SeqAt.EqAt.int_none a t'
    | bl b => cases rx; exact SeqAt.EqAt.int_bool a t' b
    | int b => obtain ⟨t, rfl⟩ := rx; exact SeqAt.EqAt.int_int a t' b t
    | str b => obtain ⟨t, rfl⟩ := rx; exact SeqAt.EqAt.int_str a t' b t
    | _ => exact absurd (show false = true from fx) Bool.false_ne_true
  | str a =>
    obtain ⟨t', rfl⟩ := ry
    cases x with
    | non => cases rx; exact SeqAt.EqAt.str_none a t'
    | bl b => cases rx; exact SeqAt.EqAt.str_bool a t' b
    | int b => obtain ⟨t, rfl⟩ := rx; exact SeqAt.EqAt.str_int a t' b t
    | str b => obtain ⟨t, rfl⟩ := rx; exact SeqAt.EqAt.str_str a t' b t
    | _ => exact absurd (show false = true from fx) Bool.false_ne_true
  | _ => exact absurd (show false = true from fy) Bool.false_ne_true
/-- the items' answers, read off the values (a value's own answer does not lean on its token) -/
def eqU (x : V) (u : Value) : Bool := match u with
  | .none => eqV .non x
  | .bool b => eqV (.bl b) x
  | .int i _ => eqV (.int i) x
  | .str z _ => eqV (.str z) x
  | _ => false
theorem eqU_of {x y : V} {u : Value} (r : RelV y u) (f : flatV y = true) : eqU x u = eqV y x := by
  cases y with
  | non => cases r; rfl
  | bl b => cases r; rfl
  | int i => obtain ⟨t, rfl⟩ := r; rfl
  | str z => obtain ⟨t, rfl⟩ := r; rfl
  | _ => exact absurd (show false = true from f) Bool.false_ne_true
theorem any_eqU {x : V} : ∀ {xs : List V} {us : List Value}, Vals xs us → xs.all flatV = true → us.any (eqU x) = xs.any fun y => eqV y x
  | _, _, .nil, _ => rfl
  | y :: xs, u :: us, .cons r t, f => by
    rw [List.all_cons, Bool.and_eq_true] at f
    rw [List.any_cons, List.any_cons, eqU_of r f.1, any_eqU t f.2]
theorem mem_eqAt {A : Around} {s : Shared} {x : V} {v : Value} (rx : RelV x v) (fx : flatV x = true) : ∀ {xs : List V} {us : List Value}, Vals xs us → xs.all flatV = true → ∀ u ∈ us, SeqAt.EqAt A s u v (eqU x u)
  | _, _, .nil, _ => fun u hu => by cases hu
  | y :: xs, u :: us, .cons r t, f => fun u' hu => by
    rw [List.all_cons, Bool.and_eq_true] at f
    rcases List.mem_cons.mp hu with rfl | hu
    · rw [eqU_of r f.1]; exact eqAt_V r rx f.1 fx
    · exact mem_eqAt rx fx t f.2 u' hu
def inV (x : V) (xs : List V) : Bool := xs.any fun y => eqV y x
/-- x in a list or tuple of flat items -/
def rIn (K : PySem.W.Frag) (neg : Bool) : R2 := fun x y H Q => ∃ p xs, y = .ref p ∧ (SqL K H p xs ∨ SqT K H p xs) ∧ flatV x = true ∧ xs.all flatV = true ∧ Q (.bl (if neg then !inV x xs else inV x xs)) H
theorem op_in_seq : OpR X (compareOp .In) (rIn X.K false) := by
  intro pins s σ H x y v u Q I rx ry h
  obtain ⟨p, xs, rfl, hq, fx, fs, q⟩ := h
  cases ry
  rcases hq with hq | hq
  · obtain ⟨its, r, pl, hz⟩ := I.list hq
    refine SeqAt.in_listAt (eqU x) pl.isList (fun w hw => mem_eqAt rx fx r fs w (by simpa using hw)) ⟨.bl _, H, I, rfl, ?_⟩
    rw [show its.toArray.any (eqU x) = its.any (eqU x) by simp, any_eqU r fs]
    exact q
  · obtain ⟨its, r, pl, hz⟩ := I.tuple hq
    refine SeqAt.in_tupleAt (eqU x) pl (fun w hw => mem_eqAt rx fx r fs w (by simpa using hw)) ⟨.bl _, H, I, rfl, ?_⟩
    rw [show its.toArray.any (eqU x) = its.any (eqU x) by simp, any_eqU r fs]
    exact q
theorem op_notIn_seq : OpR X (compareOp .NotIn) (rIn X.K true) := by
  intro pins s σ H x y v u Q I rx ry h
  obtain ⟨p, xs, rfl, hq, fx, fs, q⟩ := h
  cases ry
  rcases hq with hq | hq
  · obtain ⟨its, r, pl, hz⟩ := I.list hq
    refine SeqAt.notIn_listAt (eqU x) pl.isList (fun w hw => mem_eqAt rx fx r fs w (by simpa using hw)) ⟨.bl _, H, I, rfl, ?_⟩
    rw [show its.toArray.any (eqU x) = its.any (eqU x) by simp, any_eqU r fs]
    exact q
  · obtain ⟨its, r, pl, hz⟩ := I.tuple hq
    refine SeqAt.notIn_tupleAt (eqU x) pl (fun w hw => mem_eqAt rx fx r fs w (by simpa using hw)) ⟨.bl _, H, I, rfl, ?_⟩
    rw [show its.toArray.any (eqU x) = its.any (eqU x) by simp, any_eqU r fs]
    exact q
/-! ### len, list(x), tuple(x) of any list or tuple that is read -/
theorem call_len_seq : CallR X (.builtin "len") (fun xs H Q => ∃ p ys, xs = [.ref p] ∧ (SqL X.K H p ys ∨ SqT X.K H p ys) ∧ Q (.int ys.length) H) := by
  intro pins s σ H xs us Q I r h
  obtain ⟨p, ys, rfl, hq, q⟩ := h
  obtain ⟨u, rfl, rx⟩ := vals1 r
  cases rx
  have hn := line63
  rcases hq with hq | hq
  · obtain ⟨its, r', pl, hz⟩ := I.list hq
    have hlen := r'.length
    exact Calls.call_len_list pl.isList (by simp only [List.size_toArray] <;> omega) ⟨.int ys.length, H, I.tok _, ⟨s.toks + 1, by rw [List.size_toArray, hlen]⟩, q⟩
  · obtain ⟨its, r', pl, hz⟩ := I.tuple hq
    have hlen := r'.length
    exact len_tuple pl (by simp only [List.size_toArray] <;> omega) ⟨.int ys.length, H, I.tok _, ⟨s.toks + 1, by rw [List.size_toArray, hlen]⟩, q⟩
theorem call_list_of : CallR X (.type "list") (fun xs H Q => ∃ p ys, xs = [.ref p] ∧ (SqL X.K H p ys ∨ SqT X.K H p ys) ∧ ∀ l, H l = none → Q (.ref l) (upd H l (.lst ys))) := by
  intro pins s σ H xs us Q I r h
  obtain ⟨p, ys, rfl, hq, q⟩ := h
  obtain ⟨u, rfl, rx⟩ := vals1 r
  cases rx
  have fin : ∀ (its : List Value), Vals ys its → ys.length ≤ sizeLine → ∀ (h' : Heap) (c' : Nat), (∀ b o', s.heap.get? b = some o' → h'.get? b = some o') →
      h'.get? s.heap.objs.size = some { cls := .type "list", dict := none, data := .seq its.toArray c', slots := #[] } → EP X pins σ Q (.ref s.heap.objs.size) { s with heap := h' } := fun its r' hz h' c' kp e =>
    ⟨.ref s.heap.objs.size, _, I.laid (t' := s.toks) kp (Nat.le_refl _) (show ObjOk X.prog X.w _ h' _ (.lst ys) from ⟨hz, its, c', r', e⟩), rfl, q _ (I.hok.fresh (Nat.le_refl _))⟩
  rcases hq with hq | hq
  · obtain ⟨its, r', pl, hz⟩ := I.list hq
    have hlen := r'.length
    obtain ⟨o, ho, hc, n, hd⟩ := pl.isList
    exact call_list_seq p (.inl rfl) ho hc hd (fun h' c' kp e => fin its r' hz h' c' kp e) (by simp only [List.size_toArray] <;> omega)
  · obtain ⟨its, r', pl, hz⟩ := I.tuple hq
    have hlen := r'.length
    obtain ⟨o, ho, hc, n, hd⟩ := pl
    exact call_list_seq p (.inr rfl) ho hc hd (fun h' c' kp e => fin its r' hz h' c' kp e) (by simp only [List.size_toArray] <;> omega)
theorem call_tuple_of : CallR X (.type "tuple") (fun xs H Q => ∃ p ys, xs = [.ref p] ∧ ((SqL X.K H p ys ∧ ∀ l, H l = none → Q (.ref l) (upd H l (.tup ys))) ∨ (SqT X.K H p ys ∧ Q (.ref p) H))) := by
  intro pins s σ H xs us Q I r h
  obtain ⟨p, ys, rfl, h⟩ := h
  obtain ⟨u, rfl, rx⟩ := vals1 r
  cases rx
  rcases h with ⟨hq, q⟩ | ⟨hq, q⟩
  · obtain ⟨its, r', pl, hz⟩ := I.list hq
    have hlen := r'.length
    refine call_tuple_list pl.isList (fun h' kp => ?_) (by simp only [List.size_toArray] <;> omega)
    have I1 : Inv X pins σ H { s with heap := h' } := I.kept (t' := s.toks) kp
    have I2 : Inv X pins σ (upd H h'.objs.size (.tup ys)) { s with heap := h'.push { cls := .type "tuple", data := .seq its.toArray } } :=
      I1.laid (t' := s.toks) (fun b o e => Heap.get?_push_of_some _ e) (Nat.le_refl _) (show ObjOk X.prog X.w _ _ _ (.tup ys) from ⟨hz, its, r', IsTup.new _ _⟩)
    exact ⟨.ref h'.objs.size, _, I2, rfl, q _ (I1.hok.fresh (Nat.le_refl _))⟩
  · obtain ⟨its, r', pl, hz⟩ := I.tuple hq
    exact call_tuple_same pl ⟨.ref p, H, I, rfl, q⟩

/-! ### the call of a builtin's method: o.m(..) -/
/-- the value is of that builtin type -/
def tyV (K : PySem.W.Frag) (T : String) (x : V) (H : Hp) : Prop := match x with
  | .str _ => T = "str"
  | .int _ => T = "int"
  | .ref p => (T = "list" ∧ ∃ xs, SqL K H p xs) ∨ (T = "tuple" ∧ ∃ o, K.lookup p = some o ∧ o.cls = .type "tuple" ∧ o.dict = none) ∨
      (T = "dict" ∧ ((∃ kvs, H p = some (.dK kvs)) ∨ ∃ kvs, H p = some (.dT kvs))) ∨ (T = "set" ∧ ∃ S n, H p = some (.set S n))
  | _ => False
theorem tyV_is {pins : List (Addr × Obj)} {σ : St} {H : Hp} {s : Shared} {T : String} {x : V} {v : Value} (I : Inv X pins σ H s) (r : RelV x v) (ty : tyV X.K T x H) :
    s.TypeIs v T ∧ ∀ a, v = .ref a → ∃ ob, s.heap.get? a = some ob ∧ ob.dict = none := by
  cases x with
  | str z =>
    obtain ⟨t, rfl⟩ := r
    cases (show T = "str" from ty)
    exact ⟨typeIs_str s z t, fun _ e => nomatch e⟩
  | int i =>
    obtain ⟨t, rfl⟩ := r
    cases (show T = "int" from ty)
    exact ⟨typeIs_int s i t, fun _ e => nomatch e⟩
  | ref p =>
    cases r
    rcases ty with ⟨rfl, xs, hq⟩ | ⟨rfl, o, hk, hc, hd⟩ | ⟨rfl, hk⟩ | ⟨rfl, S, n, hk⟩
    · obtain ⟨its, _, pl, _⟩ := I.list hq
      refine ⟨pl.isList.typeIs, fun a e => ?_⟩
      cases e
      obtain ⟨o, n, e, c, hd, _⟩ := pl
      exact ⟨o, e, hd⟩
    · refine ⟨⟨o, I.kIn p o hk, hc⟩, fun a e => ?_⟩
      cases e
      exact ⟨o, I.kIn _ o hk, hd⟩
    · have z : ∃ o, s.heap.get? p = some o ∧ o.ExactDict := by
        rcases hk with ⟨kvs, hk⟩ | ⟨kvs, hk⟩
        · obtain ⟨_, _, _, _, o, _, _, e, ex, _⟩ := I.hok p _ hk
          exact ⟨o, e, ex⟩
        · obtain ⟨_, _, _, _, o, _, _, e, ex, _⟩ := I.hok p _ hk
          exact ⟨o, e, ex⟩
      obtain ⟨o, e, ex⟩ := z
      refine ⟨⟨o, e, ex.1⟩, fun a e2 => ?_⟩
      cases e2
      exact ⟨o, e, ex.2.1⟩
    · obtain ⟨o, _, _, _, e, ex, _⟩ := I.hok p _ hk
      refine ⟨⟨o, e, ex.1⟩, fun a e2 => ?_⟩
      cases e2
      exact ⟨o, e, ex.2.1⟩
  | _ => exact False.elim ty
def tBM0 (K : PySem.W.Frag) (T : String) (r : V → List V → Hp → VK → Prop) (to : TE) : TE := fun σ H Q => to σ H fun x H1 => tyV K T x H1 ∧ r x [] H1 Q
def tBM (K : PySem.W.Frag) (T : String) (r : V → List V → Hp → VK → Prop) (to : TE) (t : TA) : TE := fun σ H Q => to σ H fun x H1 => tyV K T x H1 ∧ t σ H1 fun xs H2 => r x xs H2 Q
variable {o e : Expr} {es : List Expr} {to : TE} {t : TA} {name : Str} {apos cpos : Pos} {T id : String} {r : V → List V → Hp → VK → Prop}
theorem pe_bm0 (pa : PlainAttrs T) (slot : Slot T name id) (hty : typeOf (.builtin id) = pure (.type "method_descriptor")) (hm : MtR X id r) (ho : PE X o to)
    (hbase : attributeBase o name X.env (eval o X.env) = eval o X.env := by rfl) (hline : (apos.endLine == cpos.line) = true := by rfl) : PE X (.Call (.Attribute o name apos) [] [] cpos) (tBM0 X.K T r to) := by
  intro pins s σ H Q I h
  refine wpAny_Call_method0_late hbase hline (thn (ho pins s σ H _ I h) fun v s1 ⟨x, H1, I1, r1, ty, q1⟩ => ?_)
  obtain ⟨h1, h2⟩ := tyV_is I1 r1 ty
  exact ⟨T, id, pa, slot, hty, h1, h2, Calls.callWith_builtin rfl (PySem.evalArgs_none (hm pins s1 σ H1 x [] v [] Q I1 r1 .nil q1))⟩
theorem pe_bm (pa : PlainAttrs T) (slot : Slot T name id) (hty : typeOf (.builtin id) = pure (.type "method_descriptor")) (hm : MtR X id r) (ho : PE X o to) (ha : PA X (e :: es) t)
    (hbase : attributeBase o name X.env (eval o X.env) = eval o X.env := by rfl)
    (hfew : ((backTo cpos (starEach (e :: es) X.env)).all (fun x => !x.1) && (backToKw cpos (keywordEach [] X.env)).all (fun x => x.1.isSome)
      && decide ((e :: es).length + ([] : List Keyword).length + (if ([] : List Keyword).isEmpty then 0 else 1) < 30)) = true := by rfl)
    (hline : (apos.endLine == cpos.line) = true := by rfl) (hs : starEach (e :: es) X.env = (false, eval e X.env) :: starEach es X.env := by rfl) (hplain : (backTo cpos (starEach es X.env)).any (·.1) = false := by rfl) :
    PE X (.Call (.Attribute o name apos) (e :: es) [] cpos) (tBM X.K T r to t) := by
  intro pins s σ H Q I h
  refine wpAny_Call_method_late hbase hfew hline rfl (thn (ho pins s σ H _ I h) fun v s1 ⟨x, H1, I1, r1, ty, q1⟩ => ?_)
  obtain ⟨h1, h2⟩ := tyV_is I1 r1 ty
  refine ⟨T, id, pa, slot, hty, h1, h2, ?_⟩
  have hA := ha cpos pins s1 σ H1 _ I1 q1
  rw [hs] at hA ⊢
  refine Calls.callWith_builtin (by show (false || (backTo cpos (starEach es X.env)).any (·.1)) = false; rw [hplain] <;> rfl) (Calls.evalArgs_plain ?_)
  exact thn hA fun us s2 ⟨vs, H2, I2, r2, q2⟩ => hm pins s2 σ H2 x vs v us Q I2 r1 r2 q2
/- xs.append(e), list.index on a module's tuple .. are MtR facts of 06m -/
end
end L2

namespace L2
open PySem PySem.Spec PyProof.Rows

def MtM (X : Cx) (id : String) (r : V → List V → Hp → VK → Prop) : Prop :=
  ∀ (pins : List (Addr × Obj)) (s : Shared) (σ : St) (H : Hp) (x : V) (xs : List V) (v : Value) (us : List Value) (Q : VK), Inv X pins σ H s → RelV x v → Vals xs us → r x xs H Q →
    wpAny (model X.prog X.w) X.A (call (.builtin id) (v :: us)) (EP X pins σ Q) X.xe s

/-! ### lists of values -/
theorem Vals.one : ∀ {x : V} {us : List Value}, Vals [x] us → ∃ u, us = [u] ∧ RelV x u
  | _, _, .cons r .nil => ⟨_, rfl, r⟩
theorem Vals.two : ∀ {x y : V} {us : List Value}, Vals [x, y] us → ∃ u v, us = [u, v] ∧ RelV x u ∧ RelV y v
  | _, _, _, .cons r (.cons q .nil) => ⟨_, _, rfl, r, q⟩
theorem Vals.zero : ∀ {us : List Value}, Vals [] us → us = []
  | _, .nil => rfl
theorem Vals.dropLast {xs : List V} {us : List Value} (h : Vals xs us) : Vals xs.dropLast us.dropLast := by
  induction h with
  | nil => exact .nil
  | cons r t ih =>
    cases t with
    | nil => exact .nil
    | cons q t' => exact .cons r ih
theorem Vals.rep {xs : List V} {us : List Value} (h : Vals xs us) : ∀ k : Nat, Vals (List.replicate k xs).flatten (List.replicate k us).flatten
  | 0 => .nil
  | k + 1 => by
    rw [List.replicate_succ, List.replicate_succ, List.flatten_cons, List.flatten_cons]
    exact Vals.append h (Vals.rep h k)
theorem erase_last {α : Type} (l : List α) : l.eraseIdx (l.length - 1) = l.dropLast := by
  induction l with
  | nil => rfl
  | cons a r ih =>
    cases r with
    | nil => rfl
    | cons b r =>
      have e : (a :: b :: r).length - 1 = ((b :: r).length - 1) + 1 := by
        have h1 : (a :: b :: r).length = r.length + 2 := rfl
        have h2 : (b :: r).length = r.length + 1 := rfl
        omega
      rw [e, List.eraseIdx_cons_succ, ih]
      all_goals rfl
theorem foldl_rep (its : List Value) : ∀ (k : Nat) (acc : List Value),
    List.foldl (fun x1 x2 => x1 ++ x2) acc.toArray (List.replicate k its.toArray) = (acc ++ (List.replicate k its).flatten).toArray
  | 0, acc => by simp
  | k + 1, acc => by
    have e : acc.toArray ++ its.toArray = (acc ++ its).toArray := by simp
    have e2 : (acc ++ its) ++ (List.replicate k its).flatten = acc ++ (List.replicate (k + 1) its).flatten := by
      rw [List.replicate_succ, List.flatten_cons, List.append_assoc]
    rw [← e2, ← foldl_rep its k (acc ++ its), ← e, List.replicate_succ, List.foldl_cons]

section
variable {X : Cx} {pins : List (Addr × Obj)} {σ : St} {H : Hp} {s : Shared} {l b : Addr} {xs ys zs : List V}

/-! ### the two steps: a tracked list is rewritten, a new list is laid -/
theorem Inv.lset {its its' : List Value} {n : Nat} {f : Array Value → Array Value} {t' : Nat} (I : Inv X pins σ H s) (hH : H l = some (.lst xs))
    (e : s.heap.get? l = some { cls := .type "list", data := .seq its.toArray n }) (hf : f its.toArray = its'.toArray) (hv : Vals ys its') (hz : ys.length ≤ sizeLine) :
    Inv X pins σ (upd H l (.lst ys)) { s with heap := s.heap.update l (Obj.mapSeq f), toks := t' } := by
  have q := PySem.IsL.update e f
  rw [hf] at q
  refine I.write (x := l) (e := l) (by rw [hH]; exact trivial) (.inl rfl) (fun b' u hb hu => (Heap.get?_update_other s.heap (Obj.mapSeq f) (Ne.symm hb)).trans hu) ⟨_, q⟩ ?_
  exact ⟨hz, its', _, hv, q⟩
theorem Inv.lnew {its : List Value} {t' : Nat} (I : Inv X pins σ H s) (hv : Vals ys its) (hz : ys.length ≤ sizeLine) :
    Inv X pins σ (upd H s.heap.objs.size (.lst ys)) { s with heap := s.heap.push { cls := .type "list", data := .seq its.toArray }, toks := t' } :=
  I.laid (fun _ _ q => Heap.get?_push_of_some _ q) (Nat.le_refl _) ⟨hz, its, 0, hv, Heap.get?_push_size _ rfl⟩
theorem Inv.fresh (I : Inv X pins σ H s) : H s.heap.objs.size = none := I.hok.fresh (Nat.le_refl _)
theorem Inv.lstM (I : Inv X pins σ H s) (hH : H l = some (.lst xs)) : xs.length ≤ sizeLine ∧ ∃ (its : List Value) (n : Nat), Vals xs its ∧ xs.length = its.length ∧ s.heap.get? l = some { cls := .type "list", data := .seq its.toArray n } := by
  obtain ⟨z, its, n, r, e⟩ := I.hok l _ hH
  exact ⟨z, its, n, r, r.length, e⟩

theorem notLongL {n : Nat} (h : n ≤ sizeLine) : Builtin.List.listTooLong n = false := by
  unfold Builtin.List.listTooLong
  exact decide_eq_false (by omega)
end

section
variable {X : Cx}

/-! ### methods -/
def rAppend : V → List V → Hp → VK → Prop := fun x vs H Q => ∃ l xs y, x = .ref l ∧ vs = [y] ∧ H l = some (.lst xs) ∧ xs.length < sizeLine ∧ Q .non (upd H l (.lst (xs ++ [y])))
theorem mt_append : MtM X "list.append" rAppend := by
  intro pins s σ H x vs v us Q I rx rv h
  obtain ⟨l, xs, y, rfl, rfl, hH, hz, q⟩ := h
  cases rx
  obtain ⟨u, rfl, ru⟩ := rv.one
  obtain ⟨z, its, n, r, hl, e⟩ := I.lstM hH
  refine call_meets F.slot_list_append ⟨_, e, rfl⟩ F.entry_list_append (F.args_list_append_2 _ _) (PySem.list_append l its.toArray n u (by rw [List.size_toArray]; omega)) ⟨e, ?_⟩
  refine ⟨.non, _, I.lset (its' := its ++ [u]) hH e (by simp) (r.append (.cons ru .nil)) ?_, rfl, q⟩
  rw [List.length_append, List.length_singleton]
  omega

def rPop : V → List V → Hp → VK → Prop := fun x vs H Q => ∃ l xs y, x = .ref l ∧ vs = [] ∧ H l = some (.lst xs) ∧ xs[xs.length - 1]? = some y ∧ Q y (upd H l (.lst xs.dropLast))
theorem mt_pop : MtM X "list.pop" rPop := by
  intro pins s σ H x vs v us Q I rx rv h
  obtain ⟨l, xs, y, rfl, rfl, hH, hy, q⟩ := h
  cases rx
  have hus := rv.zero
  subst hus
  obtain ⟨z, its, n, r, hl, e⟩ := I.lstM hH
  obtain ⟨u, hu, ru⟩ := r.get hy
  have hy' : its.toArray[its.toArray.size - 1]? = some u := by
    show its.toArray[its.length - 1]? = some u
    rw [← Array.getElem?_toList, ← hl]
    exact hu
  refine call_meets F.slot_list_pop ⟨_, e, rfl⟩ F.entry_list_pop (F.args_list_pop_1 _) (MeetsSeq.list_pop_last l its.toArray n u hy' (by rw [List.size_toArray]; omega)) ⟨e, ?_⟩
  refine ⟨y, _, I.lset (its' := its.dropLast) hH e ?_ r.dropLast ?_, ru, q⟩
  · show its.toArray.eraseIdxIfInBounds (its.toArray.size - 1) = its.dropLast.toArray
    rw [List.size_toArray, List.eraseIdxIfInBounds_toArray, erase_last]
  · rw [List.length_dropLast]
    omega

def rClear : V → List V → Hp → VK → Prop := fun x vs H Q => ∃ l xs, x = .ref l ∧ vs = [] ∧ H l = some (.lst xs) ∧ Q .non (upd H l (.lst []))
theorem mt_clear : MtM X "list.clear" rClear := by
  intro pins s σ H x vs v us Q I rx rv h
  obtain ⟨l, xs, rfl, rfl, hH, q⟩ := h
  cases rx
  have hus := rv.zero
  subst hus
  obtain ⟨z, its, n, r, hl, e⟩ := I.lstM hH
  refine call_meets F.slot_list_clear ⟨_, e, rfl⟩ F.entry_list_clear (F.args_list_clear_1 _) (AutoSeq1.list_clear_list_0 l its.toArray n (by rw [List.size_toArray]; omega)) ⟨e, ?_⟩
  exact ⟨.non, _, I.lset (its' := []) (ys := []) hH e rfl .nil (Nat.zero_le _), rfl, q⟩

/-! ### list + list, list += list, list * int -/
def rCat : R2 := fun x y H Q => ∃ l b xs zs, x = .ref l ∧ y = .ref b ∧ H l = some (.lst xs) ∧ H b = some (.lst zs) ∧ xs.length + zs.length ≤ sizeLine ∧ ∀ p, H p = none → Q (.ref p) (upd H p (.lst (xs ++ zs)))
theorem op_cat : OpR X (binaryOp .Add) rCat := by
  intro pins s σ H x y v u Q I rx ry h
  obtain ⟨l, b, xs, zs, rfl, rfl, hH, hB, hz, q⟩ := h
  cases rx
  cases ry
  obtain ⟨z, its, n, r, hl, e⟩ := I.lstM hH
  obtain ⟨z2, its2, n2, r2, hl2, e2⟩ := I.lstM hB
  refine PySem.P.add_list e e2 ?_ (by rw [List.size_toArray, List.size_toArray]; omega)
  have ea : its.toArray ++ its2.toArray = (its ++ its2).toArray := by simp
  rw [ea]
  exact ⟨.ref _, _, I.lnew (t' := s.toks) (r.append r2) (by rw [List.length_append]; omega), rfl, q _ I.fresh⟩
/-- a list times an int (a negative one is nothing) -/
def rRep : R2 := fun x y H Q => ∃ l k xs, x = .ref l ∧ y = .int k ∧ H l = some (.lst xs) ∧ -(2 ^ 63) ≤ k ∧ k < 2 ^ 63 ∧ xs.length * k.toNat ≤ sizeLine ∧
  ∀ p, H p = none → Q (.ref p) (upd H p (.lst (List.replicate k.toNat xs).flatten))
theorem len_rep {α : Type} (xs : List α) (k : Nat) : (List.replicate k xs).flatten.length = k * xs.length := by
  induction k with
  | zero => simp
  | succ k ih => rw [List.replicate_succ, List.flatten_cons, List.length_append, ih, Nat.succ_mul, Nat.add_comm]
theorem op_rep : OpR X (binaryOp .Mult) rRep := by
  intro pins s σ H x y v u Q I rx ry h
  obtain ⟨l, k, xs, rfl, rfl, hH, h1, h2, hz, q⟩ := h
  cases rx
  obtain ⟨t, rfl⟩ := ry
  obtain ⟨z, its, n, r, hl, e⟩ := I.lstM hH
  have hlen : its.toArray.size * k.toNat ≤ sizeLine := by rw [List.size_toArray, ← hl]; exact hz
  have hcap : ¬ its.toArray.size * k.toNat > (2 ^ 63 - 1) / 8 := by
    have : (sizeLine : Nat) ≤ (2 ^ 63 - 1) / 8 := by decide
    omega
  have hfit : ¬ (!Builtin.List.listFitsIndex k) = true := by
    rw [fitsIndex_both h1 h2]
    exact Bool.false_ne_true
  have hlong : ¬ Builtin.List.listTooLong (its.toArray.size * k.toNat) = true := by
    rw [notLongL hlen]
    exact Bool.false_ne_true
  have hnew : List.foldl (fun x1 x2 => x1 ++ x2) #[] (List.replicate (if its.toArray.isEmpty = true then 0 else k.toNat) its.toArray) = (List.replicate k.toNat its).flatten.toArray := by
    have f0 : ∀ m : Nat, List.foldl (fun x1 x2 => x1 ++ x2) #[] (List.replicate m its.toArray) = (List.replicate m its).flatten.toArray := fun m => by
      have := foldl_rep its m []
      rw [List.nil_append] at this
      exact this
    rw [f0]
    cases its with
    | nil => simp
    | cons a r' => rw [if_neg (by simp)]
  refine wpAny_binaryOp_repeat_ref (T := "list") (U := "int") (by decide) ⟨_, e, rfl⟩ (fun s' => typeIs_int s' k t) noFill_list_mul F.fills_int_mul F.slot_int_rmul repeat_list F.slot_int_index.lookup
    (call_meets F.slot_int_rmul (typeIs_int s k t) F.entry_int_rmul (F.args_int_rmul_2 _ _) (int___rmul___int_list k t l its.toArray n)
      ⟨e, rfl, ⟨_, e, rfl⟩, call_meets F.slot_list_mul ⟨_, e, rfl⟩ F.entry_list_mul (F.args_list_mul_2 _ _) (AutoListH.list___mul___list_int_3 l its.toArray n k t hfit hcap hlong) ⟨e, ?_⟩⟩)
  rw [hnew]
  exact ⟨.ref _, _, I.lnew (t' := s.toks) (r.rep k.toNat) (by rw [len_rep, Nat.mul_comm]; exact hz), rfl, q _ I.fresh⟩

/-! ### del xs[i] -/
end

/-! ### xs[a:b] = ys -/
section
variable {prog : Program} {w : World} {A : Around} {E : Value → Shared → Prop} {s : Shared}
end

section
variable {X : Cx}
end
end L2

namespace Att
open PySem PySem.W PySem.Calls PyProof.Rows

/-! ### the script -/
theorem ints_of_wellAll {P : Params} {h : Heap} : ∀ (ns : List Int) (vs : List Value), WellAll P h vs (ns.map WData.int) → IntsAre vs ns := by
  intro ns
  induction ns with
  | nil =>
    intro vs w
    rw [List.map_nil] at w
    cases w
    exact .nil
  | cons n ns ih =>
    intro vs w
    rw [List.map_cons] at w
    cases w with
    | cons a b =>
      cases a
      exact .cons _ _ (ih _ b)

theorem script_of {l : OpenLaw} {n : Nat} (hn : l.most = some n) {P : Params} {h : Heap} {args : List WData} {vals : List Value}
    (hpre : l.row.toRowW.claim.pre args = true) (hwl : WellAll P h vals args) :
    ∃ a vs ns, vals = [Value.ref a] ∧ args = [WData.list (ns.map WData.int)] ∧ h.get? a = some { cls := .type "list", data := .seq vs.toArray } ∧ IntsAre vs ns ∧ ns.length ≤ n := by
  have hsh : WShape.hasAll [] args [.list .int] = true := (pre_splitW hpre).1
  have hc : l.pre.holds [] { args := args } = true := (pre_splitW hpre).2
  obtain ⟨d, r, rfl, h1, h2⟩ := hasAllW_cons hsh
  obtain rfl := hasAllW_nil h2
  obtain ⟨xs, rfl, h3⟩ := hasW_list h1
  obtain ⟨ns, rfl⟩ := items_int h3
  have hlen : ns.length ≤ n := by
    unfold OpenLaw.pre at hc
    have h4 : (WTm.not (.lt (.lit (.int (n : Int))) (.len (.arg 0)))).holds [] { args := [.list (ns.map .int)] } = true := by
      have h4 := (holds_andW hc).1
      rw [hn] at h4
      exact h4
    have h5 := condW_of h4 (w_not (w_lt w_lit (w_len_list (w_arg rfl))))
    rw [List.length_map] at h5
    refine Nat.le_of_not_lt fun q => ?_
    have q' : (n : Int) < ((ns.length : Nat) : Int) := by omega
    first
      | (rw [decide_eq_true q'] at h5; exact absurd h5 (by decide))
      | (simp at h5; omega)
  cases hwl with
  | cons w1 w2 =>
    cases w2
    cases w1 with
    | list ho hall => exact ⟨_, _, ns, rfl, rfl, ho, ints_of_wellAll ns _ hall, hlen⟩

theorem post_true (l : OpenLaw) (args : List WData) : l.row.toRowW.claim.post args (.bool true) args = true :=
  postW_of (r := l.row.toRowW) (X := (true == true))
    (show WShape.has [] (.bool true) .bool = true by first | rfl | decide | simp [WShape.has, WShape.arms, WShape.armsAll])
    (show (WTm.eq .res (.lit (.bool true))).value [] { args := args, res := some (.bool true), after := args } = some (.bool (true == true)) from w_eq_bool (w_res rfl) w_lit) rfl

/-! ### the attachment: holds_open's last premise (the goal 'hc' behind k_head) from a wpAny of the law's body -/
/-- the same from a codeAny of the CALL (for a layer whose function contracts speak of calls) -/
theorem attach_call {l : OpenLaw} {n : Nat} {q : Program} {loose : List Str} {XP : (Str → Option Value) → Heap → Prop} {YP : World → Heap → Prop} {d : DefRec}
    (hn : l.most = some n) (hdf : d.params.defaults = [])
    (call : ∀ (w : World) (s₀ s₁ : Shared) (mg mb : Str → Option Value) (fa : Addr) (o : Obj) (pm cd doc : Value) (a : Addr) (vs : List Value) (ns : List Int),
      Ground q loose [] XP w s₀ mg mb s₁.heap → YP w s₁.heap →
      s₁.heap.get? fa = some o → o.data = .func (docDef d.name d.params d.body d.scope pm cd doc) → s₁.heap.CodeRec cd d.name → mg d.name = some (.ref fa) →
      s₁.heap.get? a = some { cls := .type "list", data := .seq vs.toArray } → IntsAre vs ns → ns.length ≤ n → s₁.gens = #[] →
      codeAny (model l.prog w) callerA (.call (.ref fa) ⟨[.ref a], []⟩) (fun r s' => r = .ok (.ret (.bool true)) ∧ OldK s₁.heap s'.heap ∧ s'.os = s₁.os ∧ AllBare s'.gens) s₁) :
    WalkO q loose XP YP l.row.toRowW d [] (fun f vs => PySem.call f vs) := by
  intro w s₀ s₁ mg mb G Y fa o pm cd doc dV kV ho hd hcd hD hmg hg args vals as hpre hlay hrd hwl hlo
  obtain rfl : dV = .none := Dflts.none hD hdf
  obtain rfl : kV = .none := Dflts.noKw hD
  obtain ⟨a, vs, ns, rfl, rfl, hobj, hints, hlen⟩ := script_of hn hpre hwl
  refine enter_call (codeAny_mono (call w s₀ s₁ mg mb fa o pm cd doc a vs ns G Y ho (fd_plain hd) hcd hmg hobj hints hlen hg) fun r s' hq => ?_)
  obtain ⟨rfl, h2, h3, h4⟩ := hq
  exact ⟨.inl ⟨.bool true, .bool true, [], rfl, fun _ => rfl, .bool true, post_true l _, fun _ => ⟨List.Pairwise.nil, fun _ hm => (nomatch hm)⟩⟩, h2, h3, h4⟩

/-! ### rules over ANY heap (no ledger) from facts about the written part K: the library's own take a ledger (News) for what they write -/
section
variable {prog : Program} {w : World} {A : Around} {E : Value → Shared → Prop} {s : Shared} {K : Frag}

/-! the whole heap as the ledger: makes every rule that writes through a ledger a rule over any heap -/
end
end Att

namespace L2
open PySem PySem.Spec PyProof.Rows

theorem vals_ints : ∀ {vs : List Value} {ns : List Int}, IntsAre vs ns → Vals (ns.map V.int) vs
  | _, _, .nil => .nil
  | _, _, .cons n t h => .cons ⟨t, rfl⟩ (vals_ints h)

/-- nothing is tracked but the script, known to the object (or it is an object of the module) -/
def Only (H : Hp) : Prop := ∀ b, H b = none ∨ ∃ o xs, H b = some (.frz o (.lst xs))

/-- THE HEAD: the law's promise, at the heap behind the top. F, the promise of the law's def, may use that base is part of the heap (so K.In base, base.Ns mainGlobals mg stand in Mod) -/
theorem law_call {P : Program} {w : World} {K : PySem.W.Frag} {mg mb : Str → Option Value} {CX : CXT} {k : Nat} {fa a : Addr} {fd : FuncData} {x : Str} {sp : Sp} {s₁ : Shared} {vs : List Value} {ns : List Int}
    (KX : K.In s₁.heap) (hns : s₁.heap.Ns mainGlobals mg) (hb : s₁.heap.Ns builtinsNs mb) (hbb : ∀ x : Str, x ≠ "__name__" → mb x = bootBuiltins x) (hlim : s₁.heap.NoLimit) (hg : s₁.gens = #[])
    (ha : s₁.heap.get? a = some { cls := .type "list", data := .seq vs.toArray }) (hi : IntsAre vs ns) (hl : ns.length ≤ sizeLine) (hr : Room k callerA)
    (F : ∀ base : Heap, K.In base → base.Ns mainGlobals mg → FnOk P w K mg base CX k fa fd [x] sp) (hbind : ∀ (s : Shared) (u : Value), BindsTo s fd ⟨[u], []⟩ [(x, u)])
    (hsp : ∀ H : Hp, Only H → SqL K H a (ns.map V.int) → sp [.ref a] H (fun v _ => v = .bl true) fun _ _ _ => False)
    (hCX : ∀ H e s', CX [] H s₁ (fun _ _ _ => False) e s' → False) :
    codeAny (model P w) callerA (.call (.ref fa) ⟨[.ref a], []⟩) (fun r s' => r = .ok (.ret (.bool true)) ∧ OldK s₁.heap s'.heap ∧ s'.os = s₁.os ∧ AllBare s'.gens) s₁ := by
  have rv := vals_ints hi
  have lenV := hi.length
  -- from an abstract heap in which nothing but the script may be tracked
  have core : ∀ H : Hp, Only H → SqL K H a (ns.map V.int) → HOk P w H s₁.heap → (∀ b, H b ≠ none → b = a) → (H a ≠ none → K.lookup a = none) →
      codeAny (model P w) callerA (.call (.ref fa) ⟨[.ref a], []⟩) (fun r s' => r = .ok (.ret (.bool true)) ∧ OldK s₁.heap s'.heap ∧ s'.os = s₁.os ∧ AllBare s'.gens) s₁ := by
    intro H hO hS hok hA hK
    have base_of : ∀ {b : Addr} {o : Obj}, s₁.heap.get? b = some o → H b = none → (hidT s₁.heap H).get? b = some o := fun e n => hidT_get e n
    have noA : ∀ {b : Addr} {o : Obj} {es : Array DictEntry} {ep : Nat}, s₁.heap.get? b = some o → o.data = .dict es ep → H b = none := fun {b o es ep} e d => by
      cases q : H b with
      | none => rfl
      | some u =>
        have e' : b = a := hA b (by rw [q]; simp)
        subst e'
        rw [ha] at e; cases e
        have d' : Data.seq vs.toArray _ = Data.dict es ep := d
        cases d'
    have nsK : ∀ {b : Addr} {m : Str → Option Value}, s₁.heap.Ns b m → (hidT s₁.heap H).Ns b m := fun {b m} ⟨o, es, ep, e, d, r⟩ => ⟨o, es, ep, base_of e (noA e d), d, r⟩
    have hKb : K.In (hidT s₁.heap H) := fun b o e => base_of (KX b o e) (by
      cases q : H b with
      | none => rfl
      | some u =>
        have e' : b = a := hA b (by rw [q]; simp)
        subst e'
        rw [hK (by rw [q]; simp)] at e; cases e)
    have hM : Mod K mg (hidT s₁.heap H) := ⟨hKb, nsK hns, ⟨mb, nsK hb, hbb⟩, let ⟨mc, h1, h2⟩ := hlim; ⟨mc, nsK h1, h2⟩⟩
    have e0 : Env0 P w K mg (hidT s₁.heap H) callerA [] s₁ H := ⟨rfl, hM, fun b o e => of_hidT e, Nat.le_of_eq (hidT_size _ _), trivial, fun b hb => absurd (show b ∈ ([] : List Addr) from hb) (by simp), hok, .of_eq hg⟩
    refine codeAny_mono ((F _ hKb (nsK hns)).run callerA [] s₁ H ⟨[.ref a], []⟩ [.ref a] [.ref a] _ _ hr e0 (hbind s₁ (.ref a)) (.cons rfl .nil) (hsp H hO hS)) fun r s' h => ?_
    cases r with
    | error e => exact (hCX H e s' h).elim
    | ok fl =>
      cases fl with
      | next => exact False.elim h
      | brk => exact False.elim h
      | cont => exact False.elim h
      | ret u =>
        obtain ⟨v, H', os, bare, un, hok', r', q⟩ := h
        have q' : v = .bl true := q
        subst q'
        obtain rfl : u = Value.bool true := r'
        refine ⟨rfl, OldK.of_keep fun b o e => ?_, os, bare⟩
        cases q : H b with
        | none => exact un.keep b o e q (by intro z; exact absurd (show b ∈ ([] : List Addr) from z) (by simp)) (by simp)
        | some u =>
          rcases hO b with z | ⟨ob, xs, z⟩
          · rw [q] at z; cases z
          · have z2 := un.frzs b ob _ z
            obtain ⟨e1, _⟩ := hok b _ z
            obtain ⟨e2, _⟩ := hok' b _ z2
            rw [e] at e1; cases e1
            exact e2
  cases hk : K.lookup a with
  | some o =>
    -- the script is one of the module's own objects
    have e := KX a o hk
    rw [ha] at e
    cases e
    refine core (fun _ => none) (fun _ => .inl rfl) (.inr ⟨_, vs.toArray, _, hk, rfl, rfl, rfl, by rw [List.size_toArray, lenV]; exact hl, by simpa using rv⟩) (fun b u z => by have z' : (none : Option HO) = some u := z; cases z') (fun b z => absurd rfl z) fun z => absurd rfl z
  | none =>
    refine core (fun b => if b = a then some (.frz { cls := .type "list", data := .seq vs.toArray } (.lst (ns.map V.int))) else none) (fun b => ?_) (.inl (.inr ⟨{ cls := .type "list", data := .seq vs.toArray }, if_pos rfl⟩)) (fun b u z => ?_) (fun b z => ?_) fun _ => hk
    · by_cases hb : b = a
      · exact .inr ⟨_, _, if_pos hb⟩
      · exact .inl (if_neg hb)
    · by_cases hb : b = a
      · have z' := (if_pos hb).symm.trans z
        cases z'
        subst hb
        exact ⟨ha, by rw [List.length_map]; exact hl, vs, _, rv, ha⟩
      · have z' := (if_neg hb).symm.trans z
        cases z'
    · by_cases hb : b = a
      · exact hb
      · exact absurd (if_neg hb) z
end L2

namespace L2
open PySem PySem.Spec PyProof.Rows

/-- the goal that k_head leaves (case hc), from the law's promise. F gives the function object fd (K's own) once, then the promise over every base -/
theorem walk_of {l : PySem.W.OpenLaw} {n k : Nat} {q : Program} {loose : List Str} {XP : (Str → Option Value) → Heap → Prop} {YP : World → Heap → Prop} {d : DefRec} {K : Params → PySem.W.Frag} {CX : World → CXT} {sp : World → Sp} {x : Str}
    (hn : l.most = some n) (hn2 : n ≤ sizeLine) (hdf : d.params.defaults = []) (hr : Room k callerA)
    (hY : ∀ (w : World) (h : Heap), YP w h → (K w.params).In h)
    (F : ∀ (w : World) (mg : Str → Option Value) (fa : Addr) (h : Heap), (K w.params).In h → h.Ns mainGlobals mg → mg d.name = some (.ref fa) →
      ∃ fd : FuncData, (∀ (s : Shared) (u : Value), BindsTo s fd ⟨[u], []⟩ [(x, u)]) ∧
        ∀ base : Heap, (K w.params).In base → base.Ns mainGlobals mg → FnOk l.prog w (K w.params) mg base (CX w) k fa fd [x] (sp w))
    (hsp : ∀ (w : World) (H : Hp) (a : Addr) (ns : List Int), ns.length ≤ n → Only H → SqL (K w.params) H a (ns.map V.int) → sp w [.ref a] H (fun v _ => v = .bl true) fun _ _ _ => False)
    (hCX : ∀ (w : World) (H : Hp) (s : Shared) (e : Value) (s' : Shared), CX w [] H s (fun _ _ _ => False) e s' → False) :
    PySem.W.WalkO q loose XP YP l.row.toRowW d [] (fun f vs => PySem.call f vs) := by
  refine Att.attach_call hn hdf fun w s₀ s₁ mg mb fa o pm cd doc a vs ns G Y ho hd hcd hmg hobj hints hlen hg => ?_
  have KX := hY w _ Y
  obtain ⟨fd, hb, hF⟩ := F w mg fa _ KX G.T.g hmg
  exact law_call KX G.T.g G.T.b G.T.builtins G.T.nolimit hg hobj hints (Nat.le_trans hlen hn2) hr hF hb (fun H hO hS => hsp w H a ns hlen hO hS) fun H e s' => hCX w H s₁ e s'
end L2

/- THE LAST THEOREM (shape; LID, My.* are yours):
   My.Adr: a structure of the addresses that your layer names (classes, functions); My.Txt K t: a structure (Prop) of the equations over K;
   My.txt_mk : {K} {implicit addresses ..} (e1 : nsIn K mainGlobals "law" = some (some (.ref f))) (e2 : K.lookup f = some ⟨oc, od, .func (fnOf "law" "law" params body scope dV kV doc pm an cdv ct), sl⟩) (e3 : codeIn K cdv "law" = true) .. : ∃ t, My.Txt K t

set_option maxRecDepth 100000 in
set_option maxHeartbeats 0 in
theorem PySem.Challenge.cw_LID_holds : PySem.Challenge.rw_LID.Holds := by
  w_on; o_law; k_head; (case hw => w_witness2)
  k_fill
  refine L2.walk_of (l := PySem.Challenge.rw_LID) (n := 63) (k := 40) (x := "script") (CX := fun w => ..) (sp := fun _ => My.sp_law) rfl (by decide) rfl ⟨rfl, by decide, by decide⟩ (fun w h Y => PySem.W.kIn_of Y) ?F ?S ?C
  case F =>
    intro w mg fa h KX G hmg
    have T : ∃ t, My.Txt (L2.KOf KX) t := by
      dsimp only [L2.KOf]                          -- K must stand as «<heap const> w.params» for k_is
      refine' My.txt_mk ?e1 ?e2 ?e3 ..
      (case e1 => PySem.W.k_is)                    -- in the order: a name -> its address -> its object -> its parts
      (case e2 => PySem.W.k_is)
      ..
    obtain ⟨t, T⟩ := T
    have e0 := hmg.symm.trans (PySem.W.mg_of KX G T.law)
    cases e0                                       -- fa is the law's own address
    exact ⟨_, fun s u => .of_eq rfl, fun base kb nb => My.law_fn T kb nb⟩     -- if «.of_eq rfl» comes too early: refine' ⟨_, ?b, fun base kb nb => My.law_fn T kb nb⟩; exact fun s u => .of_eq rfl
  case S => exact fun w H a ns hl hO hS => ..
  case C => exact ..
(the tactic k_is has no namespace: write k_is) -/

/-! SHORT WORDS over the layer: a def of the text, its body, what a loop and a test want. -/
namespace L2
open PySem PySem.Spec PyProof.Rows

/-! ### the text by places -/
/-- the j-th statement of a class's body -/
def inClass (s : Stmt) (j : Nat) : Stmt := match s with
  | .ClassDef _ _ _ body _ _ _ _ _ _ _ => body.getD j (.Pass ⟨0, 0, 0, 0⟩)
  | _ => .Pass ⟨0, 0, 0, 0⟩
def defArgs (s : Stmt) : Arguments := match s with
  | .FunctionDef _ a _ _ _ _ _ _ _ _ => a
  | _ => { posonlyargs := [], args := [], vararg := none, kwonlyargs := [], kw_defaults := [], kwarg := none, defaults := [] }
def defBody (s : Stmt) : List Stmt := match s with
  | .FunctionDef _ _ b _ _ _ _ _ _ _ => b
  | _ => []
def defScope (s : Stmt) : Scope := match s with
  | .FunctionDef _ _ _ _ _ _ sc _ _ _ => sc
  | _ => { kind := .function, names := [], isGenerator := false, isCoroutine := false }

/-! ### no exception leaves a def -/
abbrev CX0 : CXT := fun _ _ _ _ _ _ => False
abbrev E0 : XK := fun _ _ _ => False
theorem pass0 {X : Cx} : Passes CX0 X E0 := fun _ _ _ _ _ _ _ h => h.elim

/-! ### a def (or method) of the text as it stands behind the top -/
structure Fun (K : PySem.W.Frag) (x qual : Str) (st : Stmt) (f : Addr) (fd : FuncData) : Prop where
  ex : ∃ (oc : Value) (od : Option Addr) (kV doc pm : Value) (an : Option Addr) (cdv ct : Value) (osl : Array (Option Value)),
    fd = PySem.W.fnOf x qual (defArgs st) (defBody st) (defScope st) .none kV doc pm an cdv ct ∧ K.lookup f = some ⟨oc, od, .func fd, osl⟩ ∧ PySem.W.codeIn K cdv qual = true
  kp : PySem.W.keepIn K (.ref f) = true
section
variable {P : Program} {w : World} {K : PySem.W.Frag} {mg : Str → Option Value} {base : Heap}
/-- THE RULE for a def: its body as a term of rules, and the reading of that term -/
theorem Fun.ok {x qual : Str} {st : Stmt} {f : Addr} {fd : FuncData} {N ps : List Str} {k : Nat} {sp : Sp} (F : Fun K x qual st f fd) (S : FnScope N ps (defScope st)) (len : ∀ vs H Q E, sp vs H Q E → vs.length = ps.length)
    (hbody : ∀ (cdv : Value) (A : Around) (outer : List Env) (s : Shared) (H : Hp) (vs : List V) (Q : VK) (E : XK), Room k (A.deeper (envOfC qual (defScope st) s.heap.objs.size f cdv)) → sp vs H Q E →
      ∃ t, PSs (cxOf CX0 P w K mg base N qual (defScope st) f cdv A outer s H E).nox (defBody st) t ∧ t { nx := fun _ H' => Q .non H', rt := Q } (start N vs) H) : FnOk P w K mg base CX0 (k + 1) f fd ps sp := by
  obtain ⟨oc, od, kV, doc, pm, an, cdv, ct, osl, rfl, lk, hcd⟩ := F.ex
  refine fn_of lk hcd S len fun A outer s H vs Q E hr hsp => ?_
  obtain ⟨t, h, q⟩ := hbody cdv A outer s H vs Q E hr hsp
  exact ⟨t, h.nox, q⟩
/-- how its arguments bind (no defaults): h is «fun _ _ _ _ _ _ us hl => match us, hl with | [_, _], _ => rfl», one _ a parameter -/
theorem Fun.binds {x qual : Str} {st : Stmt} {f : Addr} {fd : FuncData} {ps : List Str} (F : Fun K x qual st f fd)
    (h : ∀ (kV doc pm : Value) (an : Option Addr) (cdv ct : Value) (us : List Value), us.length = ps.length → bindArgs (PySem.W.fnOf x qual (defArgs st) (defBody st) (defScope st) .none kV doc pm an cdv ct) ⟨us, []⟩ = pure (ps.zip us)) : Binds K fd ps [] := by
  obtain ⟨oc, od, kV, doc, pm, an, cdv, ct, osl, rfl, lk, hcd⟩ := F.ex
  exact .all (h kV doc pm an cdv ct)
theorem fun_mk {x qual : Str} {st : Stmt} {f : Addr} {oc : Value} {od an : Option Addr} {osl : Array (Option Value)} {kV doc pm cdv ct : Value} (l : K.lookup f = some ⟨oc, od, .func (PySem.W.fnOf x qual (defArgs st) (defBody st) (defScope st) .none kV doc pm an cdv ct), osl⟩)
    (c : PySem.W.codeIn K cdv qual = true) (k : PySem.W.keepIn K (.ref f) = true) : Fun K x qual st f (PySem.W.fnOf x qual (defArgs st) (defBody st) (defScope st) .none kV doc pm an cdv ct) := ⟨⟨oc, od, kV, doc, pm, an, cdv, ct, osl, rfl, l, c⟩, k⟩
end
theorem small1000 {n : Nat} (h : n ≤ 1000) : n < sizeLine := Nat.lt_of_le_of_lt h (by decide)

/-! ### expressions in short: the name that stands in the i-th slot -/
section
variable {X : Cx}
theorem pv (i : Nat) {x : Str} {pos : Pos} (hN : X.N[i]? = some x := by rfl) (hv : Vis X.env.scope x := by first | exact Or.inl rfl | exact Or.inr (Or.inl rfl) | exact Or.inr (Or.inr rfl)) (hd : (x == ("__debug__" : Str)) = false := by decide)
    (hcd : (x == ("__classdict__" : Str)) = false := by decide) : PE X (.Name x pos) (tVar i) := pe_var hN hv hd hcd
end

/-! ### tests -/
theorem iteF {A B : Prop} (h : B) : if false = true then A else B := by
  rw [if_neg Bool.false_ne_true]
  exact h
theorem iteT {A B : Prop} (h : A) : if true = true then A else B := by
  rw [if_pos rfl]
  exact h
/-! ### heaps -/
/-- all that was tracked is as it was -/
def Same (H H' : Hp) : Prop := ∀ b o, H b = some o → H' b = some o
theorem Same.refl (H : Hp) : Same H H := fun _ _ h => h
theorem Same.trans {H H1 H2 : Hp} (a : Same H H1) (b : Same H1 H2) : Same H H2 := fun c o h => b c o (a c o h)
theorem Same.free {H H' : Hp} (e : Same H H') {l : Addr} (h : H' l = Option.none) : H l = Option.none := by
  cases q : H l with
  | none => rfl
  | some o =>
    rw [e l o q] at h
    cases h
end L2

set_option Elab.async false
set_option linter.all false
set_option maxRecDepth 100000
namespace L2
open PySem PySem.Spec PyProof.Rows
/-! ### closures -/
def clOf (env : Env) : List (Str × NameKind) → List (Str × Addr) → List (Str × Addr)
  | [], cs => cs
  | (n, k) :: r, cs => if k == NameKind.free then clOf env r ((n, (env.cells.lookup n).getD 0) :: cs) else clOf env r cs
theorem closureFor_clOf {scope : Scope} {env : Env} (h : ∀ x ∈ scope.names, x.2 = .free → ∃ c, env.cells.lookup x.1 = some c) : closureFor scope env = pure (clOf env scope.names []) := by
  simp only [closureFor]
  have go : ∀ (names : List (Str × NameKind)) (cs : List (Str × Addr)), (∀ x ∈ names, x.2 = .free → ∃ c, env.cells.lookup x.1 = some c) →
      (forIn names cs fun x __s => if (x.snd == NameKind.free) = true then (do let a ← cellOf env x.fst; pure (ForInStep.yield ((x.fst, a) :: __s))) else pure (ForInStep.yield __s)) = (pure (clOf env names cs) : Sem _) := by
    intro names
    induction names with
    | nil => intro cs _; rfl
    | cons x r ih =>
      intro cs h
      obtain ⟨n, k⟩ := x
      rw [List.forIn_cons, clOf]
      have hr := fun cs => ih cs fun y hy => h y (List.mem_cons_of_mem _ hy)
      cases hk : k == NameKind.free with
      | false =>
        simp only [hk, Bool.false_eq_true, if_false]
        exact hr cs
      | true =>
        have hk' : k = .free := by simpa using hk
        obtain ⟨c, hc⟩ := h (n, k) List.mem_cons_self hk'
        simp only at hc
        simp only [if_true, cellOf, hc]
        exact hr _
  rw [go _ _ h]
  rfl
theorem clOf_lookup {env : Env} : ∀ (names : List (Str × NameKind)) (cs : List (Str × Addr)), (∀ x ∈ names, x.2 = .free → ∃ c, env.cells.lookup x.1 = some c) → (∀ x c, cs.lookup x = some c → env.cells.lookup x = some c) →
    ∀ x c, (clOf env names cs).lookup x = some c → env.cells.lookup x = some c
  | [], cs, _, hc => hc
  | (n, k) :: r, cs, h, hc => by
    rw [clOf]
    split
    · rename_i hk
      refine clOf_lookup r _ (fun y hy => h y (List.mem_cons_of_mem _ hy)) fun x c e => ?_
      obtain ⟨c', hc'⟩ := h (n, k) List.mem_cons_self (by simpa using hk)
      rw [List.lookup_cons] at e
      split at e
      · rename_i hx
        have hx' : x = n := by simpa using hx
        subst hx'
        simp only at hc'
        rw [hc'] at e ⊢
        exact e
      · exact hc x c e
    · exact clOf_lookup r cs (fun y hy => h y (List.mem_cons_of_mem _ hy)) hc
theorem clOf_has {env : Env} : ∀ (names : List (Str × NameKind)) (cs : List (Str × Addr)) (x : Str), ((x, NameKind.free) ∈ names ∨ ∃ c, cs.lookup x = some c) → ∃ c, (clOf env names cs).lookup x = some c
  | [], cs, x, h => by
    rcases h with h | h
    · cases h
    · exact h
  | (n, k) :: r, cs, x, h => by
    rw [clOf]
    split
    · rename_i hk
      refine clOf_has r _ x ?_
      by_cases e : x = n
      · subst e; exact .inr ⟨(env.cells.lookup x).getD 0, by simp [List.lookup_cons]⟩
      · have ne : (x == n) = false := by simpa using e
        rcases h with h | ⟨c, h⟩
        · rcases List.mem_cons.mp h with z | z
          · cases z; exact absurd rfl e
          · exact .inl z
        · exact .inr ⟨c, by rw [List.lookup_cons, ne]; exact h⟩
    · rename_i hk
      refine clOf_has r cs x ?_
      rcases h with h | h
      · rcases List.mem_cons.mp h with z | z
        · cases z; exact absurd rfl hk
        · exact .inl z
      · exact .inr h

/-! ### a comprehension's names -/
def srcS (src : List (Option Nat)) (σ : St) : St := src.map fun o => o.bind fun i => (σ[i]?).bind id
def SrcOk (scope : Scope) (XN : List Str) : List (Option Nat) → List Str → Prop
  | [], [] => True
  | none :: r, _ :: n => SrcOk scope XN r n
  | some i :: r, x :: n => XN[i]? = some x ∧ scope.names.lookup x = some .free ∧ SrcOk scope XN r n
  | _, _ => False
theorem SrcOk.len {scope : Scope} {XN : List Str} : ∀ {src : List (Option Nat)} {NC : List Str}, SrcOk scope XN src NC → src.length = NC.length
  | [], [], _ => rfl
  | none :: r, _ :: n, h => by have := SrcOk.len (src := r) (NC := n) h; simp [this]
  | some i :: r, _ :: n, h => by have := SrcOk.len (src := r) (NC := n) h.2.2; simp [this]
  | [], _ :: _, h => h.elim
  | none :: _, [], h => h.elim
  | some _ :: _, [], h => h.elim
theorem SrcOk.at {scope : Scope} {XN : List Str} : ∀ {src : List (Option Nat)} {NC : List Str} {j i : Nat} {x : Str}, SrcOk scope XN src NC → src[j]? = some (some i) → NC[j]? = some x → XN[i]? = some x ∧ scope.names.lookup x = some .free
  | [], [], _, _, _, _, h, _ => by simp at h
  | none :: r, _ :: n, 0, _, _, _, h, _ => by simp at h
  | none :: r, _ :: n, j + 1, i, x, h, h1, h2 => SrcOk.at (src := r) (NC := n) (j := j) h (by simpa using h1) (by simpa using h2)
  | some k :: r, y :: n, 0, i, x, h, h1, h2 => by
    have e1 : k = i := by simpa using h1
    have e2 : y = x := by simpa using h2
    subst e1 e2
    exact ⟨h.1, h.2.1⟩
  | some k :: r, _ :: n, j + 1, i, x, h, h1, h2 => SrcOk.at (src := r) (NC := n) (j := j) h.2.2 (by simpa using h1) (by simpa using h2)
  | [], _ :: _, _, _, _, h, _, _ => h.elim
  | none :: _, [], _, _, _, h, _, _ => h.elim
  | some _ :: _, [], _, _, _, h, _, _ => h.elim
structure CompOk (X : Cx) (scope : Scope) : Prop where
  kind : scope.kind = .function
  names : ∀ x ∈ scope.names, x.2 = .local → scope.names.lookup x.1 = some .local
  nocell : ∀ x ∈ scope.names, x.2 ≠ .cell
  free : ∀ x ∈ scope.names, x.2 = .free → X.env.kindOf x.1 = some .cell ∨ X.env.kindOf x.1 = some .free
theorem relabel_lookup {env : Env} : ∀ (names : List (Str × NameKind)) (x : Str),
    (names.map fun (n, k) => if (k == NameKind.free && env.scope.kind == .function && env.kindOf n == some .cell) then (n, NameKind.cell) else (n, k)).lookup x =
      (names.lookup x).map fun k => if (k == NameKind.free && env.scope.kind == .function && env.kindOf x == some .cell) then NameKind.cell else k
  | [], _ => rfl
  | (n, k) :: r, x => by
    have ih := relabel_lookup (env := env) r x
    show List.lookup x ((if (k == NameKind.free && env.scope.kind == .function && env.kindOf n == some .cell) = true then (n, NameKind.cell) else (n, k)) :: _) = _
    cases hx : x == n with
    | true =>
      have e : x = n := by simpa using hx
      subst e
      by_cases hc : (k == NameKind.free && env.scope.kind == .function && env.kindOf x == some .cell) = true
      · rw [if_pos hc, List.lookup_cons, List.lookup_cons]
        simp only [hx]
        show some NameKind.cell = some (if _ then _ else _)
        rw [if_pos hc]
      · rw [if_neg hc, List.lookup_cons, List.lookup_cons]
        simp only [hx]
        show some k = some (if _ then _ else _)
        rw [if_neg hc]
    | false =>
      by_cases hc : (k == NameKind.free && env.scope.kind == .function && env.kindOf n == some .cell) = true
      · rw [if_pos hc]; simp only [List.lookup_cons, hx]; exact ih
      · rw [if_neg hc]; simp only [List.lookup_cons, hx]; exact ih
theorem mem_lookup {names : List (Str × NameKind)} {x : Str} {k : NameKind} (h : names.lookup x = some k) : (x, k) ∈ names := PySem.mem_of_lookup h
/-- the context of a comprehension's block: C its own names, s, H ahead of C; ex the first iterator's records -/
def cxC (X : Cx) (scope : Scope) (NC : List Str) (ex : List Addr) (s : Shared) (H : Hp) : Cx :=
  { X with N := NC, s₀ := s, H₀ := H, env := compEnvC scope (clOf X.env scope.names []) s.heap.objs.size X.env, outer := X.stack, stack := X.stack, ex := ex, fn := fun _ => false, pn := [], xe := fun _ _ => False }
section
variable {X : Cx} {pins : List (Addr × Obj)} {σ : St} {H : Hp} {s : Shared} {scope : Scope} {NC : List Str} {ex : List Addr} {src : List (Option Nat)}
theorem CompOk.cells (c : CompOk X scope) (ok : X.Ok) : ∀ x ∈ scope.names, x.2 = .free → ∃ c, X.env.cells.lookup x.1 = some c := fun x hx e => ok.has x.1 (c.free x hx e)
theorem CompOk.kindC (c : CompOk X scope) {C : Addr} {x : Str} {k : NameKind} (h : (compEnvC scope (clOf X.env scope.names []) C X.env).kindOf x = some k) (hk : k = .cell ∨ k = .free) : scope.names.lookup x = some .free := by
  have h' : (relabel scope X.env).names.lookup x = some k := h
  unfold relabel at h'
  rw [relabel_lookup] at h'
  cases e : scope.names.lookup x with
  | none => rw [e] at h'; cases h'
  | some k' =>
    have nc := c.nocell _ (mem_lookup e)
    rw [e] at h'
    have h2 : (if (k' == NameKind.free && X.env.scope.kind == .function && X.env.kindOf x == some .cell) then NameKind.cell else k') = k := Option.some.inj h'
    by_cases hf : k' = .free
    · rw [hf]
    · have hb : (k' == NameKind.free) = false := by simpa using hf
      rw [hb, Bool.false_and, Bool.false_and, if_neg Bool.false_ne_true] at h2
      rcases hk with z | z
      · rw [h2] at nc; exact absurd z nc
      · rw [h2] at hf; exact absurd z hf
theorem comp_ok (I : Inv X pins σ H s) (c : CompOk X scope) (hf : ∀ b ∈ ex, FpOk X pins H b) (hlt : ∀ b ∈ ex, b < s.heap.objs.size) : (cxC X scope NC ex s H).Ok where
  mod := I.ok.mod
  kind := c.kind
  glob := I.ok.glob
  blt := I.ok.blt
  above := Nat.le_refl _
  inj := fun x y d h1 h2 => I.ok.inj x y d (clOf_lookup _ _ (c.cells I.ok) (fun _ _ z => by cases z) x d h1) (clOf_lookup _ _ (c.cells I.ok) (fun _ _ z => by cases z) y d h2)
  has := fun x hx => clOf_has _ _ x (.inl (mem_lookup (by rcases hx with h | h <;> exact c.kindC h (by simp))))
  cab := fun _ _ z => by cases z
  hd := I.ok.hd
  frames := I.ok.frames
  stk := .inl rfl
  exf := fun b hb => ⟨Nat.ne_of_lt (hlt b hb), fun x d e => (hf b hb).2.2.2.2.1 x d (clOf_lookup _ _ (c.cells I.ok) (fun _ _ z => by cases z) x d e)⟩
  bs := I.bs
  bsz := Nat.le_trans I.ok.bsz I.sz
  noex := fun b o e hb => by
    rcases (hf b hb).2.2.2.1 with z | z
    · exact I.ok.noex b o e z
    · exact absurd (Nat.lt_of_lt_of_le (Heap.lt_size e) (Nat.le_trans I.ok.bsz z)) (Nat.lt_irrefl _)
  exfs := fun b hb z => (List.mem_cons.mp (I.stkSub b z)).elim (hf b hb).2.1 (hf b hb).2.2.1
  funs := I.stack
  frf := I.stkFree
theorem comp_inv {h1 : Heap} {tk : Nat} {ob : Obj} (I : Inv X pins σ H s) (c : CompOk X scope) (hsrc : SrcOk scope X.N src NC) (hf : ∀ b ∈ ex, FpOk X pins H b) (hlt : ∀ b ∈ ex, b < s.heap.objs.size)
    (hns : h1.Ns s.heap.objs.size (fun _ => none)) (hsb : Heap.SameBut s.heap.objs.size (s.heap.push ob) h1) :
    Inv (cxC X scope NC ex s H) [] (srcS src σ) H { s with heap := h1, toks := tk } := by
  have old : ∀ b o, s.heap.get? b = some o → h1.get? b = some o := fun b o e => hsb.extBut b o (Nat.ne_of_lt (Heap.lt_size e)) (Heap.get?_push_of_some _ e)
  have cl : ∀ x d, (clOf X.env scope.names []).lookup x = some d → X.env.cells.lookup x = some d := fun x d => clOf_lookup _ _ (c.cells I.ok) (fun _ _ z => by cases z) x d
  have cellK : ∀ d v, s.heap.IsCell d v → h1.IsCell d v := fun d v ⟨o, ho, hd⟩ => ⟨o, old d o ho, hd⟩
  refine ⟨comp_ok I c hf hlt, rfl, I.bare, Un.kept old, ⟨_, hns, fun j x v e1 e2 e3 => ?_⟩, fun x d e => ?_, I.hok.fresh (Nat.le_refl _), fun x d e => I.freeC x d (cl x d e), fun p hp => absurd (show p ∈ ([] : List (Addr × Obj)) from hp) (by simp), I.hok.kept old, ?_⟩
  · have e2' : (srcS src σ)[j]? = some (some v) := e2
    unfold srcS at e2'
    rw [List.getElem?_map] at e2'
    cases ej : src[j]? with
    | none => rw [ej] at e2'; cases e2'
    | some o =>
      rw [ej] at e2'
      cases o with
      | none => cases e2'
      | some i =>
        have e4 : (σ[i]?).bind id = some v := Option.some.inj e2'
        have e5 : σ[i]? = some (some v) := by
          cases q : σ[i]? with
          | none => rw [q] at e4; cases e4
          | some z => rw [q] at e4; exact congrArg some e4
        obtain ⟨hN, hfr⟩ := hsrc.at ej e1
        have hk := c.free _ (mem_lookup hfr) rfl
        obtain ⟨m, hn, hl⟩ := I.loc
        obtain ⟨u, r, l⟩ := hl i x v hN e5 (hk.elim (fun z => .inr (.inl z)) (fun z => .inr (.inr z)))
        refine ⟨u, r, .inr ⟨?_, ?_⟩⟩
        · show (relabel scope X.env).names.lookup x = _ ∨ (relabel scope X.env).names.lookup x = _
          unfold relabel
          rw [relabel_lookup, hfr]
          by_cases z : (NameKind.free == NameKind.free && X.env.scope.kind == .function && X.env.kindOf x == some .cell) = true
          · left; simp only [Option.map_some, z, if_true]
          · right; simp only [Option.map_some, z]; rfl
        · obtain ⟨d, hd⟩ := clOf_has (env := X.env) scope.names [] x (.inl (mem_lookup hfr))
          refine ⟨d, hd, ?_⟩
          rcases l with ⟨l, _⟩ | ⟨_, d', e, z⟩
          · exfalso; rcases hk with z | z <;> (rw [l] at z; cases z)
          · rw [cl x d hd] at e; cases e; exact cellK d _ z
  · obtain ⟨v, z⟩ := I.cell x d (cl x d e)
    exact ⟨v, cellK d v z⟩
  · show (srcS src σ).length = NC.length
    unfold srcS; rw [List.length_map]; exact hsrc.len
/-- behind the block -/
theorem comp_back {H' : Hp} {σ' : St} {s' : Shared} {h2 : Heap} {pins' : List (Addr × Obj)} (I : Inv X pins σ H s) (hf : ∀ b ∈ ex, FpOk X pins H b) (J : Inv (cxC X scope NC ex s H) pins' σ' H' s')
    (hsb : Heap.SameBut s.heap.objs.size s'.heap h2) : Inv X pins σ H' { s' with heap := h2 } := by
  have up : ∀ b o, b ≠ s.heap.objs.size → s'.heap.get? b = some o → h2.get? b = some o := fun b o hb e => hsb.extBut b o hb e
  have ne : ∀ b o, s.heap.get? b = some o → b ≠ s.heap.objs.size := fun b o e => Nat.ne_of_lt (Heap.lt_size e)
  have u := J.base
  refine I.call' (ch := ex) (show s'.os = s.os from J.os) ⟨fun b o e n hb hx => up b o (ne b o e) (u.keep b o e n hb hx), fun b o e n hb hx => ?_, u.free, fun b o e hx => ?_, u.tups, u.frzs, u.tbls⟩ ?_ J.bare fun b hb => ?_
  · obtain ⟨sl, q⟩ := u.slot b o e n hb hx
    exact ⟨sl, up b _ (ne b o e) q⟩
  · obtain ⟨o', q⟩ := u.there b o e hx
    exact ⟨o', up b o' (ne b o e) q⟩
  · intro b o e
    have nC : ∀ b o, H' b = some o → b ≠ s.heap.objs.size := fun b o e z => by
      have := J.free
      rw [z] at e
      have e' : H' s.heap.objs.size = none := this
      rw [e'] at e; cases e
    refine (J.hok b o e).stay (fun d v hd q => up d v ?_ q) (fun _ q => q) fun _ _ q => q
    rcases hd with z | z
    · rw [z]; exact nC b o e
    · exact nC d _ z
  · obtain ⟨_, f1, _, f3, f4, f5⟩ := hf b hb
    exact ⟨f3, f1, f4, f5⟩
end
/-! ### the tests of a clause -/
def PTs (X : Cx) (ifs : List Expr) (t : TT) : Prop :=
  ∀ (pins : List (Addr × Obj)) (s : Shared) (σ : St) (H : Hp) (Q : Bool → Hp → Prop), Inv X pins σ H s → t σ H Q →
    wpAny (model X.prog X.w) X.A (forIn ifs true fun c r => if r = true then do let ok ← isTrue c X.env (eval c X.env); pure (ForInStep.yield ok) else pure (ForInStep.yield r)) (TP X pins σ Q) X.xe s
def tYes : TT := fun _ H Q => Q true H
theorem pts_nil {X : Cx} : PTs X [] tYes := fun _ _ _ H _ I h => wpAny_tests_nil ⟨H, I, h⟩
theorem pts_one {X : Cx} {c : Expr} {t : TT} (h : PT X c t) : PTs X [c] t := fun pins s σ H Q I q => wpAny_tests_one (h pins s σ H Q I q)
/-! ### a list comprehension of one clause -/
def LCW (J : It) (g : TG) (tt : TT) (te : TE) (D : Addr) (Q : VK) (σ : St) (H : Hp) : Prop :=
  ∃ W : Nat → Nat → St → Hp → Prop, (∃ m, W 0 m σ H) ∧ ∀ i m σ2 H2, W i m σ2 H2 →
    (J.stop i H2 ∧ Q (.ref D) H2) ∨
    (J.go i H2 ∧ ∃ N : St → Hp → Prop, (∀ σ' H', N σ' H' → ∃ m', m' < m ∧ W (i + 1) m' σ' H') ∧ ∀ x H3, J.yld i H2 x H3 → g x σ2 H3 fun σ4 H4 => tt σ4 H4 fun b H5 =>
      if b = true then te σ4 H5 fun v H6 => ∃ ys, H6 D = some (.lst ys) ∧ ys.length < sizeLine ∧ N σ4 (upd H6 D (.lst (ys ++ [v]))) else N σ4 H5)
def tLC (wi : TI) (g : TG) (tt : TT) (te : TE) (src : List (Option Nat)) : TE := fun σ H Q => wi σ H fun J H1 => ∀ D, H1 D = none → LCW J g tt te D Q (srcS src σ) (upd H1 D (.lst []))
section
variable {X : Cx} {elt iter tg : Expr} {ifs : List Expr} {scope : Scope} {pos : Pos} {wi : TI} {g : TG} {tt : TT} {te : TE} {src : List (Option Nat)} {NC : List Str}
/-- the block: from the first iterator on -/
theorem comp_block {pins : List (Addr × Obj)} {σ : St} {s2 : Shared} {H2 : Hp} {it : Addr} {fp : List Addr} {tn : Nat → Heap → Prop} {J : It} {RR : Value → Addr → Result → Shared → Prop} {E : Value → Shared → Prop} {Q : VK}
    (hc : X.calm = true) (c : CompOk X scope) (hsrc : SrcOk scope X.N src NC) (I2 : Inv X pins σ H2 s2) (T : Turn X.prog X.w X.K tg J fp it tn) (st2 : tn 0 s2.heap) (f2 : ∀ b ∈ fp, FpOk X pins H2 b)
    (hg : ∀ s H, PG (cxC X scope NC fp s H) tg g) (ht : ∀ s H, PTs (cxC X scope NC fp s H) ifs tt) (he : ∀ s H, PE (cxC X scope NC fp s H) elt te)
    (hW : ∀ D, H2 D = none → ∃ W : Nat → Nat → St → Hp → Prop, (∃ m, W 0 m (srcS src σ) (upd H2 D (.lst []))) ∧ ∀ i m σ2 H2, W i m σ2 H2 →
      (J.stop i H2 ∧ Q (.ref D) H2) ∨
      (J.go i H2 ∧ ∃ N : St → Hp → Prop, (∀ σ' H', N σ' H' → ∃ m', m' < m ∧ W (i + 1) m' σ' H') ∧ ∀ x H3, J.yld i H2 x H3 → g x σ2 H3 fun σ4 H4 => tt σ4 H4 fun b H5 =>
        if b = true then te σ4 H5 fun v H6 => ∃ ys, H6 D = some (.lst ys) ∧ ys.length < sizeLine ∧ N σ4 (upd H6 D (.lst (ys ++ [v]))) else N σ4 H5))
    (hRR : ∀ D s3 H3 σ' H' s', Inv X pins σ H3 s3 → (∀ b ∈ fp, FpOk X pins H3 b) → Inv (cxC X scope NC fp s3 H3) [] σ' H' s' → Q (.ref D) H' → RR (.ref D) s3.heap.objs.size (.ok .next) s') :
    wpAny (model X.prog X.w) X.A (newList []) (fun acc s₃ => wpAny (model X.prog X.w) X.A (newFunctionEnv scope X.env.globals (clOf X.env scope.names []) [] X.env.qual none .none (some X.env)) (fun cenv s₄ =>
      codeAny (model X.prog X.w) X.A (.compStart (.ListComp elt [⟨tg, iter, ifs, 0⟩] scope pos) 0 (.ref it) acc { cenv with scope := relabel scope X.env }) (RR acc cenv.locals) s₄) E s₃) E s2 := by
  obtain ⟨W, ⟨m0, w0⟩, turn⟩ := hW s2.heap.objs.size I2.fresh
  have I3 : Inv X pins σ (upd H2 s2.heap.objs.size (.lst [])) { s2 with heap := s2.heap.push { cls := .type "list", data := .seq ([] : List Value).toArray } } := I2.lnew (its := []) (t' := s2.toks) .nil (Nat.zero_le _)
  have lt2 : ∀ b ∈ fp, b < s2.heap.objs.size := fun b hb => by
    obtain ⟨o, e, _⟩ := T.obj _ _ st2 b hb
    exact Heap.lt_size e
  have f3 : ∀ b ∈ fp, FpOk X pins (upd H2 s2.heap.objs.size (.lst [])) b := fun b hb => ⟨by rw [upd_ne (Nat.ne_of_lt (lt2 b hb))]; exact (f2 b hb).1, (f2 b hb).2⟩
  refine wpAny_newObj_type ?_
  suffices key : ∀ s3 : Shared, Inv X pins σ (upd H2 s2.heap.objs.size (.lst [])) s3 → (∀ b o, s2.heap.get? b = some o → s3.heap.get? b = some o) →
      wpAny (model X.prog X.w) X.A (newFunctionEnv scope X.env.globals (clOf X.env scope.names []) [] X.env.qual none .none (some X.env)) (fun cenv s₄ =>
        codeAny (model X.prog X.w) X.A (.compStart (.ListComp elt [⟨tg, iter, ifs, 0⟩] scope pos) 0 (.ref it) (.ref s2.heap.objs.size) { cenv with scope := relabel scope X.env }) (RR (.ref s2.heap.objs.size) cenv.locals) s₄) E s3 from
    key _ I3 fun b o e => Heap.get?_push_of_some _ e
  intro s3 I3 up3
  have st3 : tn 0 s3.heap := T.keep _ _ _ st2 fun b _ o e => up3 b o e
  have lt3 : ∀ b ∈ fp, b < s3.heap.objs.size := fun b hb => by
    obtain ⟨o, e, _⟩ := T.obj _ _ st3 b hb
    exact Heap.lt_size e
  generalize hH3 : upd H2 s2.heap.objs.size (.lst []) = H3 at I3 f3 w0
  refine wpAny_newFunctionEnv c.nocell (by intro y hy; simp at hy) (fun h1 hns hsb => ?_) c.kind
  have I4 := comp_inv (src := src) (NC := NC) (ex := fp) (tk := s3.toks + ([] : List (Str × Value)).length) I3 c hsrc f3 lt3 hns hsb
  have st4 : tn 0 h1 := T.keep _ _ _ st3 fun b hb o e => hsb.extBut b o (Nat.ne_of_lt (lt3 b hb)) (Heap.get?_push_of_some _ e)
  generalize hX : cxC X scope NC fp s3 H3 = XC at I4
  have stat : ∀ {H' : Hp}, (∀ b ∈ fp, H' b = none) → ∀ b ∈ fp, FpOk XC [] H' b := fun {H'} hn b hb => by
    subst hX
    refine ⟨hn b hb, Nat.ne_of_lt (lt3 b hb), fun z => ?_, .inl hb, fun x d e => ?_, fun p hp => absurd (show p ∈ ([] : List (Addr × Obj)) from hp) (by simp)⟩
    · exact (I4.ok.exfs b hb) z
    · exact (I4.ok.exf b hb).2 x d e
  have loop : codeAny (model X.prog X.w) X.A (.compLoop (.ListComp elt [⟨tg, iter, ifs, 0⟩] scope pos) 0 (.ref it) (.ref s2.heap.objs.size) XC.env) (RR (.ref s2.heap.objs.size) s3.heap.objs.size)
      { s3 with heap := h1, toks := s3.toks + ([] : List (Str × Value)).length } := by
    refine codeAny_loop rfl (fun n s' => ∃ i σ' H', Inv XC [] σ' H' s' ∧ tn i s'.heap ∧ (∀ b ∈ fp, H' b = none) ∧ W i n σ' H') (fun n s' hI => ?_) m0 ⟨0, _, _, I4, st4, fun b hb => (f3 b hb).1, w0⟩
    obtain ⟨i, σ', H', I5, st5, fr5, w5⟩ := hI
    show wpAny _ X.A ((compTurn (.ListComp elt [⟨tg, iter, ifs, 0⟩] scope pos) 0 (.ref it) (.ref s2.heap.objs.size) XC.env).onRaise (fun x => do noteFrame x XC.env; theTreesLotGoes x)) _ _ s'
    refine wpAny_noted ?_
    rw [compTurn_list]
    have nox : ∀ {α : Type} {t : Sem α} {Q : α → Shared → Prop} {E : Value → Shared → Prop} {s : Shared}, wpAny (model XC.prog XC.w) XC.A t Q XC.xe s → wpAny (model X.prog X.w) X.A t Q E s := fun {α t Q E s} h => by
      subst hX
      exact wpAny_mono h (fun _ _ q => q) fun _ _ f => f.elim
    have hcC : XC.calm = true := by subst hX; exact hc
    have eP : XC.prog = X.prog := by subst hX; rfl
    have ew : XC.w = X.w := by subst hX; rfl
    have eK : XC.K = X.K := by subst hX; rfl
    have eA : XC.A = X.A := by subst hX; rfl
    have hgC : PG XC tg g := by subst hX; exact hg _ _
    have htC : PTs XC ifs tt := by subst hX; exact ht _ _
    have heC : PE XC elt te := by subst hX; exact he _ _
    refine wpAny_bind (wpAny_standAt (wpAny_bind ?_))
    rcases turn i n σ' H' w5 with ⟨stop, qn⟩ | ⟨go, N, hN, step⟩
    · have hd := T.done XC eP ew eK hcC i [] s' σ' H' (notedBy (model X.prog X.w) X.A XC.env fun e s' => RR (.ref s2.heap.objs.size) s3.heap.objs.size (.error e) s') I5 (stat fr5) st5 stop
      rw [eA] at hd
      refine thn hd fun r s6 ⟨hr, I6⟩ => ?_
      subst hr
      refine wpAny_pure ?_
      subst hX
      exact hRR _ s3 H3 σ' H' s6 I3 f3 I6 qn
    · have hd := T.item XC eP ew eK hcC i [] s' σ' H' (notedBy (model X.prog X.w) X.A XC.env fun e s' => RR (.ref s2.heap.objs.size) s3.heap.objs.size (.error e) s') I5 (stat fr5) st5 go
      rw [eA] at hd
      refine thn hd fun r s6 ⟨u, hr, h6⟩ => ?_
      subst hr
      refine wpAny_bind (thn h6 fun _ s7 ⟨x, H7, I7, r7, y7, st7, fr7⟩ => ?_)
      have I7' := I7.pinned (stat fr7) (T.obj _ _ st7)
      have again : ∀ {σ8 : St} {H8 : Hp} {s8 : Shared}, Inv XC ([] ++ pinsAt fp s7.heap) σ8 H8 s8 → N σ8 H8 → ∃ m, m < n ∧ ∃ i σ' H', Inv XC [] σ' H' s8 ∧ tn i s8.heap ∧ (∀ b ∈ fp, H' b = none) ∧ W i m σ' H' := fun {σ8 H8 s8} I8 n8 => by
        obtain ⟨m', hm, w8⟩ := hN σ8 H8 n8
        refine ⟨m', hm, i + 1, σ8, H8, I8.unpinned, T.keep _ _ _ st7 fun b hb o e => (I8.pin (b, o) (List.mem_append_right _ (List.mem_append_right _ (mem_pinsAt hb e)))).1, fun b hb => ?_, w8⟩
        obtain ⟨o, e, d⟩ := T.obj _ _ st7 b hb
        exact (I8.pin (b, o) (List.mem_append_right _ (List.mem_append_right _ (mem_pinsAt hb e)))).2.1
      refine wpAny_bind (nox (thn (hgC _ s7 σ' H7 x u _ I7' r7 (step x H7 y7)) fun _ s8 ⟨σ8, H8, I8, q8⟩ => ?_))
      refine wpAny_bind (nox (thn (htC _ s8 σ8 H8 _ I8 q8) fun b s9 ⟨H9, I9, q9⟩ => ?_))
      cases b with
      | false =>
        rw [if_neg Bool.false_ne_true] at q9
        exact wpAny_pure ⟨by subst hX; rfl, again I9 q9⟩
      | true =>
        rw [if_pos rfl] at q9
        refine wpAny_bind (wpAny_bind (nox (thn (heC _ s9 σ8 H9 _ I9 q9) fun y s10 ⟨v, H10, I10, r10, ys, hD, hz, q10⟩ => ?_)))
        refine wpAny_bind (nox (thn (mt_append _ s10 σ8 H10 (.ref s2.heap.objs.size) [v] _ [y] (fun _ H' => N σ8 H') I10 rfl (.cons r10 .nil) ⟨_, ys, v, rfl, rfl, hD, hz, q10⟩) fun _ s11 ⟨_, H11, I11, _, q11⟩ => ?_))
        exact wpAny_pure (wpAny_pure ⟨by subst hX; rfl, again I11 q11⟩)
  subst hX
  exact codeAny_compStart_list loop (T.self _ 0 _ _ _ st4 loop)
theorem pe_lc (hc : X.calm = true) (c : CompOk X scope) (hsrc : SrcOk scope X.N src NC) (hi : PI X tg iter wi)
    (hg : ∀ ex s H, PG (cxC X scope NC ex s H) tg g) (ht : ∀ ex s H, PTs (cxC X scope NC ex s H) ifs tt) (he : ∀ ex s H, PE (cxC X scope NC ex s H) elt te)
    (hs : ∀ x, foldedSetIterable iter X.env x = pure x := by intro _; rfl) : PE X (.ListComp elt [⟨tg, iter, ifs, 0⟩] scope pos) (tLC wi g tt te src) := by
  intro pins s σ H Q I h
  rw [eval_ListComp]
  refine wpAny_comprehension_free (use := none) rfl hs (closureFor_clOf (c.cells I.ok)) c.kind c.names (thn (hi pins s σ H _ I h) fun v s1 h1 => thn h1 fun itv s2 h2 => ?_)
  obtain ⟨it, fp, tn, J, H2, rfl, I2, T, st2, f2, hW⟩ := h2
  refine comp_block (RR := fun acc C => compPost (model X.prog X.w) X.A X.xe none (EP X pins σ Q) acc C) (Q := Q) hc c hsrc I2 T st2 f2 (hg fp) (ht fp) (he fp) hW ?_
  intro D s3 H3 σ' H' s' I3 f3 J' q
  obtain ⟨m, hn, _⟩ := J'.loc
  exact ⟨m, hn, fun h' sb => ⟨.ref D, H', comp_back I3 f3 J' sb, rfl, q⟩⟩
/-- x = [..]: the store is done ahead of the block's names -/
def tAsgLC (wi : TI) (g : TG) (tt : TT) (te : TE) (src : List (Option Nat)) (i : Nat) : TS := fun D σ H => tLC wi g tt te src σ H fun v H' => D.nx (σ.set i (some v)) H'
theorem ps_setlc {i : Nat} {x : Str} {px spos : Pos} (hc : X.calm = true) (hN : X.N.Nodup) (hi' : X.N[i]? = some x) (hx : Loc X.env.scope x) (c : CompOk X scope) (hsrc : SrcOk scope X.N src NC) (hi : PI X tg iter wi)
    (hg : ∀ ex s H, PG (cxC X scope NC ex s H) tg g) (ht : ∀ ex s H, PTs (cxC X scope NC ex s H) ifs tt) (he : ∀ ex s H, PE (cxC X scope NC ex s H) elt te)
    (hsw : swapsWith (.ListComp elt [⟨tg, iter, ifs, 0⟩] scope pos) (some (.Name x px)) spos.line X.env = pure true)
    (hf : X.fn x = true ∨ X.env.scope.names.lookup x = some .local := by first | exact .inl rfl | exact .inr rfl | assumption)
    (hs : ∀ x, foldedSetIterable iter X.env x = pure x := by intro _; rfl) : PS X (.Assign [.Name x px] (.ListComp elt [⟨tg, iter, ifs, 0⟩] scope pos) spos) (tAsgLC wi g tt te src i) := by
  intro pins s σ H D I h
  rw [exec_Assign_Name_used _ _ _ _ hsw]
  refine wpAny_bind (wpAny_standAt (wpAny_bind ?_))
  show wpAny _ X.A (do let _ ← comprehension (.ListComp elt [⟨tg, iter, ifs, 0⟩] scope pos) scope X.env _ (newList []) false (eval iter X.env) (some (assign (.Name x px) X.env))) _ _ s
  refine wpAny_bind (wpAny_mono (wpAny_comprehension_free (use := some (assign (.Name x px) X.env)) (Q := fun _ s' => SP X pins D .next s') rfl hs (closureFor_clOf (c.cells I.ok)) c.kind c.names
    (thn (hi pins s σ H _ I h) fun v s1 h1 => thn h1 fun itv s2 h2 => ?_)) (fun _ s' hq => wpAny_pure (wpAny_pure hq)) fun _ _ e => e)
  obtain ⟨it, fp, tn, J, H2, rfl, I2, T, st2, f2, hW⟩ := h2
  refine comp_block (RR := fun acc C => compPost (model X.prog X.w) X.A X.xe (some (assign (.Name x px) X.env)) (fun _ s' => SP X pins D .next s') acc C) (Q := fun v H' => D.nx (σ.set i (some v)) H') hc c hsrc I2 T st2 f2 (hg fp) (ht fp) (he fp) hW ?_
  intro a s3 H3 σ' H' s' I3 f3 J' q
  obtain ⟨m, hn, _⟩ := J'.loc
  have IX : Inv X pins σ H' s' := comp_back I3 f3 J' (.refl ..)
  show wpAny _ X.A (assign (.Name x px) X.env (.ref a)) _ _ _
  have nL : s3.heap.objs.size ≠ X.env.locals := Nat.ne_of_gt I3.lt
  have nc : ∀ y d, X.env.cells.lookup y = some d → d ≠ s3.heap.objs.size := fun y d e z => by
    obtain ⟨v, hv⟩ := I3.cell y d e
    have := hv.lt
    rw [z] at this
    exact absurd this (Nat.lt_irrefl _)
  have np : ∀ p ∈ X.pn ++ pins, p.1 ≠ s3.heap.objs.size := fun p hp z => by
    have := Heap.lt_size (I3.pin p hp).1
    rw [z] at this
    exact absurd this (Nat.lt_irrefl _)
  obtain ⟨oC, es, ep, hoC, hdC, rC⟩ := id hn
  have hHC : H' s3.heap.objs.size = none := J'.free
  have IP : Inv X ((s3.heap.objs.size, oC) :: pins) σ H' s' := IX.pins_of fun p hp => by
    rcases List.mem_cons.mp hp with z | z
    · rw [z]
      exact ⟨hoC, hHC, nL, I3.nofs (Nat.le_refl _), fun v w => by rw [hdC] at w; cases w⟩
    · exact IX.pin p (List.mem_append_right _ z)
  refine wpAny_assign_Name (store_ok (x := x) IP hN hi' hx (v := .ref a) rfl (fun s5 I5 => ?_) hf)
  have hC5 := (I5.pin (s3.heap.objs.size, oC) (List.mem_append_right _ List.mem_cons_self)).1
  refine ⟨m, ⟨oC, es, ep, hC5, hdC, rC⟩, fun h6 sb => ?_⟩
  have I5' : Inv X pins (σ.set i (some (.ref a))) H' s5 := I5.pins_of fun p hp => I5.pin p (List.mem_append_right _ (List.mem_cons_of_mem _ hp))
  exact ⟨_, H', I5'.turned (t' := s5.toks) (it := s3.heap.objs.size) (fun b o hb e => sb.extBut b o hb e) hHC nL (.inr I3.sz) nc np, q⟩
end
/-! ### the forms one uses -/
end L2

set_option Elab.async false
set_option linter.all false
set_option maxRecDepth 100000
namespace L2
open PySem PySem.Spec PyProof.Rows
/-! ### records that turn, and a tuple laid -/
section
variable {X : Cx} {pins : List (Addr × Obj)} {σ : St} {H : Hp} {s : Shared} {h' : Heap} {fp : List Addr}
theorem Inv.turnedL {t' : Nat} (I : Inv X pins σ H s) (hf : ∀ b ∈ fp, FpOk X pins H b) (k : ∀ b o, b ∉ fp → s.heap.get? b = some o → h'.get? b = some o) : Inv X pins σ H { s with heap := h', toks := t' } := by
  refine I.step (g' := s.gens) (d' := s.drawn) (ch := fp) (fun b hb => ?_) (fun b o _ _ hc e _ => k b o hc e) (fun b o _ _ hc e _ => ⟨o.slots, k b o hc e⟩) (fun _ _ _ _ n => n)
    (fun b o hc e => ⟨o, k b o hc e⟩) (fun _ _ e => e) (fun _ _ _ e => e) (fun b ps e => ⟨#[], by rw [e]; simp⟩) (fun m hm => ?_) (fun b u e => ?_) I.bare
  · obtain ⟨_, f1, _, f3, f4, f5⟩ := hf b hb
    exact ⟨f3, f1, f4, f5⟩
  · obtain ⟨o, es, ep, ho, r⟩ := hm
    exact ⟨o, es, ep, k _ o (fun z => (hf _ z).2.1 rfl) ho, r⟩
  · have nf : ∀ b u, H b = some u → b ∉ fp := fun b u e z => by rw [(hf b z).1] at e; cases e
    refine (I.hok b u e).stay (fun c v hc q => k c v ?_ q) (fun _ q => q) fun _ _ q => q
    rcases hc with z | z
    · rw [z]; exact nf b u e
    · exact nf c _ z
theorem Inv.turnLay {t' : Nat} {t : Addr} {o : HO} (I : Inv X pins σ H s) (hf : ∀ b ∈ fp, FpOk X pins H b) (k : ∀ b o, b ∉ fp → s.heap.get? b = some o → h'.get? b = some o) (ht : s.heap.objs.size ≤ t)
    (new : ObjOk X.prog X.w (upd H t o) h' t o) : Inv X pins σ (upd H t o) { s with heap := h', toks := t' } := by
  have nt : H t = none := I.hok.fresh ht
  have up : ∀ b u, H b = some u → upd H t o b = some u := fun b u e => by rw [upd_ne (ne_of_none e nt)]; exact e
  refine I.step (g' := s.gens) (d' := s.drawn) (ch := fp) (fun b hb => ?_) (fun b o _ _ hc e _ => k b o hc e) (fun b o _ _ hc e _ => ⟨o.slots, k b o hc e⟩) (fun b o _ e n => ?_)
    (fun b o hc e => ⟨o, k b o hc e⟩) (fun b xs e => up b _ e) (fun b _ _ e => up b _ e) (fun b ps e => ⟨#[], by rw [up b _ e]; simp⟩) (fun m hm => ?_) (fun b u e => ?_) I.bare
  · obtain ⟨_, f1, _, f3, f4, f5⟩ := hf b hb
    exact ⟨f3, f1, f4, f5⟩
  · rw [upd_ne (Nat.ne_of_lt (Nat.lt_of_lt_of_le (Heap.lt_size e) ht))]; exact n
  · obtain ⟨o, es, ep, ho, r⟩ := hm
    exact ⟨o, es, ep, k _ o (fun z => (hf _ z).2.1 rfl) ho, r⟩
  · by_cases hb : b = t
    · subst hb
      rw [upd_same] at e
      cases e
      exact new
    · rw [upd_ne hb] at e
      have nf : ∀ b u, H b = some u → b ∉ fp := fun b u e z => by rw [(hf b z).1] at e; cases e
      refine (I.hok b u e).stay (fun c v hc q => k c v ?_ q) (fun b' q => up b' _ q) fun b' _ q => up b' _ q
      rcases hc with z | z
      · rw [z]; exact nf b u e
      · exact nf c _ z
end
/-! ### enumerate of a list, unpacked -/
def Ite (K : PySem.W.Frag) (a : Addr) : It :=
  ⟨fun i H => ∃ xs x, SqL K H a xs ∧ xs[i]? = some x, fun i H y H' => ∃ t x, y = .ref t ∧ H t = none ∧ H' = upd H t (.tup [.int i, x]) ∧ ∀ xs, SqL K H a xs → xs[i]? = some x, fun i H => ∃ xs, SqL K H a xs ∧ xs.length ≤ i⟩
theorem isTup_pair {h : Heap} {t : Addr} {u v : Value} (e : h.get? t = some { cls := .type "tuple", data := .seq #[u, v] }) : IsTup h t [u, v].toArray := ⟨_, e, rfl, _, rfl⟩
theorem turn_enum {P : Program} {w : World} {K : PySem.W.Frag} {es : List Expr} {k1} {tp : Pos} (a e it : Addr) (ne : e ≠ it) :
    Turn P w K (.Tuple es k1 tp) (Ite K a) [e, it] e (fun i h => (∃ old, IsEnum h e it i old) ∧ h.IsListIter it a i) where
  mem := by simp
  obj := fun i h st b hb => by
    obtain ⟨⟨old, he⟩, o, e2, c, d⟩ := st
    rcases List.mem_cons.mp hb with z | z
    · subst z
      exact ⟨_, he, fun v w => by cases w⟩
    · have z' : b = it := by simpa using z
      subst z'
      exact ⟨o, e2, fun v z => by rw [d] at z; cases z⟩
  keep := fun i h h' st k => by
    obtain ⟨⟨old, he⟩, st2⟩ := st
    exact ⟨⟨old, k e (by simp) _ he⟩, st2.at fun o q => k it (by simp) o q⟩
  item := by
    intro X hP hw hK hc i pins s σ H E I hf st hg
    subst hP hw hK
    obtain ⟨xs, x, hq, hx⟩ := hg
    obtain ⟨its, rv, p, hz⟩ := I.list hq
    obtain ⟨u, hu, ru⟩ := rv.get hx
    obtain ⟨⟨old, he⟩, hit⟩ := st
    refine wpAny_pyNext_enum_item he hit p.isList (x := u) (by simpa using hu) ne fun h' he' hit' ht' hsz' kk => ?_
    have k2 : ∀ b o, b ∉ [e, it] → s.heap.get? b = some o → h'.get? b = some o := fun b o hb q => kk b o (fun z => hb (by simp [z])) (fun z => hb (by simp [z])) q
    have I1 : Inv X pins σ (upd H s.heap.objs.size (.tup [.int i, x])) { s with heap := h', toks := s.toks + 1 } :=
      I.turnLay hf k2 (Nat.le_refl _) ⟨by show 2 ≤ sizeLine; decide, [.int i s.toks, u], .cons ⟨_, rfl⟩ (.cons ru .nil), isTup_pair ht'⟩
    refine ⟨_, rfl, wpAny_letOwnedTupleGo_enum he' fun h2 he2 sb => ?_⟩
    have lt : ∀ b ∈ [e, it], b < s.heap.objs.size := fun b hb => by
      rcases List.mem_cons.mp hb with z | z
      · rw [z]; exact Heap.lt_size he
      · obtain ⟨o, e2, _⟩ := hit
        have z' : b = it := by simpa using z
        rw [z']; exact Heap.lt_size e2
    have hf1 : ∀ b ∈ [e, it], FpOk X pins (upd H s.heap.objs.size (.tup [.int i, x])) b := fun b hb => ⟨by rw [upd_ne (Nat.ne_of_lt (lt b hb))]; exact (hf b hb).1, (hf b hb).2⟩
    refine ⟨.ref s.heap.objs.size, _, I1.turnedL (t' := s.toks + 1) hf1 (fun b o hb q => sb.extBut b o (fun z => hb (by simp [z])) q), rfl, ⟨_, x, rfl, I.hok.fresh (Nat.le_refl _), rfl, fun ys hy => by rw [I.list_inj hy hq]; exact hx⟩, ⟨⟨u, ?_⟩, hit'.extBut sb.extBut (Ne.symm ne)⟩, fun b hb => (hf1 b hb).1⟩
    have z : ((i + 1 : Nat) : Int) = (i : Int) + 1 := by omega
    rw [z]
    exact he2
  done := by
    intro X hP hw hK hc i pins s σ H E I hf st hg
    subst hP hw hK
    obtain ⟨xs, hq, hx⟩ := hg
    obtain ⟨its, rv, p, hz⟩ := I.list hq
    have hl := rv.length
    obtain ⟨⟨old, he⟩, hit⟩ := st
    exact wpAny_pyNext_enum_end (I.ok.hd hc) he hit p.isList (by simp; omega) fun h' eb => ⟨rfl, I.turnedL (t' := s.toks) hf fun b o hb q => eb b o (fun z => hb (by simp [z])) q⟩
  self := fun _ _ _ _ _ st h => by
    obtain ⟨⟨old, he⟩, _⟩ := st
    exact wpAny_pyIter_enum he h
section
variable {X : Cx}
def iEnum (K : PySem.W.Frag) (ta : TA) : TI := fun σ H R => ta σ H fun vs H1 => ∃ a, vs = [.ref a] ∧ (∃ xs, H1 a = some (.lst xs)) ∧ R (Ite K a) H1
theorem pi_enum {a : Expr} {ta : TA} {p pos : Pos} {es : List Expr} {k1} {tp : Pos} (hg : Gl X "enumerate") (hm : X.mg "enumerate" = none) (ha : PA X [a] ta) (hs : starEach [a] X.env = [(false, eval a X.env)] := by rfl) :
    PI X (.Tuple es k1 tp) (.Call (.Name "enumerate" p) [a] [] pos) (iEnum X.K ta) := by
  intro pins s σ H R I h
  refine Call_ (ld_blt I hg hm boot_enumerate (PyProof.Rows.callWith_type1 (thn (ha pos pins s σ H _ I h) fun us s1 ⟨vs, H1, I1, r1, q1⟩ => ?_) hs rfl))
  obtain ⟨l, e, ⟨xs, hl⟩, q⟩ := q1
  subst e
  obtain ⟨u, rfl, ru⟩ := r1.one
  cases ru
  obtain ⟨z, its, n, rv, hlen, e⟩ := I1.lstM hl
  refine call_enumerate_1 e fun h' he hit hsz kk => ?_
  refine wpAny_pyIter_enum he ?_
  have hne : s1.heap.objs.size + 1 ≠ s1.heap.objs.size := Nat.succ_ne_self _
  refine ⟨s1.heap.objs.size + 1, [s1.heap.objs.size + 1, s1.heap.objs.size], _, _, H1, rfl, I1.kept (t' := s1.toks) kk, turn_enum l _ _ hne, ⟨⟨_, he⟩, hit⟩, fun b hb => ?_, q⟩
  have hb' : s1.heap.objs.size ≤ b := by
    rcases List.mem_cons.mp hb with z | z
    · rw [z]; exact Nat.le_succ _
    · have z' : b = s1.heap.objs.size := by simpa using z
      rw [z']; exact Nat.le_refl _
  exact I1.fpOk hb' (I1.hok.fresh hb')
end
end L2


namespace Wb
abbrev W := List (List Nat)
def row (w : W) (p : Nat) : List Nat := w.getD p []
inductive Reach (w : W) : Nat → Nat → Prop
  | refl (p) : Reach w p p
  | step {p q r} : Reach w p q → r ∈ row w q → Reach w p r
structure Good (w : W) : Prop where
  rng : ∀ p q, q ∈ row w p → q < w.length
  irr : ∀ p, p ∉ row w p
  nod : ∀ p, (row w p).Nodup
  sym : ∀ p q, q ∈ row w p → p ∈ row w q
  con : ∀ p, p < w.length → Reach w 0 p
theorem row_lt {w : W} {p q : Nat} (h : q ∈ row w p) : p < w.length := by
  apply Classical.byContradiction; intro hn
  unfold row at h
  rw [List.getD_eq_getElem?_getD, List.getElem?_eq_none (by omega)] at h
  simp at h
theorem row_get {w : W} {p : Nat} (h : p < w.length) : w[p]? = some (row w p) := by
  unfold row; rw [List.getD_eq_getElem?_getD, List.getElem?_eq_getElem h]; rfl
theorem row_of {w : W} {p : Nat} {r : List Nat} (h : w[p]? = some r) : row w p = r := by
  unfold row; rw [List.getD_eq_getElem?_getD, h]; rfl
theorem Reach.mono {w w' : W} (hm : ∀ p q, q ∈ row w p → q ∈ row w' p) {p q : Nat} (h : Reach w p q) : Reach w' p q := by
  induction h with
  | refl => exact .refl _
  | step _ hr ih => exact .step ih (hm _ _ hr)
/-! insertion -/
def ins {α : Type} (xs : List α) (i : Nat) (x : α) : List α := xs.take i ++ x :: xs.drop i
theorem ins_perm {α : Type} (xs : List α) (i : Nat) (x : α) : (ins xs i x).Perm (x :: xs) := by
  unfold ins
  have h := @List.perm_middle _ x (xs.take i) (xs.drop i)
  rw [List.take_append_drop] at h
  exact h
theorem mem_ins {α : Type} {xs : List α} {i : Nat} {x a : α} : a ∈ ins xs i x ↔ a = x ∨ a ∈ xs := by
  rw [(ins_perm xs i x).mem_iff, List.mem_cons]
theorem nodup_ins {α : Type} {xs : List α} {i : Nat} {x : α} (h : xs.Nodup) (hx : x ∉ xs) : (ins xs i x).Nodup := by
  rw [(ins_perm xs i x).nodup_iff, List.nodup_cons]; exact ⟨hx, h⟩
theorem ins_len {α : Type} (xs : List α) (i : Nat) (x : α) : (ins xs i x).length = xs.length + 1 := by
  rw [(ins_perm xs i x).length_eq]; rfl
/-! a row set -/
theorem row_set {w : W} {p x : Nat} {r : List Nat} (h : p < w.length) : row (w.set p r) x = if p = x then r else row w x := by
  unfold row
  rw [List.getD_eq_getElem?_getD, List.getElem?_set]
  by_cases e : p = x
  · rw [if_pos e, if_pos e, if_pos h]; rfl
  · rw [if_neg e, if_neg e, List.getD_eq_getElem?_getD]
theorem row_snoc {w : W} {r : List Nat} {x : Nat} : row (w ++ [r]) x = if x = w.length then r else row w x := by
  unfold row
  rw [List.getD_eq_getElem?_getD, List.getElem?_append]
  split
  · rw [if_neg (by omega), List.getD_eq_getElem?_getD]
  · split
    · rename_i h e; subst e; simp
    · rename_i h e
      rw [List.getD_eq_getElem?_getD, List.getElem?_eq_none (by simp; omega), List.getElem?_eq_none (by omega)]
theorem good_one : Good [[]] := by
  have hr : ∀ p, row [[]] p = [] := fun p => by
    unfold row; cases p with
    | zero => rfl
    | succ n => simp
  refine ⟨fun p q h => ?_, fun p h => ?_, fun p => ?_, fun p q h => ?_, fun p h => ?_⟩
  · rw [hr] at h; cases h
  · rw [hr] at h; cases h
  · rw [hr]; exact List.nodup_nil
  · rw [hr] at h; cases h
  · have : p = 0 := by simp at h; exact h
    subst this; exact .refl _
/-- a leaf hung into p's turn -/
def leaf (w : W) (p i : Nat) : W := (w.set p (ins (row w p) i w.length)) ++ [[p]]
theorem leaf_len (w : W) (p i : Nat) : (leaf w p i).length = w.length + 1 := by unfold leaf; simp
theorem row_leaf {w : W} {p i x : Nat} (h : p < w.length) : row (leaf w p i) x = if x = w.length then [p] else if p = x then ins (row w p) i w.length else row w x := by
  unfold leaf; rw [row_snoc, List.length_set, row_set h]
theorem good_leaf {w : W} {p i : Nat} (g : Good w) (h : p < w.length) : Good (leaf w p i) := by
  have hr := fun x => row_leaf (i := i) (x := x) h
  have nl : ∀ x, w.length ∉ row w x := fun x hx => Nat.lt_irrefl _ (g.rng _ _ hx)
  have mono : ∀ x q, q ∈ row w x → q ∈ row (leaf w p i) x := fun x q hq => by
    have := row_lt hq
    rw [hr, if_neg (by omega)]
    split
    · rename_i e; subst e; exact mem_ins.mpr (.inr hq)
    · exact hq
  refine ⟨fun x q hx => ?_, fun x hx => ?_, fun x => ?_, fun x q hx => ?_, fun x hx => ?_⟩
  · rw [hr] at hx; rw [leaf_len]
    split at hx
    · simp at hx; omega
    · split at hx
      · rcases mem_ins.mp hx with e | e
        · omega
        · have := g.rng _ _ e; omega
      · have := g.rng _ _ hx; omega
  · rw [hr] at hx
    split at hx
    · simp at hx; omega
    · split at hx
      · rcases mem_ins.mp hx with e | e
        · omega
        · rename_i e2; subst e2; exact g.irr _ e
      · exact g.irr _ hx
  · rw [hr]; split
    · simp
    · split
      · exact nodup_ins (g.nod _) (nl _)
      · exact g.nod _
  · rw [hr] at hx
    split at hx
    · have e : q = p := by simpa using hx
      subst e
      rename_i e
      rw [hr, if_neg (by omega), if_pos rfl, e]
      exact mem_ins.mpr (.inl rfl)
    · split at hx
      · rename_i e; subst e
        rcases mem_ins.mp hx with e | e
        · rw [hr, if_pos e]; simp
        · exact mono _ _ (g.sym _ _ e)
      · exact mono _ _ (g.sym _ _ hx)
  · rw [leaf_len] at hx
    by_cases e : x = w.length
    · refine Reach.step ((g.con p h).mono mono) ?_
      rw [hr, if_neg (by omega), if_pos rfl, e]
      exact mem_ins.mpr (.inl rfl)
    · exact (g.con x (by omega)).mono mono
/-- a tie put between p and u -/
def tie (w : W) (p i u j : Nat) : W := (w.set p (ins (row w p) i u)).set u (ins (row w u) j p)
theorem tie_len (w : W) (p i u j : Nat) : (tie w p i u j).length = w.length := by unfold tie; simp
theorem row_tie {w : W} {p i u j x : Nat} (hp : p < w.length) (hu : u < w.length) : row (tie w p i u j) x = if u = x then ins (row w u) j p else if p = x then ins (row w p) i u else row w x := by
  unfold tie; rw [row_set (by simpa using hu), row_set hp]
theorem good_tie {w : W} {p i u j : Nat} (g : Good w) (hp : p < w.length) (hu : u < w.length) (ne : u ≠ p) (nt : u ∉ row w p) : Good (tie w p i u j) := by
  have hr := fun x => row_tie (i := i) (j := j) (x := x) hp hu
  have nt' : p ∉ row w u := fun h => nt (g.sym _ _ h)
  have mono : ∀ x q, q ∈ row w x → q ∈ row (tie w p i u j) x := fun x q hq => by
    rw [hr]
    split
    · rename_i e; subst e; exact mem_ins.mpr (.inr hq)
    · split
      · rename_i e; subst e; exact mem_ins.mpr (.inr hq)
      · exact hq
  refine ⟨fun x q hx => ?_, fun x hx => ?_, fun x => ?_, fun x q hx => ?_, fun x hx => ?_⟩
  · rw [hr] at hx; rw [tie_len]
    split at hx
    · rcases mem_ins.mp hx with e | e
      · omega
      · exact g.rng _ _ e
    · split at hx
      · rcases mem_ins.mp hx with e | e
        · omega
        · exact g.rng _ _ e
      · exact g.rng _ _ hx
  · rw [hr] at hx
    split at hx
    · rename_i e2; subst e2
      rcases mem_ins.mp hx with e | e
      · exact ne e
      · exact g.irr _ e
    · split at hx
      · rename_i e2; subst e2
        rcases mem_ins.mp hx with e | e
        · exact ne e.symm
        · exact g.irr _ e
      · exact g.irr _ hx
  · rw [hr]; split
    · exact nodup_ins (g.nod _) nt'
    · split
      · exact nodup_ins (g.nod _) nt
      · exact g.nod _
  · rw [hr] at hx
    split at hx
    · rename_i e2; subst e2
      rcases mem_ins.mp hx with e | e
      · subst e; rw [hr, if_neg ne, if_pos rfl]; exact mem_ins.mpr (.inl rfl)
      · exact mono _ _ (g.sym _ _ e)
    · split at hx
      · rename_i e2; subst e2
        rcases mem_ins.mp hx with e | e
        · subst e; rw [hr, if_pos rfl]; exact mem_ins.mpr (.inl rfl)
        · exact mono _ _ (g.sym _ _ e)
      · exact mono _ _ (g.sym _ _ hx)
  · rw [tie_len] at hx; exact (g.con x hx).mono mono
/-! darts, and the round from one of them -/
theorem len_le_of_subset {α : Type} [DecidableEq α] : ∀ {l m : List α}, l.Nodup → (∀ x ∈ l, x ∈ m) → l.length ≤ m.length
  | [], _, _, _ => Nat.zero_le _
  | a :: r, m, nd, h => by
    have nd' := List.nodup_cons.mp nd
    have am := h a List.mem_cons_self
    have ih := len_le_of_subset (l := r) (m := m.erase a) nd'.2 fun x hx => (List.mem_erase_of_ne (fun (e : x = a) => nd'.1 (by rw [← e]; exact hx))).mpr (h x (List.mem_cons_of_mem _ hx))
    rw [List.length_erase_of_mem am] at ih
    have := List.length_pos_of_mem am
    simp only [List.length_cons]; omega
theorem row_len {w : W} (g : Good w) (p : Nat) : (row w p).length ≤ w.length := by
  have := len_le_of_subset (m := List.range w.length) (g.nod p) fun x hx => List.mem_range.mpr (g.rng _ _ hx)
  simpa using this
/-! what is reached from 0 -/
/-- a set of points that has 0 and is closed along ties is all of them -/
theorem closed_all {w : W} (g : Good w) {S : Nat → Prop} (h0 : S 0) (hc : ∀ p q, S p → q ∈ row w p → S q) : ∀ p, p < w.length → S p := fun p hp => by
  have : ∀ {a b}, Reach w a b → S a → S b := fun {a b} h ha => by
    induction h with
    | refl => exact ha
    | step _ hr ih => exact hc _ _ ih hr
  exact this (g.con p hp) h0
/-! the ties, sorted -/
end Wb

set_option Elab.async false
set_option linter.all false
set_option maxRecDepth 100000
namespace L2
open PySem PySem.Spec PyProof.Rows
section
variable {X : Cx}
theorem Vals.ins {x : V} {u : Value} (r : RelV x u) {xs : List V} {us : List Value} (i : Nat) (h : Vals xs us) : Vals (Wb.ins xs i x) (Wb.ins us i u) := (h.take i).append (.cons r (h.drop i))
/-- xs.insert(i, y), i in 0 .. len -/
def rInsert : V → List V → Hp → VK → Prop := fun x vs H Q => ∃ l xs i y, x = .ref l ∧ vs = [.int i, y] ∧ H l = some (.lst xs) ∧ 0 ≤ i ∧ i ≤ xs.length ∧ xs.length < sizeLine ∧ Q .non (upd H l (.lst (Wb.ins xs i.toNat y)))
theorem mt_insert : MtM X "list.insert" rInsert := by
  intro pins s σ H x vs v us Q I rx rv h
  obtain ⟨l, xs, i, y, rfl, rfl, hH, h0, h1, hz, q⟩ := h
  cases rx
  obtain ⟨u1, u2, rfl, ⟨t, rfl⟩, ru⟩ := rv.two
  obtain ⟨z, its, n, r, hl, e⟩ := I.lstM hH
  have hlt := line63
  have hfit : ¬ (!Builtin.List.listFitsIndex i) = true := by
    rw [fitsIndex_both (by omega) (by omega)]
    exact Bool.false_ne_true
  refine call_meets F.slot_list_insert ⟨_, e, rfl⟩ F.entry_list_insert (F.args_list_insert_3 _ _ _) (AutoSeq1.list_insert_list_int_val_1 l its.toArray n i t u2 hfit (by rw [List.size_toArray]; omega)) ⟨e, ?_⟩
  refine ⟨.non, _, I.lset (its' := Wb.ins its i.toNat u2) hH e ?_ (r.ins ru i.toNat) ?_, rfl, q⟩
  · have hi : ¬ i < 0 := by omega
    have hm : min i.toNat its.length = i.toNat := by omega
    simp only [hi, if_false, List.size_toArray, hm]
    apply Array.toList_inj.mp
    unfold Wb.ins
    simp
    exact List.take_of_length_le (by rw [List.length_drop]; omega)
  · rw [Wb.ins_len]; omega
end
end L2

set_option Elab.async false
set_option linter.all false
set_option maxRecDepth 100000
namespace L2
open PySem PySem.Spec PyProof.Rows
/-! ### == and != of data at any depth -/
mutual
inductive Dp (K : PySem.W.Frag) (H : Hp) : V → PyData → Prop
  | non : Dp K H .non .none
  | bl (b : Bool) : Dp K H (.bl b) (.bool b)
  | int (i : Int) : Dp K H (.int i) (.int i)
  | str (x : Str) (h : PyData.strOk x = true) : Dp K H (.str x) (.str x)
  | lst {a : Addr} {xs : List V} {ds : List PyData} : SqL K H a xs → DpAll K H xs ds → Dp K H (.ref a) (.list ds)
  | tup {a : Addr} {xs : List V} {ds : List PyData} : SqT K H a xs → DpAll K H xs ds → Dp K H (.ref a) (.tuple ds)
inductive DpAll (K : PySem.W.Frag) (H : Hp) : List V → List PyData → Prop
  | nil : DpAll K H [] []
  | cons {v : V} {vs : List V} {d : PyData} {ds : List PyData} : Dp K H v d → DpAll K H vs ds → DpAll K H (v :: vs) (d :: ds)
end
section
variable {X : Cx} {pins : List (Addr × Obj)} {σ : St} {H : Hp} {s : Shared}
mutual
theorem Dp.reads (I : Inv X pins σ H s) : ∀ {v : V} {d : PyData} {u : Value}, Dp X.K H v d → RelV v u → (∃ as, Reads s.heap u d as) ∧ d.canLay0 = true
  | _, _, _, .non, r => by cases r; exact ⟨⟨_, .none⟩, rfl⟩
  | _, _, _, .bl b, r => by cases r; exact ⟨⟨_, .bool b⟩, rfl⟩
  | _, _, _, .int i, r => by obtain ⟨t, rfl⟩ := r; exact ⟨⟨_, .int i t⟩, rfl⟩
  | _, _, _, .str x h, r => by obtain ⟨t, rfl⟩ := r; exact ⟨⟨_, .str x t⟩, by simpa [PyData.canLay0] using h⟩
  | _, _, _, .lst h a, r => by
    cases r
    obtain ⟨its, rv, pl, hz⟩ := I.list h
    obtain ⟨⟨as, ra⟩, c⟩ := DpAll.reads I a rv
    obtain ⟨o, ho, hc, n, hd⟩ := pl.isList
    exact ⟨⟨_, .list ho hc hd (by simpa using ra)⟩, by simpa [PyData.canLay0] using c⟩
  | _, _, _, .tup h a, r => by
    cases r
    obtain ⟨its, rv, pl, hz⟩ := I.tuple h
    obtain ⟨⟨as, ra⟩, c⟩ := DpAll.reads I a rv
    obtain ⟨o, ho, hc, n, hd⟩ := pl
    exact ⟨⟨_, .tuple ho hc hd (by simpa using ra)⟩, by simpa [PyData.canLay0] using c⟩
theorem DpAll.reads (I : Inv X pins σ H s) : ∀ {vs : List V} {ds : List PyData} {us : List Value}, DpAll X.K H vs ds → Vals vs us → (∃ as, ReadsAll s.heap us ds as) ∧ PyData.canLayAll0 ds = true
  | _, _, _, .nil, .nil => ⟨⟨_, .nil⟩, by simp [PyData.canLayAll0]⟩
  | _, _, _, .cons a as, .cons r rs => by
    obtain ⟨⟨x, h1⟩, c1⟩ := Dp.reads I a r
    obtain ⟨⟨y, h2⟩, c2⟩ := DpAll.reads I as rs
    exact ⟨⟨_, .cons h1 h2⟩, by simp [PyData.canLayAll0, c1, c2]⟩
end
end
section
variable {X : Cx}
def rEqD (K : PySem.W.Frag) : R2 := fun x y H Q => ∃ d e, Dp K H x d ∧ Dp K H y e ∧ d.depth ≤ 64 ∧ Q (.bl (PyData.eqv d e)) H
def rNeD (K : PySem.W.Frag) : R2 := fun x y H Q => ∃ d e, Dp K H x d ∧ Dp K H y e ∧ d.depth ≤ 64 ∧ Q (.bl (!PyData.eqv d e)) H
theorem op_eqD (hu : X.A.units + 64 < cLine) : OpR X (compareOp .Eq) (rEqD X.K) := by
  intro pins s σ H x y v u Q I rx ry h
  obtain ⟨d, e, hd, he, hz, q⟩ := h
  obtain ⟨⟨as, r1⟩, c1⟩ := hd.reads I rx
  obtain ⟨⟨bs, r2⟩, c2⟩ := he.reads I ry
  exact SeqAt.compareEq_reads r1 r2 c1 c2 (by have := Nat.min_le_left d.depth e.depth; omega) ⟨.bl _, H, I, rfl, q⟩
theorem op_neD (hu : X.A.units + 64 < cLine) : OpR X (compareOp .NotEq) (rNeD X.K) := by
  intro pins s σ H x y v u Q I rx ry h
  obtain ⟨d, e, hd, he, hz, q⟩ := h
  obtain ⟨⟨as, r1⟩, c1⟩ := hd.reads I rx
  obtain ⟨⟨bs, r2⟩, c2⟩ := he.reads I ry
  exact SeqAt.compareNe_reads r1 r2 c1 c2 (by have := Nat.min_le_left d.depth e.depth; omega) ⟨.bl _, H, I, rfl, q⟩
end
/-! the data of this law -/
def nD (n : Nat) : PyData := .int n
def rowD (r : List Nat) : PyData := .list (r.map nD)
theorem eqvAll_map {α : Type} {f : α → PyData} (hf : ∀ a b, PyData.eqv (f a) (f b) = true ↔ a = b) : ∀ xs ys : List α, PyData.eqvAll (xs.map f) (ys.map f) = true ↔ xs = ys
  | [], [] => by simp [PyData.eqvAll]
  | [], _ :: _ => by simp [PyData.eqvAll]
  | _ :: _, [] => by simp [PyData.eqvAll]
  | a :: xs, b :: ys => by
    have ih := eqvAll_map hf xs ys
    simp [PyData.eqvAll, hf, ih]
theorem eqv_nD (a b : Nat) : PyData.eqv (nD a) (nD b) = true ↔ a = b := by
  simp [nD, PyData.eqv]
  omega
theorem eqv_rowD (a b : List Nat) : PyData.eqv (rowD a) (rowD b) = true ↔ a = b := by
  unfold rowD
  rw [PyData.eqv]
  exact eqvAll_map eqv_nD a b
theorem depthAll_map {α : Type} {f : α → PyData} {k : Nat} (hf : ∀ a, (f a).depth ≤ k) : ∀ xs : List α, PyData.depthAll (xs.map f) ≤ k
  | [] => by simp [PyData.depthAll]
  | a :: xs => by
    have := hf a
    have ih := depthAll_map hf xs
    simp [PyData.depthAll]
    omega
theorem depth_rowD (a : List Nat) : (rowD a).depth ≤ 2 := by
  unfold rowD
  rw [PyData.depth]
  have := depthAll_map (f := nD) (k := 1) (fun n => by simp [nD, PyData.depth]) a
  omega
def webD (w : List (List Nat)) : PyData := .list (w.map rowD)
theorem eqv_webD (a b : List (List Nat)) : PyData.eqv (webD a) (webD b) = true ↔ a = b := by
  unfold webD
  rw [PyData.eqv]
  exact eqvAll_map eqv_rowD a b
theorem depth_webD (a : List (List Nat)) : (webD a).depth ≤ 3 := by
  unfold webD
  rw [PyData.depth]
  have := depthAll_map (f := rowD) (k := 2) depth_rowD a
  omega
end L2

set_option Elab.async false
set_option linter.all false
set_option maxRecDepth 100000
namespace L2
open PySem PySem.Spec PyProof.Rows
section
variable {X : Cx}
/-- all(xs), a list of bools -/
theorem call_all (hc : X.calm = true) : CallR X (.builtin "all") (fun xs H Q => ∃ (p : Addr) (bs : List Bool), xs = [.ref p] ∧ H p = some (.lst (bs.map V.bl)) ∧ Q (.bl (bs.all id)) H) := by
  intro pins s σ H xs us Q I rv h
  obtain ⟨p, bs, rfl, hp, q⟩ := h
  obtain ⟨u, rfl, ru⟩ := rv.one
  cases ru
  obtain ⟨its, r, pl, hz⟩ := I.list (SqL.of hp)
  have hl := r.length
  rw [List.length_map] at hl
  refine call_all_walk (wpAny_pyIter_list pl.isList ?_)
  have hne : p ≠ s.heap.objs.size := by
    obtain ⟨o, ho, _⟩ := pl.isList
    exact Nat.ne_of_lt (Heap.lt_size ho)
  have itv : ∀ i : Nat, i < its.length → ∃ b, bs[i]? = some b ∧ its[i]? = some (.bool b) := fun i hi => by
    obtain ⟨b, hb⟩ : ∃ b, bs[i]? = some b := ⟨_, List.getElem?_eq_getElem (by omega)⟩
    obtain ⟨w, hw, rw'⟩ := r.get (i := i) (x := .bl b) (by rw [List.getElem?_map, hb]; rfl)
    cases rw'
    exact ⟨b, hb, hw⟩
  refine ⟨_, _, _, its.toArray.size, _, _, fun i => bs.getD i false, rfl, Walks.list (show X.A.in1.handled = none from I.ok.hd hc) s.heap.objs.size p hne its.toArray, ⟨⟨_, Heap.get?_push_size _ rfl, rfl, rfl⟩, pl.isList.push _⟩, ?_, fun h' tk kk => ?_⟩
  · intro i v s Q E hv hq
    have hv' : its[i]? = some v := by simpa using hv
    have hi : i < its.length := by
      obtain ⟨h1, _⟩ := List.getElem?_eq_some_iff.mp hv'
      exact h1
    obtain ⟨b, hb, hw⟩ := itv i hi
    rw [hw] at hv'
    cases hv'
    refine wpAny_truthy_bool ?_
    have hq' : Q (bs.getD i false) s := hq
    rw [List.getD_eq_getElem?_getD, hb] at hq'
    exact hq'
  · have kept : ∀ b o, s.heap.get? b = some o → h'.get? b = some o := fun b o e => kk b o (by simp; exact Nat.ne_of_lt (Heap.lt_size e)) (Heap.get?_push_of_some _ e)
    have e : (List.range its.toArray.size).all (fun i => bs.getD i false) = bs.all id := by
      rw [List.size_toArray, ← hl]
      rw [Bool.eq_iff_iff, List.all_eq_true, List.all_eq_true]
      constructor
      · intro h x hx
        obtain ⟨i, hi, rfl⟩ := List.mem_iff_getElem.mp hx
        have := h i (List.mem_range.mpr hi)
        rw [List.getD_eq_getElem?_getD, List.getElem?_eq_getElem hi] at this
        exact this
      · intro h i hi
        have hi' := List.mem_range.mp hi
        rw [List.getD_eq_getElem?_getD, List.getElem?_eq_getElem hi']
        exact h _ (List.getElem_mem hi')
    rw [e]
    exact ⟨.bl _, H, I.kept kept, rfl, q⟩
/-- isinstance(x, int) and the like -/
theorem call_isinst : CallR X (.builtin "isinstance") (fun xs H Q => ∃ (x : V) (n : String) (t : Value) (b : Bool), xs = [x, .ty n] ∧ TyOf X.K H x t ∧ PySem.W.kitOne X.K t (.type n) = some b ∧ Q (.bl b) H) := by
  intro pins s σ H xs us Q I rv h
  obtain ⟨x, n, t, b, rfl, ty, e, q⟩ := h
  obtain ⟨u1, u2, rfl, r1, r2⟩ := rv.two
  cases r2
  exact isinst_ok I r1 ty e fun tk => ⟨.bl b, H, I.tok _, rfl, q⟩
end
end L2










set_option Elab.async false
set_option linter.all false
set_option maxRecDepth 100000
set_option maxHeartbeats 4000000
namespace L2
open PySem
theorem CompOk.of {X : Cx} {scope : Scope} (sc : Scope) (e : X.env.scope = sc) (k : scope.kind = .function) (a : ∀ x ∈ scope.names, x.2 = .local → scope.names.lookup x.1 = some .local) (b : ∀ x ∈ scope.names, x.2 ≠ .cell)
    (c : ∀ x ∈ scope.names, x.2 = .free → sc.names.lookup x.1 = some .cell ∨ sc.names.lookup x.1 = some .free) : CompOk X scope := ⟨k, a, b, fun x hx hf => by rw [← e] at c; exact c x hx hf⟩
/-- a def of the text -/
structure Dfn (K : PySem.W.Frag) (mg : Str → Option Value) (x : Str) (st : Stmt) (ps : List Str) where
  f : Addr
  fd : FuncData
  F : Fun K x x st f fd
  b : Binds K fd ps []
  m : mg x = some (.ref f)
theorem same_new {H : Hp} {p : Addr} (h : H p = none) (o : HO) : Same H (upd H p o) := fun b u q => by rw [upd_ne (ne_of_none q h)]; exact q
theorem small {n : Nat} (h : n ≤ 1000) : n ≤ sizeLine := Nat.le_of_lt (small1000 h)
end L2
















set_option Elab.async false
set_option linter.all false
set_option maxRecDepth 100000
namespace L2
open PySem PySem.Spec PyProof.Rows
theorem lex_irr : ∀ a : List Int, HT.lexLt a a = false
  | [] => rfl
  | x :: xs => by rw [HT.lexLt_cons, if_pos rfl]; exact lex_irr xs
theorem lex_tr : ∀ a b c : List Int, HT.lexLt a b = true → HT.lexLt b c = true → HT.lexLt a c = true
  | [], [], _, h, _ => by cases h
  | [], _ :: _, [], _, h => by cases h
  | [], _ :: _, _ :: _, _, _ => rfl
  | _ :: _, [], _, h, _ => by cases h
  | _ :: _, _ :: _, [], _, h => by cases h
  | x :: xs, y :: ys, z :: zs, h1, h2 => by
    rw [HT.lexLt_cons] at *
    by_cases e1 : x = y
    · rw [if_pos e1] at h1
      by_cases e2 : y = z
      · rw [if_pos e2] at h2
        rw [if_pos (e1.trans e2)]; exact lex_tr xs ys zs h1 h2
      · rw [if_neg e2] at h2
        rw [if_neg (by rw [e1]; exact e2), e1]; exact h2
    · rw [if_neg e1] at h1
      have l1 := of_decide_eq_true h1
      by_cases e2 : y = z
      · rw [if_neg (by rw [← e2]; exact e1), ← e2]; exact h1
      · rw [if_neg e2] at h2
        have l2 := of_decide_eq_true h2
        rw [if_neg (by omega)]
        exact decide_eq_true (by omega)
section
variable {X : Cx}
end
end L2

set_option Elab.async false
set_option linter.all false
set_option maxRecDepth 100000
set_option maxHeartbeats 4000000
namespace L2
open PySem PySem.Spec PyProof.Rows
/-! ### data: a value with all that it holds, without the heap -/
inductive D where
  | non | bl (b : Bool) | int (i : Int) | str (x : Str) | lst (l : List D) | tup (l : List D) | scr (ns : List Int) | rng (lo hi : Int) | obj (a : Addr) | web (w : List (List Nat))
/-- the module's objects, the class Web -/
structure DC where
  K : PySem.W.Frag
  C : Addr
def natD (n : Nat) : D := .int n
def rowW (r : List Nat) : D := .lst (r.map natD)
def webW (w : List (List Nat)) : D := .lst (w.map rowW)
mutual
inductive Dv (Z : DC) (H : Hp) : V → D → Prop
  | non : Dv Z H .non .non
  | bl (b : Bool) : Dv Z H (.bl b) (.bl b)
  | int (i : Int) : Dv Z H (.int i) (.int i)
  | str (x : Str) (h : PyData.strOk x = true) : Dv Z H (.str x) (.str x)
  | lst {a : Addr} {xs : List V} {ds : List D} : H a = some (.lst xs) → DvAll Z H xs ds → Dv Z H (.ref a) (.lst ds)
  | tup {a : Addr} {xs : List V} {ds : List D} : H a = some (.tup xs) → DvAll Z H xs ds → Dv Z H (.ref a) (.tup ds)
  | obj (a : Addr) : Dv Z H (.ref a) (.obj a)
  | rng {a : Addr} {lo hi : Int} : H a = some (.rng lo hi) → Dv Z H (.ref a) (.rng lo hi)
  | scr {a : Addr} {ns : List Int} : SqL Z.K H a (ns.map V.int) → ns.length ≤ 63 → Dv Z H (.ref a) (.scr ns)
  | web {p dx R : Addr} {w : List (List Nat)} : H p = some (.ins Z.C dx [("rows", .ref R)]) → Dv Z H (.ref R) (webW w) → Wb.Good w → 1 ≤ w.length → w.length ≤ 14 → Dv Z H (.ref p) (.web w)
inductive DvAll (Z : DC) (H : Hp) : List V → List D → Prop
  | nil : DvAll Z H [] []
  | cons {v : V} {vs : List V} {d : D} {ds : List D} : Dv Z H v d → DvAll Z H vs ds → DvAll Z H (v :: vs) (d :: ds)
end
theorem SqL.mono {K : PySem.W.Frag} {H H' : Hp} {a : Addr} {xs : List V} (s : Same H H') (h : SqL K H a xs) : SqL K H' a xs := by
  rcases h with (h | ⟨o, h⟩) | h
  · exact .inl (.inl (s _ _ h))
  · exact .inl (.inr ⟨o, s _ _ h⟩)
  · exact .inr h
section
variable {Z : DC} {H H' G G' : Hp}
theorem Dv.ofInt {v : V} {i : Int} (h : Dv Z H v (.int i)) : v = .int i := by cases h; rfl
theorem Dv.ofLst {v : V} {ds : List D} (h : Dv Z H v (.lst ds)) : ∃ a xs, v = .ref a ∧ H a = some (.lst xs) ∧ DvAll Z H xs ds := by cases h with | lst h e => exact ⟨_, _, rfl, h, e⟩
theorem Dv.ofTup {v : V} {ds : List D} (h : Dv Z H v (.tup ds)) : ∃ a xs, v = .ref a ∧ H a = some (.tup xs) ∧ DvAll Z H xs ds := by cases h with | tup h e => exact ⟨_, _, rfl, h, e⟩
theorem Dv.ofScr {v : V} {ns : List Int} (h : Dv Z H v (.scr ns)) : ∃ a, v = .ref a ∧ SqL Z.K H a (ns.map V.int) ∧ ns.length ≤ 63 := by cases h with | scr h z => exact ⟨_, rfl, h, z⟩
theorem DvAll.ofNil {vs : List V} (h : DvAll Z H vs []) : vs = [] := by cases h; rfl
theorem DvAll.ofCons {vs : List V} {d : D} {ds : List D} (h : DvAll Z H vs (d :: ds)) : ∃ v us, vs = v :: us ∧ Dv Z H v d ∧ DvAll Z H us ds := by cases h with | cons a b => exact ⟨_, _, rfl, a, b⟩
theorem DvAll.ofOne {vs : List V} {d : D} (h : DvAll Z H vs [d]) : ∃ v, vs = [v] ∧ Dv Z H v d := by
  obtain ⟨v, us, rfl, a, b⟩ := h.ofCons
  rw [b.ofNil]; exact ⟨v, rfl, a⟩
theorem DvAll.ofTwo {vs : List V} {d e : D} (h : DvAll Z H vs [d, e]) : ∃ v u, vs = [v, u] ∧ Dv Z H v d ∧ Dv Z H u e := by
  obtain ⟨v, us, rfl, a, b⟩ := h.ofCons
  obtain ⟨u, rfl, c⟩ := b.ofOne
  exact ⟨v, u, rfl, a, c⟩
mutual
theorem Dv.mono (s : Same H H') : ∀ {v : V} {d : D}, Dv Z H v d → Dv Z H' v d
  | _, _, .non => .non
  | _, _, .bl b => .bl b
  | _, _, .int i => .int i
  | _, _, .str x h => .str x h
  | _, _, .lst h a => .lst (s _ _ h) (DvAll.mono s a)
  | _, _, .tup h a => .tup (s _ _ h) (DvAll.mono s a)
  | _, _, .obj a => .obj a
  | _, _, .rng h => .rng (s _ _ h)
  | _, _, .scr h z => .scr (h.mono s) z
  | _, _, .web h r g a b => .web (s _ _ h) (Dv.mono s r) g a b
theorem DvAll.mono (s : Same H H') : ∀ {vs : List V} {ds : List D}, DvAll Z H vs ds → DvAll Z H' vs ds
  | _, _, .nil => .nil
  | _, _, .cons a as => .cons (Dv.mono s a) (DvAll.mono s as)
end
theorem DvAll.length : ∀ {vs : List V} {ds : List D}, DvAll Z H vs ds → vs.length = ds.length
  | _, _, .nil => rfl
  | _, _, .cons _ as => congrArg (· + 1) as.length
theorem DvAll.get : ∀ {vs : List V} {ds : List D} {i : Nat} {d : D}, DvAll Z H vs ds → ds[i]? = some d → ∃ v, vs[i]? = some v ∧ Dv Z H v d
  | _, _, _, _, .nil, e => by simp at e
  | _, _, 0, _, .cons a as, e => by simp at e; subst e; exact ⟨_, rfl, a⟩
  | _, _, i + 1, d, .cons a as, e => by
    obtain ⟨v, h1, h2⟩ := DvAll.get (i := i) (d := d) as (by simpa using e)
    exact ⟨v, by simpa using h1, h2⟩
theorem DvAll.getV : ∀ {vs : List V} {ds : List D} {i : Nat} {v : V}, DvAll Z H vs ds → vs[i]? = some v → ∃ d, ds[i]? = some d ∧ Dv Z H v d
  | _, _, _, _, .nil, e => by simp at e
  | _, _, 0, _, .cons a as, e => by simp at e; subst e; exact ⟨_, rfl, a⟩
  | _, _, i + 1, d, .cons a as, e => by
    obtain ⟨v, h1, h2⟩ := DvAll.getV (i := i) (v := d) as (by simpa using e)
    exact ⟨v, by simpa using h1, h2⟩
theorem DvAll.append : ∀ {vs us : List V} {ds es : List D}, DvAll Z H vs ds → DvAll Z H us es → DvAll Z H (vs ++ us) (ds ++ es)
  | _, _, _, _, .nil, b => b
  | _, _, _, _, .cons a as, b => .cons a (as.append b)
theorem DvAll.take : ∀ {vs : List V} {ds : List D} (n : Nat), DvAll Z H vs ds → DvAll Z H (vs.take n) (ds.take n)
  | _, _, 0, _ => by simpa using DvAll.nil
  | _, _, n + 1, .nil => by simpa using DvAll.nil
  | _, _, n + 1, .cons a as => by simpa using DvAll.cons a (as.take n)
theorem DvAll.drop : ∀ {vs : List V} {ds : List D} (n : Nat), DvAll Z H vs ds → DvAll Z H (vs.drop n) (ds.drop n)
  | _, _, 0, h => h
  | _, _, n + 1, .nil => by simpa using DvAll.nil
  | _, _, n + 1, .cons a as => by simpa using as.drop n
theorem DvAll.set {v : V} {d : D} (h : Dv Z H v d) : ∀ {vs : List V} {ds : List D} (n : Nat), DvAll Z H vs ds → DvAll Z H (vs.set n v) (ds.set n d)
  | _, _, _, .nil => .nil
  | _, _, 0, .cons a as => .cons h as
  | _, _, n + 1, .cons a as => .cons a (DvAll.set h n as)
theorem DvAll.ints : ∀ (ns : List Int), DvAll Z H (ns.map V.int) (ns.map D.int)
  | [] => .nil
  | n :: ns => .cons (.int n) (DvAll.ints ns)
theorem DvAll.snoc {vs : List V} {ds : List D} {v : V} {d : D} (a : DvAll Z H vs ds) (b : Dv Z H v d) : DvAll Z H (vs ++ [v]) (ds ++ [d]) := a.append (.cons b .nil)
/-! ### the pure part of a heap, and how it grows -/
structure Ext (G H G' H' : Hp) : Prop where
  gg : Same G G'
  sub : Same G' H'
  hh : Same H H'
  off : ∀ b, H b ≠ none → G b = none → G' b = none
theorem Ext.refl (s : Same G H) : Ext G H G H := ⟨.refl _, s, .refl _, fun _ _ h => h⟩
theorem Ext.trans {G1 H1 G2 H2 : Hp} (a : Ext G H G1 H1) (b : Ext G1 H1 G2 H2) : Ext G H G2 H2 :=
  ⟨a.gg.trans b.gg, b.sub, a.hh.trans b.hh, fun x h g => b.off x (fun z => by
    cases e : H x with
    | none => exact h e
    | some o => rw [a.hh x o e] at z; cases z) (a.off x h g)⟩
theorem Ext.new {p : Addr} {o : HO} (s : Same G H) (h : H p = none) : Ext G H (upd G p o) (upd H p o) := by
  have hg : G p = none := s.free h
  refine ⟨same_new hg o, fun b u e => ?_, same_new h o, fun b hb hg => ?_⟩
  · by_cases z : b = p
    · subst z; rw [upd_same] at e ⊢; exact e
    · rw [upd_ne z] at e ⊢; exact s b u e
  · have : b ≠ p := fun z => hb (by rw [z]; exact h)
    rw [upd_ne this]; exact hg
end
/-! ### the judgements -/
abbrev DN := List (Option D)
structure EnvD (Z : DC) (G : Hp) (σ : St) (ρ : DN) : Prop where
  len : ρ.length = σ.length
  at_ : ∀ (i : Nat) (d : D), ρ[i]? = some (some d) → ∃ v, σ[i]? = some (some v) ∧ Dv Z G v d
section
variable {Z : DC} {G G' H H' : Hp} {σ : St} {ρ : DN}
theorem EnvD.mono (e : EnvD Z G σ ρ) (s : Same G G') : EnvD Z G' σ ρ := ⟨e.len, fun i d h => let ⟨v, a, b⟩ := e.at_ i d h; ⟨v, a, b.mono s⟩⟩
theorem EnvD.set {i : Nat} {v : V} {d : D} (e : EnvD Z G σ ρ) (h : Dv Z G v d) : EnvD Z G (σ.set i (some v)) (ρ.set i (some d)) := by
  refine ⟨by rw [List.length_set, List.length_set]; exact e.len, fun j c hj => ?_⟩
  by_cases z : i = j
  · subst z
    by_cases hi : i < ρ.length
    · rw [List.getElem?_set_self hi] at hj
      cases hj
      exact ⟨v, by rw [List.getElem?_set_self (by rw [← e.len]; exact hi)], h⟩
    · rw [List.set_eq_of_length_le (Nat.le_of_not_lt hi)] at hj
      rw [List.getElem?_eq_none (Nat.le_of_not_lt hi)] at hj; cases hj
  · rw [List.getElem?_set_ne z] at hj ⊢
    exact e.at_ j c hj
end
abbrev DTE := DN → (D → Prop) → Prop
abbrev DTT := DN → (Bool → Prop) → Prop
abbrev DTA := DN → (List D → Prop) → Prop
abbrev DR2 := D → D → (D → Prop) → Prop
abbrev DTG := D → DN → (DN → Prop) → Prop
abbrev DTI := DN → (List D → Prop) → Prop
def liftE (Z : DC) (t : DTE) : TE := fun σ H Q => ∃ (G : Hp) (ρ : DN) (P : D → Prop), Same G H ∧ EnvD Z G σ ρ ∧ t ρ P ∧ ∀ d, P d → ∀ v G' H', Ext G H G' H' → Dv Z G' v d → Q v H'
def liftT (Z : DC) (t : DTT) : TT := fun σ H Q => ∃ (G : Hp) (ρ : DN) (P : Bool → Prop), Same G H ∧ EnvD Z G σ ρ ∧ t ρ P ∧ ∀ b, P b → ∀ G' H', Ext G H G' H' → Q b H'
def liftA (Z : DC) (t : DTA) : TA := fun σ H Q => ∃ (G : Hp) (ρ : DN) (P : List D → Prop), Same G H ∧ EnvD Z G σ ρ ∧ t ρ P ∧ ∀ ds, P ds → ∀ vs G' H', Ext G H G' H' → DvAll Z G' vs ds → Q vs H'
def liftR (Z : DC) (r : DR2) : R2 := fun x y H Q => ∃ (G : Hp) (a b : D) (P : D → Prop), Same G H ∧ Dv Z G x a ∧ Dv Z G y b ∧ r a b P ∧ ∀ d, P d → ∀ v G' H', Ext G H G' H' → Dv Z G' v d → Q v H'
def liftC (Z : DC) (r : List D → (D → Prop) → Prop) : List V → Hp → VK → Prop := fun vs H Q => ∃ (G : Hp) (ds : List D) (P : D → Prop), Same G H ∧ DvAll Z G vs ds ∧ r ds P ∧ ∀ d, P d → ∀ v G' H', Ext G H G' H' → Dv Z G' v d → Q v H'
/-- a def's promise, over data -/
abbrev DSp := List D → (D → Prop) → Prop
def liftSp (Z : DC) (sd : DSp) : Sp := fun vs H Q _ => liftC Z sd vs H Q
def DE (Z : DC) (X : Cx) (e : Expr) (t : DTE) : Prop := PE X e (liftE Z t)
def DT (Z : DC) (X : Cx) (e : Expr) (t : DTT) : Prop := PT X e (liftT Z t)
def DA (Z : DC) (X : Cx) (es : List Expr) (t : DTA) : Prop := PA X es (liftA Z t)
theorem PE.imp {X : Cx} {e : Expr} {t t' : TE} (h : PE X e t) (f : ∀ σ H Q, t' σ H Q → t σ H Q) : PE X e t' := fun pins s σ H Q I q => h pins s σ H Q I (f _ _ _ q)
theorem PT.imp {X : Cx} {e : Expr} {t t' : TT} (h : PT X e t) (f : ∀ σ H Q, t' σ H Q → t σ H Q) : PT X e t' := fun pins s σ H Q I q => h pins s σ H Q I (f _ _ _ q)
theorem PW.imp {X : Cx} {e : Expr} {t t' : TT} (h : PW X e t) (f : ∀ σ H Q, t' σ H Q → t σ H Q) : PW X e t' := fun wh pins s σ H Q I q => h wh pins s σ H Q I (f _ _ _ q)
theorem PA.imp {X : Cx} {es : List Expr} {t t' : TA} (h : PA X es t) (f : ∀ σ H Q, t' σ H Q → t σ H Q) : PA X es t' := fun pos pins s σ H Q I q => h pos pins s σ H Q I (f _ _ _ q)
theorem OpR.imp {X : Cx} {f : Value → Value → Sem Value} {r r' : R2} (h : OpR X f r) (g : ∀ x y H Q, r' x y H Q → r x y H Q) : OpR X f r' := fun pins s σ H x y v u Q I a b q => h pins s σ H x y v u Q I a b (g _ _ _ _ q)
theorem CallR.imp {X : Cx} {f : Value} {r r' : List V → Hp → VK → Prop} (h : CallR X f r) (g : ∀ xs H Q, r' xs H Q → r xs H Q) : CallR X f r' := fun pins s σ H xs us Q I a q => h pins s σ H xs us Q I a (g _ _ _ q)
/-! ### names, constants -/
def dVar (i : Nat) : DTE := fun ρ P => ∃ d, ρ[i]? = some (some d) ∧ P d
def dC (d : D) : DTE := fun _ P => P d
section
variable {Z : DC} {X : Cx}
theorem de_var (i : Nat) {x : Str} {pos : Pos} (hN : X.N[i]? = some x := by rfl) (hv : Vis X.env.scope x := by first | exact Or.inl rfl | exact Or.inr (Or.inl rfl) | exact Or.inr (Or.inr rfl)) (hd : (x == ("__debug__" : Str)) = false := by decide)
    (hcd : (x == ("__classdict__" : Str)) = false := by decide) : DE Z X (.Name x pos) (dVar i) :=
  (pe_var hN hv hd hcd).imp fun σ H Q ⟨G, ρ, P, s, e, ⟨d, hd, p⟩, q⟩ => let ⟨v, hv, dv⟩ := e.at_ i d hd; ⟨v, hv, q d p v G H (.refl s) dv⟩
theorem de_int {i j pos} : DE Z X (.Constant (.int i) j pos) (dC (.int i)) := pe_int.imp fun σ H Q ⟨G, ρ, P, s, e, p, q⟩ => q _ p _ G H (.refl s) (.int i)
theorem de_bl {b j pos} : DE Z X (.Constant (.bool b) j pos) (dC (.bl b)) := pe_bl.imp fun σ H Q ⟨G, ρ, P, s, e, p, q⟩ => q _ p _ G H (.refl s) (.bl b)
theorem de_non {j pos} : DE Z X (.Constant .none j pos) (dC .non) := pe_non.imp fun σ H Q ⟨G, ρ, P, s, e, p, q⟩ => q _ p _ G H (.refl s) .non
theorem de_str {x j pos} (h : PyData.strOk x = true := by decide +kernel) : DE Z X (.Constant (.str x) j pos) (dC (.str x)) := pe_str.imp fun σ H Q ⟨G, ρ, P, s, e, p, q⟩ => q _ p _ G H (.refl s) (.str x h)
theorem de_globI {x : Str} {i : Int} {pos : Pos} (hg : Gl X x) (hm : ∃ tk, X.mg x = some (.int i tk)) (hd : (x == ("__debug__" : Str)) = false := by decide) : DE Z X (.Name x pos) (dC (.int i)) := by
  obtain ⟨tk, hm⟩ := hm
  exact (pe_glob hg hm (v := .int i) ⟨tk, rfl⟩ hd).imp fun σ H Q ⟨G, ρ, P, s, e, p, q⟩ => q _ p _ G H (.refl s) (.int i)
/-! ### operators -/
def dOp (r : DR2) (ta tb : DTE) : DTE := fun ρ P => ta ρ fun a => tb ρ fun b => r a b P
variable {a b c : Expr} {ta tb tc : DTE} {pos : Pos}
theorem lift2 {r : DR2} : ∀ σ H Q, liftE Z (dOp r ta tb) σ H Q → tOp (liftR Z r) (liftE Z ta) (liftE Z tb) σ H Q := by
  rintro σ H Q ⟨G, ρ, P, s, e, h, q⟩
  refine ⟨G, ρ, _, s, e, h, fun a ha v G1 H1 x1 dv => ?_⟩
  refine ⟨G1, ρ, _, x1.sub, e.mono x1.gg, ha, fun b hb u G2 H2 x2 du => ?_⟩
  exact ⟨G2, a, b, P, x2.sub, dv.mono x2.gg, du, hb, fun d hd v' G' H' x3 dv' => q d hd v' G' H' ((x1.trans x2).trans x3) dv'⟩
theorem de_op {op : Operator} {r : DR2} (ho : OpR X (binaryOp op) (liftR Z r)) (ha : DE Z X a ta) (hb : DE Z X b tb) : DE Z X (.BinOp a op b pos) (dOp r ta tb) := (pe_op ho ha hb).imp lift2
theorem de_cmp {op : CmpOp} {r : DR2} (ho : OpR X (compareOp op) (liftR Z r)) (ha : DE Z X a ta) (hb : DE Z X b tb) (hm : behindInMarks op b = false) : DE Z X (.Compare a [op] [b] pos) (dOp r ta tb) := (pe_cmpR ho ha hb hm).imp lift2
def dTest (t : DTE) : DTT := fun ρ P => t ρ fun d => ∃ k, d = .bl k ∧ P k
theorem liftTest {t : DTE} : ∀ σ H Q, liftT Z (dTest t) σ H Q → tTest (liftE Z t) σ H Q := by
  rintro σ H Q ⟨G, ρ, P, s, e, h, q⟩
  refine ⟨G, ρ, _, s, e, h, ?_⟩
  rintro _ ⟨k, rfl, p⟩ v G1 H1 x1 dv
  cases dv
  exact ⟨k, rfl, q k p G1 H1 x1⟩
theorem dt_cmp {op : CmpOp} {r : DR2} (ho : OpR X (compareOp op) (liftR Z r)) (ha : DE Z X a ta) (hb : DE Z X b tb) (hm : behindInMarks op b = false) : DT Z X (.Compare a [op] [b] pos) (dTest (dOp r ta tb)) :=
  (pt_cmpR ho ha hb hm).imp fun σ H Q h => by
    obtain h := liftTest σ H Q h
    exact lift2 σ H _ h
/-- two comparisons in a row -/
def dChain (r r' : DR2) (ta tb tc : DTE) : DTE := fun ρ P => ta ρ fun x => tb ρ fun y => r x y fun z => ∃ k, z = .bl k ∧ (if k = true then tc ρ fun w' => r' y w' P else P (.bl false))
theorem liftChain {r r' : DR2} : ∀ σ H Q, liftE Z (dChain r r' ta tb tc) σ H Q → tChain (liftR Z r) (liftR Z r') (liftE Z ta) (liftE Z tb) (liftE Z tc) σ H Q := by
  rintro σ H Q ⟨G, ρ, P, s, e, h, q⟩
  refine ⟨G, ρ, _, s, e, h, fun a ha v G1 H1 x1 dv => ?_⟩
  refine ⟨G1, ρ, _, x1.sub, e.mono x1.gg, ha, fun b hb u G2 H2 x2 du => ?_⟩
  refine ⟨G2, a, b, _, x2.sub, dv.mono x2.gg, du, hb, ?_⟩
  rintro _ ⟨k, rfl, hk⟩ v' G3 H3 x3 dv'
  cases dv'
  refine ⟨k, rfl, ?_⟩
  have x := (x1.trans x2).trans x3
  cases k with
  | false => exact iteF (q _ hk _ G3 H3 x (.bl false))
  | true =>
    refine iteT ⟨G3, ρ, _, x3.sub, e.mono x.gg, hk, fun c hc w' G4 H4 x4 dw => ?_⟩
    exact ⟨G4, b, c, P, x4.sub, (du.mono x3.gg).mono x4.gg, dw, hc, fun d hd v'' G' H' x5 d5 => q d hd v'' G' H' ((x.trans x4).trans x5) d5⟩
theorem de_chain {op op' : CmpOp} {r r' : DR2} (ho : OpR X (compareOp op) (liftR Z r)) (ho' : OpR X (compareOp op') (liftR Z r')) (ha : DE Z X a ta) (hb : DE Z X b tb) (hc : DE Z X c tc)
    (hm : lastMarks [op, op'] [b, c] = false := by with_unfolding_all rfl) : DE Z X (.Compare a [op, op'] [b, c] pos) (dChain r r' ta tb tc) := (pe_chain ho ho' ha hb hc hm).imp liftChain
theorem dt_chain {op op' : CmpOp} {r r' : DR2} (ho : OpR X (compareOp op) (liftR Z r)) (ho' : OpR X (compareOp op') (liftR Z r')) (ha : DE Z X a ta) (hb : DE Z X b tb) (hc : DE Z X c tc)
    (hm : lastMarks [op, op'] [b, c] = false := by with_unfolding_all rfl) : DT Z X (.Compare a [op, op'] [b, c] pos) (dTest (dChain r r' ta tb tc)) :=
  (pt_chain ho ho' ha hb hc hm).imp fun σ H Q h => by
    obtain h := liftTest σ H Q h
    exact liftChain σ H _ h
/-! ### tests -/
def truD : D → Bool
  | .non => false
  | .bl b => b
  | .int i => i != 0
  | .str x => x.length != 0
  | .lst l => !l.isEmpty
  | .tup l => !l.isEmpty
  | .scr l => !l.isEmpty
  | .rng lo hi => decide (lo < hi)
  | .obj _ => true
  | .web _ => true
def isSq : D → Bool
  | .bl _ => true
  | .int _ => true
  | .lst _ => true
  | .tup _ => true
  | .non => true
  | _ => false
def dTru (t : DTE) : DTT := fun ρ P => t ρ fun d => isSq d = true ∧ P (truD d)
theorem isEmpty_dv {G : Hp} {vs : List V} {ds : List D} (h : DvAll Z G vs ds) : vs.isEmpty = ds.isEmpty := by cases h <;> rfl
theorem dt_tru (ha : DE Z X a ta) (he : ∀ whole, isTrue a X.env whole = (do let v ← whole; standAt a.pos; holding [v] (truthy v)) := by intro _; rfl) : DT Z X a (dTru ta) := by
  refine (pt_truth ha he).imp ?_
  rintro σ H Q ⟨G, ρ, P, s, e, h, q⟩
  refine ⟨G, ρ, _, s, e, h, ?_⟩
  rintro d ⟨hd, p⟩ v G1 H1 x1 dv
  refine ⟨truD d, ?_, q _ p G1 H1 x1⟩
  cases dv with
  | non => rfl
  | bl b => rfl
  | int i => rfl
  | lst h a => exact .inl ⟨_, SqL.of (x1.sub _ _ h), by rw [isEmpty_dv a]; rfl⟩
  | tup h a => exact .inr (.inl ⟨_, SqT.of (x1.sub _ _ h), by rw [isEmpty_dv a]; rfl⟩)
  | _ => cases hd
def dAnd (t u : DTT) : DTT := fun ρ P => t ρ fun c => if c = true then u ρ P else P false
def dOr (t u : DTT) : DTT := fun ρ P => t ρ fun c => if c = true then P true else u ρ P
def dNot (t : DTT) : DTT := fun ρ P => t ρ fun c => P (!c)
variable {tA tB' : DTT} {rest : List Expr}
def DW (Z : DC) (X : Cx) (e : Expr) (t : DTT) : Prop := PW X e (liftT Z t)
theorem DW.dt {e : Expr} {t : DTT} (h : DW Z X e t) : DT Z X e t := PW.pt h
theorem dw_and1 (ha : DT Z X a tA) : DW Z X (.BoolOp .And [a] pos) tA := pw_and1 ha
theorem dw_or1 (ha : DT Z X a tA) : DW Z X (.BoolOp .Or [a] pos) tA := pw_or1 ha
theorem dw_and (ha : DT Z X a tA) (hb : DW Z X (.BoolOp .And (b :: rest) pos) tB') : DW Z X (.BoolOp .And (a :: b :: rest) pos) (dAnd tA tB') := by
  refine (pw_and ha hb).imp ?_
  rintro σ H Q ⟨G, ρ, P, s, e, h, q⟩
  refine ⟨G, ρ, _, s, e, h, fun c hc G1 H1 x1 => ?_⟩
  cases c with
  | true => exact iteT ⟨G1, ρ, P, x1.sub, e.mono x1.gg, hc, fun b hb G2 H2 x2 => q b hb G2 H2 (x1.trans x2)⟩
  | false => exact iteF (q _ hc G1 H1 x1)
theorem dw_or (ha : DT Z X a tA) (hb : DW Z X (.BoolOp .Or (b :: rest) pos) tB') : DW Z X (.BoolOp .Or (a :: b :: rest) pos) (dOr tA tB') := by
  refine (pw_or ha hb).imp ?_
  rintro σ H Q ⟨G, ρ, P, s, e, h, q⟩
  refine ⟨G, ρ, _, s, e, h, fun c hc G1 H1 x1 => ?_⟩
  cases c with
  | false => exact iteF ⟨G1, ρ, P, x1.sub, e.mono x1.gg, hc, fun b hb G2 H2 x2 => q b hb G2 H2 (x1.trans x2)⟩
  | true => exact iteT (q _ hc G1 H1 x1)
theorem dt_not (ha : DT Z X a tA) : DT Z X (.UnaryOp .Not a pos) (dNot tA) := by
  refine (pt_not ha).imp ?_
  rintro σ H Q ⟨G, ρ, P, s, e, h, q⟩
  exact ⟨G, ρ, _, s, e, h, fun c hc G1 H1 x1 => q _ hc G1 H1 x1⟩
/-- as values -/
def dAndV (ta tb : DTE) : DTE := fun ρ P => ta ρ fun x => ∃ c, x = .bl c ∧ if c = true then tb ρ P else P (.bl false)
def dOrV (ta tb : DTE) : DTE := fun ρ P => ta ρ fun x => ∃ c, x = .bl c ∧ if c = true then P (.bl true) else tb ρ P
def dNotV (ta : DTE) : DTE := fun ρ P => ta ρ fun x => ∃ c, x = .bl c ∧ P (.bl (!c))
theorem de_one {op} (h : DE Z X a ta) : DE Z X (.BoolOp op [a] pos) ta := pe_one h
theorem de_and (ha : DE Z X a ta) (hb : DE Z X (.BoolOp .And (b :: rest) pos) tb) : DE Z X (.BoolOp .And (a :: b :: rest) pos) (dAndV ta tb) := by
  refine (pe_and ha hb).imp ?_
  rintro σ H Q ⟨G, ρ, P, s, e, h, q⟩
  refine ⟨G, ρ, _, s, e, h, ?_⟩
  rintro _ ⟨c, rfl, hc⟩ v G1 H1 x1 dv
  cases dv
  refine ⟨c, rfl, ?_⟩
  cases c with
  | true => exact iteT ⟨G1, ρ, P, x1.sub, e.mono x1.gg, hc, fun b hb v G2 H2 x2 d2 => q b hb v G2 H2 (x1.trans x2) d2⟩
  | false => exact iteF (q _ hc _ G1 H1 x1 (.bl false))
theorem de_or (ha : DE Z X a ta) (hb : DE Z X (.BoolOp .Or (b :: rest) pos) tb) : DE Z X (.BoolOp .Or (a :: b :: rest) pos) (dOrV ta tb) := by
  refine (pe_or ha hb).imp ?_
  rintro σ H Q ⟨G, ρ, P, s, e, h, q⟩
  refine ⟨G, ρ, _, s, e, h, ?_⟩
  rintro _ ⟨c, rfl, hc⟩ v G1 H1 x1 dv
  cases dv
  refine ⟨c, rfl, ?_⟩
  cases c with
  | false => exact iteF ⟨G1, ρ, P, x1.sub, e.mono x1.gg, hc, fun b hb v G2 H2 x2 d2 => q b hb v G2 H2 (x1.trans x2) d2⟩
  | true => exact iteT (q _ hc _ G1 H1 x1 (.bl true))
theorem de_not (ha : DE Z X a ta) : DE Z X (.UnaryOp .Not a pos) (dNotV ta) := by
  refine (pe_not ha).imp ?_
  rintro σ H Q ⟨G, ρ, P, s, e, h, q⟩
  refine ⟨G, ρ, _, s, e, h, ?_⟩
  rintro _ ⟨c, rfl, hc⟩ v G1 H1 x1 dv
  cases dv
  exact ⟨c, rfl, q _ hc _ G1 H1 x1 (.bl _)⟩
def dIf (t : DTT) (ta tb : DTE) : DTE := fun ρ P => t ρ fun c => if c = true then ta ρ P else tb ρ P
theorem de_if {c : Expr} (hc : DT Z X c tA) (ha : DE Z X a ta) (hb : DE Z X b tb) : DE Z X (.IfExp c a b pos) (dIf tA ta tb) := by
  refine (pe_ifExp hc ha hb).imp ?_
  rintro σ H Q ⟨G, ρ, P, s, e, h, q⟩
  refine ⟨G, ρ, _, s, e, h, fun c hc G1 H1 x1 => ?_⟩
  cases c with
  | true => exact iteT ⟨G1, ρ, P, x1.sub, e.mono x1.gg, hc, fun b hb v G2 H2 x2 d2 => q b hb v G2 H2 (x1.trans x2) d2⟩
  | false => exact iteF ⟨G1, ρ, P, x1.sub, e.mono x1.gg, hc, fun b hb v G2 H2 x2 d2 => q b hb v G2 H2 (x1.trans x2) d2⟩
/-! ### argument lists, displays -/
def dNil : DTA := fun _ P => P []
def dCons (ta : DTE) (t : DTA) : DTA := fun ρ P => ta ρ fun x => t ρ fun xs => P (x :: xs)
variable {es : List Expr} {t : DTA} {e : Expr}
theorem da_nil : DA Z X [] dNil := pa_nil.imp fun σ H Q ⟨G, ρ, P, s, e, p, q⟩ => q _ p _ G H (.refl s) .nil
theorem da_cons (ha : DE Z X e ta) (hr : DA Z X es t) (hs : starEach (e :: es) X.env = (false, eval e X.env) :: starEach es X.env := by rfl) : DA Z X (e :: es) (dCons ta t) := by
  refine (pa_cons ha hr hs).imp ?_
  rintro σ H Q ⟨G, ρ, P, s, e, h, q⟩
  refine ⟨G, ρ, _, s, e, h, fun a ha v G1 H1 x1 dv => ?_⟩
  exact ⟨G1, ρ, _, x1.sub, e.mono x1.gg, ha, fun ds hd vs G2 H2 x2 dvs => q _ hd _ G2 H2 (x1.trans x2) (.cons (dv.mono x2.gg) dvs)⟩
def dTup (t : DTA) : DTE := fun ρ P => t ρ fun xs => xs.length ≤ sizeLine ∧ P (.tup xs)
def dLst (t : DTA) : DTE := fun ρ P => t ρ fun xs => xs.length ≤ sizeLine ∧ P (.lst xs)
theorem de_tup {x1} (h : DA Z X es t) : DE Z X (.Tuple es x1 pos) (dTup t) := by
  refine (pe_tup h).imp ?_
  rintro σ H Q ⟨G, ρ, P, s, e, h, q⟩
  refine ⟨G, ρ, _, s, e, h, ?_⟩
  rintro ds ⟨hl, hp⟩ vs G1 H1 x1 dvs
  exact ⟨by rw [dvs.length]; exact hl, fun p hp' => q _ hp _ _ _ (x1.trans (.new x1.sub hp')) (.tup upd_same (dvs.mono (same_new (x1.sub.free hp') _)))⟩
theorem de_lst (h : DA Z X es t) : DE Z X (.List es pos) (dLst t) := by
  refine (pe_lst h).imp ?_
  rintro σ H Q ⟨G, ρ, P, s, e, h, q⟩
  refine ⟨G, ρ, _, s, e, h, ?_⟩
  rintro ds ⟨hl, hp⟩ vs G1 H1 x1 dvs
  exact ⟨by rw [dvs.length]; exact hl, fun p hp' => q _ hp _ _ _ (x1.trans (.new x1.sub hp')) (.lst upd_same (dvs.mono (same_new (x1.sub.free hp') _)))⟩
/-! ### calls -/
def dCall (r : List D → (D → Prop) → Prop) (t : DTA) : DTE := fun ρ P => t ρ fun ds => r ds P
theorem liftCall {r : List D → (D → Prop) → Prop} : ∀ σ H Q, liftE Z (dCall r t) σ H Q → liftA Z t σ H fun vs H1 => liftC Z r vs H1 Q := by
  rintro σ H Q ⟨G, ρ, P, s, e, h, q⟩
  exact ⟨G, ρ, _, s, e, h, fun ds hd vs G1 H1 x1 dvs => ⟨G1, ds, P, x1.sub, dvs, hd, fun d hp v G2 H2 x2 dv => q d hp v G2 H2 (x1.trans x2) dv⟩⟩
theorem de_call {sd : DSp} {k : Nat} {f : Addr} {fd : FuncData} {ps : List Str} {x : Str} {p : Pos} (F : FnOk X.prog X.w X.K X.mg X.base CX0 k f fd ps (liftSp Z sd)) (hr : Room k X.A) (hg : Gl X x) (hm : X.mg x = some (.ref f)) (hk : PySem.W.keepIn X.K (.ref f) = true) (hb : Binds X.K fd ps [])
    (ha : DA Z X (e :: es) t) (hdb : (x == ("__debug__" : Str)) = false := by decide) (he : starEach (e :: es) X.env = (false, eval e X.env) :: starEach es X.env := by rfl) (hpl : (backTo pos (starEach es X.env)).any (·.1) = false := by rfl) :
    DE Z X (.Call (.Name x p) (e :: es) [] pos) (dCall sd t) :=
  (pe_call F hr hg hm hk hb .nil pass0 ha hdb he hpl).imp fun σ H Q h => by
    have h := liftCall σ H Q h
    obtain ⟨G, ρ, P, s, e, h, q⟩ := h
    exact ⟨G, ρ, P, s, e, h, fun ds hd vs G1 H1 x1 dvs => by show liftSp Z sd (vs ++ []) H1 Q E0; rw [List.append_nil]; exact q ds hd vs G1 H1 x1 dvs⟩
theorem de_callB {id : String} {x : Str} {p : Pos} {r : List D → (D → Prop) → Prop} (hc : CallR X (.builtin id) (liftC Z r)) (hg : Gl X x) (hm : X.mg x = none) (hv : bootBuiltins x = some (.builtin id)) (ha : DA Z X (e :: es) t) (hn : x ≠ "__name__" := by decide) (hdb : (x == ("__debug__" : Str)) = false := by decide)
    (he : starEach (e :: es) X.env = (false, eval e X.env) :: starEach es X.env := by rfl) (hpl : (backTo pos (starEach es X.env)).any (·.1) = false := by rfl) :
    DE Z X (.Call (.Name x p) (e :: es) [] pos) (dCall r t) := (pe_callB hc hg hm hv ha hn hdb he hpl).imp liftCall
theorem de_callTy {T : String} {x : Str} {p : Pos} {r : List D → (D → Prop) → Prop} (hc : CallR X (.type T) (liftC Z r)) (hg : Gl X x) (hm : X.mg x = none) (hv : bootBuiltins x = some (.type T)) (ha : DA Z X (e :: es) t) (hn : x ≠ "__name__" := by decide) (hdb : (x == ("__debug__" : Str)) = false := by decide)
    (he : starEach (e :: es) X.env = (false, eval e X.env) :: starEach es X.env := by rfl) (hpl : (backTo pos (starEach es X.env)).any (·.1) = false := by rfl) :
    DE Z X (.Call (.Name x p) (e :: es) [] pos) (dCall r t) := (pe_callTy hc hg hm hv ha hn hdb he hpl).imp liftCall
end
end L2

set_option Elab.async false
set_option linter.all false
set_option maxRecDepth 100000
set_option maxHeartbeats 4000000
namespace L2
open PySem PySem.Spec PyProof.Rows
section
variable {Z : DC} {X : Cx}
/-! ### + - * // % ** of data -/
def dAdd : DR2 := fun x y P => match x, y with
  | .int i, .int j => P (.int (i + j))
  | .lst a, .lst b => a.length + b.length ≤ sizeLine ∧ P (.lst (a ++ b))
  | .tup a, .tup b => a ≠ [] ∧ a.length + b.length ≤ sizeLine ∧ b ≠ [] ∧ P (.tup (a ++ b))
  | _, _ => False
def dI (c : Int → Int → Prop) (g : Int → Int → Int) : DR2 := fun x y P => match x, y with
  | .int i, .int j => c i j ∧ P (.int (g i j))
  | _, _ => False
def dI0 (g : Int → Int → Int) : DR2 := fun x y P => match x, y with
  | .int i, .int j => P (.int (g i j))
  | _, _ => False
def dSub : DR2 := dI0 fun i j => i - j
def dMul : DR2 := fun x y P => match x, y with
  | .int i, .int j => CMul i j ∧ P (.int (i * j))
  | .lst a, .int k => -(2 ^ 63) ≤ k ∧ k < 2 ^ 63 ∧ a.length * k.toNat ≤ sizeLine ∧ P (.lst (List.replicate k.toNat a).flatten)
  | _, _ => False
def dDiv : DR2 := dI CDiv fun i j => i / j
def dMod : DR2 := dI (fun _ j => 0 < j) fun i j => i % j
def dPow : DR2 := dI CPow fun i j => i ^ j.toNat
theorem liftI2 {f : Value → Value → Sem Value} {c : Int → Int → Prop} {g : Int → Int → Int} (h : OpR X f (rI c fun i j => .int (g i j))) : OpR X f (liftR Z (dI c g)) := by
  refine h.imp ?_
  rintro x y H Q ⟨G, a, b, P, s, da, db, hr, q⟩
  unfold dI at hr
  split at hr
  · exact ⟨_, _, da.ofInt, db.ofInt, hr.1, q _ hr.2 _ G H (.refl s) (.int _)⟩
  · exact hr.elim
theorem liftI0 {f : Value → Value → Sem Value} {g : Int → Int → Int} (h : OpR X f (rI0 fun i j => .int (g i j))) : OpR X f (liftR Z (dI0 g)) := by
  refine h.imp ?_
  rintro x y H Q ⟨G, a, b, P, s, da, db, hr, q⟩
  unfold dI0 at hr
  split at hr
  · exact ⟨_, _, da.ofInt, db.ofInt, q _ hr _ G H (.refl s) (.int _)⟩
  · exact hr.elim
theorem od_sub : OpR X (binaryOp .Sub) (liftR Z dSub) := liftI0 op_sub
theorem od_div : OpR X (binaryOp .FloorDiv) (liftR Z dDiv) := liftI2 op_fdiv
theorem od_mod : OpR X (binaryOp .Mod) (liftR Z dMod) := liftI2 op_mod
theorem od_pow : OpR X (binaryOp .Pow) (liftR Z dPow) := liftI2 op_pow
theorem od_add (e : X.K = Z.K := by rfl) : OpR X (binaryOp .Add) (liftR Z dAdd) := by
  refine (op_add.or (op_cat.or (op_catT))).imp ?_
  rintro x y H Q ⟨G, a, b, P, s, da, db, hr, q⟩
  unfold dAdd at hr
  split at hr
  · exact .inl ⟨_, _, da.ofInt, db.ofInt, q _ hr _ G H (.refl s) (.int _)⟩
  · obtain ⟨a1, xs1, rfl, h1, e1⟩ := da.ofLst
    obtain ⟨a2, xs2, rfl, h2, e2⟩ := db.ofLst
    obtain ⟨hz, hp⟩ := hr
    refine .inr (.inl ⟨_, _, _, _, rfl, rfl, s _ _ h1, s _ _ h2, by rw [e1.length, e2.length]; exact hz, fun p hn => ?_⟩)
    exact q _ hp _ _ _ (.new s hn) (.lst upd_same ((e1.append e2).mono (same_new (s.free hn) _)))
  · obtain ⟨a1, xs1, rfl, h1, e1⟩ := da.ofTup
    obtain ⟨a2, xs2, rfl, h2, e2⟩ := db.ofTup
    obtain ⟨h0, hz, h0', hp⟩ := hr
    refine .inr (.inr ⟨_, _, _, _, rfl, rfl, SqT.of (s _ _ h1), SqT.of (s _ _ h2), ?_, by rw [e1.length, e2.length]; exact hz, ?_⟩)
    · rintro rfl; cases e1; exact h0 rfl
    · refine ⟨?_, fun _ p hn => q _ hp _ _ _ (.new s hn) (.tup upd_same ((e1.append e2).mono (same_new (s.free hn) _)))⟩
      rintro rfl; cases e2; exact (h0' rfl).elim
  · exact hr.elim
theorem DvAll.rep {G : Hp} {vs : List V} {ds : List D} (h : DvAll Z G vs ds) : ∀ k : Nat, DvAll Z G (List.replicate k vs).flatten (List.replicate k ds).flatten
  | 0 => .nil
  | k + 1 => by rw [List.replicate_succ, List.replicate_succ, List.flatten_cons, List.flatten_cons]; exact h.append (DvAll.rep h k)
theorem od_mul : OpR X (binaryOp .Mult) (liftR Z dMul) := by
  refine (op_mul.or op_rep).imp ?_
  rintro x y H Q ⟨G, a, b, P, s, da, db, hr, q⟩
  unfold dMul at hr
  split at hr
  · exact .inl ⟨_, _, da.ofInt, db.ofInt, hr.1, q _ hr.2 _ G H (.refl s) (.int _)⟩
  · obtain ⟨a1, xs1, rfl, h1, e1⟩ := da.ofLst
    obtain ⟨h0, h9, hz, hp⟩ := hr
    refine .inr ⟨_, _, _, rfl, db.ofInt, s _ _ h1, h0, h9, by rw [e1.length]; exact hz, fun p hn => ?_⟩
    exact q _ hp _ _ _ (.new s hn) (.lst upd_same ((e1.rep _).mono (same_new (s.free hn) _)))
  · exact hr.elim
/-! ### == of data -/
mutual
def D.py : D → Option PyData
  | .non => some .none
  | .bl b => some (.bool b)
  | .int i => some (.int i)
  | .str x => some (.str x)
  | .lst l => (pyAll l).map PyData.list
  | .tup l => (pyAll l).map PyData.tuple
  | .scr _ => none
  | .rng _ _ => none
  | .obj _ => none
  | .web _ => none
def pyAll : List D → Option (List PyData)
  | [] => some []
  | d :: ds => (D.py d).bind fun a => (pyAll ds).map fun as => a :: as
end
mutual
theorem Dv.dp {K : PySem.W.Frag} {G : Hp} : ∀ {v : V} {d : D} {e : PyData}, Dv Z G v d → d.py = some e → Dp K G v e
  | _, _, _, .non, h => by simp [D.py] at h; subst h; exact .non
  | _, _, _, .bl b, h => by simp [D.py] at h; subst h; exact .bl b
  | _, _, _, .int i, h => by simp [D.py] at h; subst h; exact .int i
  | _, _, _, .str x k, h => by simp [D.py] at h; subst h; exact .str x k
  | _, _, _, .lst a as, h => by
    simp [D.py] at h
    obtain ⟨l, h1, rfl⟩ := h
    exact .lst (SqL.of a) (DvAll.dp as h1)
  | _, _, _, .tup a as, h => by
    simp [D.py] at h
    obtain ⟨l, h1, rfl⟩ := h
    exact .tup (SqT.of a) (DvAll.dp as h1)
  | _, _, _, .scr _ _, h => by simp [D.py] at h
  | _, _, _, .rng _, h => by simp [D.py] at h
  | _, _, _, .obj _, h => by simp [D.py] at h
  | _, _, _, .web _ _ _ _ _, h => by simp [D.py] at h
theorem DvAll.dp {K : PySem.W.Frag} {G : Hp} : ∀ {vs : List V} {ds : List D} {es : List PyData}, DvAll Z G vs ds → pyAll ds = some es → DpAll K G vs es
  | _, _, _, .nil, h => by simp [pyAll] at h; subst h; exact .nil
  | _, _, _, .cons (d := d) (ds := ds) a as, h => by
    rw [pyAll] at h
    cases h1 : d.py with
    | none => rw [h1] at h; cases h
    | some x =>
      rw [h1] at h
      cases h2 : pyAll ds with
      | none => rw [h2] at h; cases h
      | some y => rw [h2] at h; cases h; exact .cons (Dv.dp a h1) (DvAll.dp as h2)
end
theorem SqT.mono {K : PySem.W.Frag} {H H' : Hp} {a : Addr} {xs : List V} (s : Same H H') (h : SqT K H a xs) : SqT K H' a xs := by
  rcases h with (h | ⟨o, h⟩) | h
  · exact .inl (.inl (s _ _ h))
  · exact .inl (.inr ⟨o, s _ _ h⟩)
  · exact .inr h
mutual
theorem Dp.mono {K : PySem.W.Frag} {G H : Hp} (s : Same G H) : ∀ {v : V} {d : PyData}, Dp K G v d → Dp K H v d
  | _, _, .non => .non
  | _, _, .bl b => .bl b
  | _, _, .int i => .int i
  | _, _, .str x h => .str x h
  | _, _, .lst h a => .lst (h.mono s) (DpAll.mono s a)
  | _, _, .tup h a => .tup (h.mono s) (DpAll.mono s a)
theorem DpAll.mono {K : PySem.W.Frag} {G H : Hp} (s : Same G H) : ∀ {vs : List V} {ds : List PyData}, DpAll K G vs ds → DpAll K H vs ds
  | _, _, .nil => .nil
  | _, _, .cons a as => .cons (Dp.mono s a) (DpAll.mono s as)
end
def dEqN (neg : Bool) : DR2 := fun x y P => ∃ a b, x.py = some a ∧ y.py = some b ∧ a.depth ≤ 64 ∧ P (.bl (if neg then !PyData.eqv a b else PyData.eqv a b))
abbrev dEq : DR2 := dEqN false
abbrev dNe : DR2 := dEqN true
theorem od_eq (hu : X.A.units + 64 < cLine) : OpR X (compareOp .Eq) (liftR Z dEq) := by
  refine (op_eqD hu).imp ?_
  rintro x y H Q ⟨G, a, b, P, s, da, db, ⟨c, d, h1, h2, h3, hp⟩, q⟩
  exact ⟨c, d, (da.dp h1).mono s, (db.dp h2).mono s, h3, q _ hp _ G H (.refl s) (.bl _)⟩
theorem od_ne (hu : X.A.units + 64 < cLine) : OpR X (compareOp .NotEq) (liftR Z dNe) := by
  refine (op_neD hu).imp ?_
  rintro x y H Q ⟨G, a, b, P, s, da, db, ⟨c, d, h1, h2, h3, hp⟩, q⟩
  exact ⟨c, d, (da.dp h1).mono s, (db.dp h2).mono s, h3, q _ hp _ G H (.refl s) (.bl _)⟩
theorem dEq_int {i j : Int} {P : D → Prop} (h : P (.bl (decide (i = j)))) : dEq (.int i) (.int j) P := ⟨.int i, .int j, rfl, rfl, by simp [PyData.depth], by
  have : PyData.eqv (.int i) (.int j) = decide (i = j) := by
    rw [PyData.eqv]
    by_cases z : i = j <;> simp [z]
  simpa [this] using h⟩
theorem dNe_int {i j : Int} {P : D → Prop} (h : P (.bl (!decide (i = j)))) : dNe (.int i) (.int j) P := ⟨.int i, .int j, rfl, rfl, by simp [PyData.depth], by
  have : PyData.eqv (.int i) (.int j) = decide (i = j) := by
    rw [PyData.eqv]
    by_cases z : i = j <;> simp [z]
  simpa [this] using h⟩
/-! ### < <= > >= of ints -/
def dCmp (p : Int → Int → Bool) : DR2 := fun x y P => match x, y with
  | .int i, .int j => P (.bl (p i j))
  | _, _ => False
theorem liftCmp {f : Value → Value → Sem Value} {p : Int → Int → Bool} (h : OpR X f (rI0 fun i j => .bl (p i j))) : OpR X f (liftR Z (dCmp p)) := by
  refine h.imp ?_
  rintro x y H Q ⟨G, a, b, P, s, da, db, hr, q⟩
  unfold dCmp at hr
  split at hr
  · exact ⟨_, _, da.ofInt, db.ofInt, q _ hr _ G H (.refl s) (.bl _)⟩
  · exact hr.elim
end
end L2

set_option Elab.async false
set_option linter.all false
set_option maxRecDepth 100000
set_option maxHeartbeats 4000000
namespace L2
open PySem PySem.Spec PyProof.Rows
section
variable {Z : DC} {X : Cx}
abbrev dLt : DR2 := dCmp fun i j => decide (i < j)
abbrev dLe : DR2 := dCmp fun i j => decide (i ≤ j)
abbrev dGt : DR2 := dCmp fun i j => decide (j < i)
theorem od_lt : OpR X (compareOp .Lt) (liftR Z dLt) := liftCmp op_lt
theorem od_le : OpR X (compareOp .LtE) (liftR Z dLe) := liftCmp op_le
theorem od_gt : OpR X (compareOp .Gt) (liftR Z dGt) := liftCmp op_gt
/-! ### is None -/
def isNon : D → Bool
  | .non => true
  | _ => false
def dIsN (neg : Bool) : DR2 := fun x y P => match y with
  | .non => P (.bl (if neg then !isNon x else isNon x))
  | _ => False
theorem isNon_dv {G : Hp} {v : V} {d : D} (h : Dv Z G v d) : decide (v = .non) = isNon d := by cases h <;> rfl
theorem od_is : OpR X (compareOp .Is) (liftR Z (dIsN false)) := by
  refine op_isN.imp ?_
  rintro x y H Q ⟨G, a, b, P, s, da, db, hr, q⟩
  cases db <;> first | exact hr.elim | skip
  exact ⟨rfl, by rw [isNon_dv da]; exact q _ hr _ G H (.refl s) (.bl _)⟩
theorem od_isnot : OpR X (compareOp .IsNot) (liftR Z (dIsN true)) := by
  refine op_notN.imp ?_
  rintro x y H Q ⟨G, a, b, P, s, da, db, hr, q⟩
  cases db <;> first | exact hr.elim | skip
  exact ⟨rfl, by rw [isNon_dv da]; exact q _ hr _ G H (.refl s) (.bl _)⟩
/-! ### in, not in -/
def flatD : D → Bool
  | .non => true
  | .bl _ => true
  | .int _ => true
  | .str _ => true
  | _ => false
def eqFD : D → D → Bool
  | .non, .non => true
  | .bl a, .bl b => a == b
  | .bl a, .int b => (if a then 1 else 0) == b
  | .int a, .bl b => a == (if b then 1 else 0)
  | .int a, .int b => a == b
  | .str a, .str b => a == b
  | _, _ => false
def inD (x : D) (l : List D) : Bool := l.any fun y => eqFD y x
theorem flat_dv {G : Hp} {v : V} {d : D} (h : Dv Z G v d) : flatV v = flatD d := by cases h <;> rfl
theorem flatAll_dv {G : Hp} : ∀ {vs : List V} {ds : List D}, DvAll Z G vs ds → vs.all flatV = ds.all flatD
  | _, _, .nil => rfl
  | _, _, .cons a as => by rw [List.all_cons, List.all_cons, flat_dv a, flatAll_dv as]
theorem eqF_dv {G : Hp} {v u : V} {d e : D} (h : Dv Z G v d) (k : Dv Z G u e) : eqV v u = eqFD d e := by cases h <;> cases k <;> rfl
theorem in_dv {G : Hp} {v : V} {d : D} (h : Dv Z G v d) : ∀ {vs : List V} {ds : List D}, DvAll Z G vs ds → inV v vs = inD d ds
  | _, _, .nil => rfl
  | _, _, .cons a as => by
    unfold inV inD
    rw [List.any_cons, List.any_cons, eqF_dv a h]
    exact congrArg _ (in_dv h as)
def dIn (neg : Bool) : DR2 := fun x y P => match y with
  | .lst l => flatD x = true ∧ l.all flatD = true ∧ P (.bl (if neg then !inD x l else inD x l))
  | .tup l => flatD x = true ∧ l.all flatD = true ∧ P (.bl (if neg then !inD x l else inD x l))
  | _ => False
theorem rd_in {neg : Bool} : ∀ x y H Q, liftR Z (dIn neg) x y H Q → rIn X.K neg x y H Q := by
  rintro x y H Q ⟨G, a, b, P, s, da, db, hr, q⟩
  cases db <;> first | exact hr.elim | skip
  · rename_i p xs ds h e
    obtain ⟨h1, h2, hp⟩ := hr
    refine ⟨p, xs, rfl, .inl (SqL.of (s _ _ h)), by rw [flat_dv da]; exact h1, by rw [flatAll_dv e]; exact h2, ?_⟩
    rw [in_dv da e]
    exact q _ hp _ G H (.refl s) (.bl _)
  · rename_i p xs ds h e
    obtain ⟨h1, h2, hp⟩ := hr
    refine ⟨p, xs, rfl, .inr (SqT.of (s _ _ h)), by rw [flat_dv da]; exact h1, by rw [flatAll_dv e]; exact h2, ?_⟩
    rw [in_dv da e]
    exact q _ hp _ G H (.refl s) (.bl _)
theorem od_in : OpR X (compareOp .In) (liftR Z (dIn false)) := op_in_seq.imp rd_in
theorem od_notin : OpR X (compareOp .NotIn) (liftR Z (dIn true)) := op_notIn_seq.imp rd_in
/-! ### places and slices -/
def dIx : DR2 := fun x y P => match x, y with
  | .lst l, .int i => ∃ d, atI l i = some d ∧ P d
  | .tup l, .int i => ∃ d, atI l i = some d ∧ P d
  | .scr l, .int i => ∃ n, atI l i = some n ∧ P (.int n)
  | _, _ => False
theorem atI_dv {G : Hp} {vs : List V} {ds : List D} {i : Int} {d : D} (h : DvAll Z G vs ds) (e : atI ds i = some d) : ∃ v, atI vs i = some v ∧ Dv Z G v d := by
  unfold atI at e ⊢
  rw [h.length]
  cases z : ixN ds.length i with
  | none => rw [z] at e; cases e
  | some j => rw [z] at e; exact h.get e
theorem atI_map {α β : Type} (f : α → β) (l : List α) (i : Int) : atI (l.map f) i = (atI l i).map f := by
  unfold atI
  rw [List.length_map]
  cases ixN l.length i with
  | none => rfl
  | some j => show (l.map f)[j]? = _; rw [List.getElem?_map]; rfl
variable {a b c e : Expr} {ta tb tc te : DTE} {pos : Pos}
theorem de_ix (ha : DE Z X a ta) (hb : DE Z X b tb) (eK : X.K = Z.K := by rfl) (hs : PlainIx b := by exact fun _ _ => rfl) : DE Z X (.Subscript a b pos) (dOp dIx ta tb) := by
  refine (pe_ix (ix_list.or ix_tup) ha hb hs).imp fun σ H Q h => ?_
  obtain ⟨G, ρ, P, s, e, h, q⟩ := lift2 σ H Q h
  refine ⟨G, ρ, P, s, e, h, fun d hd v G1 H1 x1 dv => ?_⟩
  obtain ⟨G', ρ', P', s', e', h', q'⟩ := q d hd v G1 H1 x1 dv
  refine ⟨G', ρ', P', s', e', h', fun d2 hd2 v2 G2 H2 x2 dv2 => ?_⟩
  obtain ⟨G, a, b, P, s, da, db, hr, q⟩ := q' d2 hd2 v2 G2 H2 x2 dv2
  unfold dIx at hr
  split at hr
  · obtain ⟨d, h1, hp⟩ := hr
    obtain ⟨_, _, rfl, h, e⟩ := da.ofLst
    obtain ⟨v, hv, dv⟩ := atI_dv e h1
    exact .inl ⟨_, _, _, v, rfl, db.ofInt, SqL.of (s _ _ h), hv, q _ hp _ G _ (.refl s) dv⟩
  · obtain ⟨d, h1, hp⟩ := hr
    obtain ⟨_, _, rfl, h, e⟩ := da.ofTup
    obtain ⟨v, hv, dv⟩ := atI_dv e h1
    exact .inr ⟨_, _, _, v, rfl, db.ofInt, SqT.of (s _ _ h), hv, q _ hp _ G _ (.refl s) dv⟩
  rotate_left
  · exact hr.elim
  · obtain ⟨d, h1, hp⟩ := hr
    obtain ⟨_, rfl, h, _⟩ := da.ofScr
    refine .inl ⟨_, _, _, .int d, rfl, db.ofInt, by rw [eK]; exact h.mono s, by rw [atI_map, h1]; rfl, q _ hp _ G _ (.refl s) (.int d)⟩
def cutD {α : Type} (xs : List α) (lo hi : Option Int) : List α := (xs.drop (HT.sIx xs.length 0 lo)).take (HT.sIx xs.length xs.length hi - HT.sIx xs.length 0 lo)
theorem cut_dv {G : Hp} {vs : List V} {ds : List D} (h : DvAll Z G vs ds) (lo hi : Option Int) : DvAll Z G (cutV vs lo hi) (cutD ds lo hi) := by
  unfold cutV cutD
  rw [h.length]
  exact (h.drop _).take _
theorem cutD_map {α β : Type} (f : α → β) (l : List α) (lo hi : Option Int) : cutD (l.map f) lo hi = (cutD l lo hi).map f := by
  unfold cutD
  rw [List.length_map, List.map_take, List.map_drop]
abbrev DTO := DN → (Option Int → Prop) → Prop
def dNoPart : DTO := fun _ P => P none
def dPart (t : DTE) : DTO := fun ρ P => t ρ fun d => match d with
  | .int i => P (some i)
  | _ => False
def liftO (Z : DC) (t : DTO) : TO := fun σ H Q => ∃ (G : Hp) (ρ : DN) (P : Option Int → Prop), Same G H ∧ EnvD Z G σ ρ ∧ t ρ P ∧ ∀ o, P o → ∀ G' H', Ext G H G' H' → Q o H'
def DO (Z : DC) (X : Cx) (e : Option Expr) (t : DTO) : Prop := PO X e (liftO Z t)
theorem PO.imp {e : Option Expr} {t t' : TO} (h : PO X e t) (f : ∀ σ H Q, t' σ H Q → t σ H Q) : PO X e t' := fun pins s σ H Q I q => h pins s σ H Q I (f _ _ _ q)
theorem do_none : DO Z X none dNoPart := po_none.imp fun σ H Q ⟨G, ρ, P, s, e, p, q⟩ => q _ p G H (.refl s)
theorem do_some (h : DE Z X e te) : DO Z X (some e) (dPart te) := by
  refine (po_some h).imp ?_
  rintro σ H Q ⟨G, ρ, P, s, e, h, q⟩
  refine ⟨G, ρ, _, s, e, h, fun d hd v G1 H1 x1 dv => ?_⟩
  cases dv <;> first | exact hd.elim | skip
  exact ⟨_, rfl, q _ hd G1 H1 x1⟩
def dSl (te : DTE) (tl th : DTO) : DTE := fun ρ P => te ρ fun x => tl ρ fun lo => th ρ fun hi => match x with
  | .lst l => P (.lst (cutD l lo hi))
  | .tup l => ¬ (HT.sIx l.length 0 lo = 0 ∧ HT.sIx l.length l.length hi = l.length) ∧ P (.tup (cutD l lo hi))
  | .scr l => P (.lst ((cutD l lo hi).map D.int))
  | _ => False
variable {lo hi : Option Expr} {tl th : DTO} {p2 : Pos}
theorem de_slice (he : DE Z X e te) (hl : DO Z X lo tl) (hu : DO Z X hi th) (eK : X.K = Z.K := by rfl) : DE Z X (.Subscript e (.Slice lo hi none p2) pos) (dSl te tl th) := by
  refine (pe_slice (sl_list.or sl_tup) he hl hu).imp ?_
  rintro σ H Q ⟨G, ρ, P, s, en, h, q⟩
  refine ⟨G, ρ, _, s, en, h, fun d hd v G1 H1 x1 dv => ?_⟩
  refine ⟨G1, ρ, _, x1.sub, en.mono x1.gg, hd, fun l hl G2 H2 x2 => ?_⟩
  refine ⟨G2, ρ, _, x2.sub, (en.mono x1.gg).mono x2.gg, hl, fun u hu G3 H3 x3 => ?_⟩
  have x := (x1.trans x2).trans x3
  have dv := (dv.mono x2.gg).mono x3.gg
  cases dv <;> first | exact hu.elim | skip
  · rename_i h e
    exact .inl ⟨_, _, rfl, SqL.of (x3.sub _ _ h), fun p hn => q _ hu _ _ _ (x.trans (.new x3.sub hn)) (.lst upd_same ((cut_dv e l u).mono (same_new (x3.sub.free hn) _)))⟩
  · rename_i h e
    refine .inr ⟨_, _, rfl, SqT.of (x3.sub _ _ h), by rw [e.length]; exact hu.1, fun p hn => q _ hu.2 _ _ _ (x.trans (.new x3.sub hn)) (.tup upd_same ((cut_dv e l u).mono (same_new (x3.sub.free hn) _)))⟩
  · rename_i h _
    refine .inl ⟨_, _, rfl, by rw [eK]; exact h.mono x3.sub, fun p hn => q _ hu _ _ _ (x.trans (.new x3.sub hn)) (.lst upd_same ?_)⟩
    show DvAll Z _ (cutD _ l u) _
    rw [cutD_map]
    exact .ints _
/-! ### builtins -/
def bLen : DSp := fun ds P => match ds with
  | [.lst l] => P (.int l.length)
  | [.tup l] => P (.int l.length)
  | [.scr l] => P (.int l.length)
  | _ => False
theorem cd_len (eK : X.K = Z.K := by rfl) : CallR X (.builtin "len") (liftC Z bLen) := by
  refine call_len_seq.imp ?_
  rintro xs H Q ⟨G, ds, P, s, dv, hr, q⟩
  unfold bLen at hr
  split at hr
  · obtain ⟨_, rfl, a⟩ := dv.ofOne
    obtain ⟨_, _, rfl, h, e⟩ := a.ofLst
    exact ⟨_, _, rfl, .inl (SqL.of (s _ _ h)), by rw [e.length]; exact q _ hr _ G H (.refl s) (.int _)⟩
  · obtain ⟨_, rfl, a⟩ := dv.ofOne
    obtain ⟨_, _, rfl, h, e⟩ := a.ofTup
    exact ⟨_, _, rfl, .inr (SqT.of (s _ _ h)), by rw [e.length]; exact q _ hr _ G H (.refl s) (.int _)⟩
  · obtain ⟨_, rfl, a⟩ := dv.ofOne
    obtain ⟨_, rfl, h, _⟩ := a.ofScr
    exact ⟨_, _, rfl, .inl (by rw [eK]; exact h.mono s), by rw [List.length_map]; exact q _ hr _ G H (.refl s) (.int _)⟩
  · exact hr.elim
def bList : DSp := fun ds P => match ds with
  | [.lst l] => P (.lst l)
  | [.tup l] => P (.lst l)
  | _ => False
theorem cd_list : CallR X (.type "list") (liftC Z bList) := by
  refine call_list_of.imp ?_
  rintro xs H Q ⟨G, ds, P, s, dv, hr, q⟩
  unfold bList at hr
  split at hr
  · obtain ⟨_, rfl, a⟩ := dv.ofOne
    obtain ⟨_, _, rfl, h, e⟩ := a.ofLst
    exact ⟨_, _, rfl, .inl (SqL.of (s _ _ h)), fun p hn => q _ hr _ _ _ (.new s hn) (.lst upd_same (e.mono (same_new (s.free hn) _)))⟩
  · obtain ⟨_, rfl, a⟩ := dv.ofOne
    obtain ⟨_, _, rfl, h, e⟩ := a.ofTup
    exact ⟨_, _, rfl, .inr (SqT.of (s _ _ h)), fun p hn => q _ hr _ _ _ (.new s hn) (.lst upd_same (e.mono (same_new (s.free hn) _)))⟩
  · exact hr.elim
def bTuple : DSp := fun ds P => match ds with
  | [.lst l] => P (.tup l)
  | [.tup l] => P (.tup l)
  | _ => False
theorem cd_tuple : CallR X (.type "tuple") (liftC Z bTuple) := by
  refine call_tuple_of.imp ?_
  rintro xs H Q ⟨G, ds, P, s, dv, hr, q⟩
  unfold bTuple at hr
  split at hr
  · obtain ⟨_, rfl, a⟩ := dv.ofOne
    obtain ⟨_, _, rfl, h, e⟩ := a.ofLst
    exact ⟨_, _, rfl, .inl ⟨SqL.of (s _ _ h), fun p hn => q _ hr _ _ _ (.new s hn) (.tup upd_same (e.mono (same_new (s.free hn) _)))⟩⟩
  · obtain ⟨_, rfl, a⟩ := dv.ofOne
    obtain ⟨_, _, rfl, h, e⟩ := a.ofTup
    exact ⟨_, _, rfl, .inr ⟨SqT.of (s _ _ h), q _ hr _ _ _ (.refl s) (.tup h e)⟩⟩
  · exact hr.elim
def bInt : DSp := fun ds P => match ds with
  | [.int i] => P (.int i)
  | [.bl b] => P (.int (if b then 1 else 0))
  | _ => False
/-! ### isinstance of a built-in type -/
def isI : String → D → Bool
  | "int", .int _ => true
  | "int", .bl _ => true
  | "bool", .bl _ => true
  | "list", .lst _ => true
  | "tuple", .tup _ => true
  | _, _ => false
def okI (n : String) : Bool := n == "int" || n == "bool" || n == "list" || n == "tuple"
def okID : D → Bool
  | .non => true
  | .bl _ => true
  | .int _ => true
  | .str _ => true
  | .lst _ => true
  | .tup _ => true
  | _ => false
def dIsI (n : String) (t : DTE) : DTE := fun ρ P => t ρ fun d => okID d = true ∧ P (.bl (isI n d))
theorem kit_is {K : PySem.W.Frag} {H : Hp} {v : V} {d : D} {n : String} (hn : okI n = true) (hd : okID d = true) (h : Dv Z H v d) : ∃ t, TyOf K H v t ∧ PySem.W.kitOne K t (.type n) = some (isI n d) := by
  unfold okI at hn
  rw [Bool.or_eq_true, Bool.or_eq_true, Bool.or_eq_true, beq_iff_eq, beq_iff_eq, beq_iff_eq, beq_iff_eq] at hn
  cases h with
  | non => refine ⟨_, .non, ?_⟩; rcases hn with ((rfl | rfl) | rfl) | rfl <;> kernel_rfl
  | bl b => refine ⟨_, .bl b, ?_⟩; rcases hn with ((rfl | rfl) | rfl) | rfl <;> kernel_rfl
  | int b => refine ⟨_, .int b, ?_⟩; rcases hn with ((rfl | rfl) | rfl) | rfl <;> kernel_rfl
  | str b => refine ⟨_, .str b, ?_⟩; rcases hn with ((rfl | rfl) | rfl) | rfl <;> kernel_rfl
  | lst h a => refine ⟨_, .lst h, ?_⟩; rcases hn with ((rfl | rfl) | rfl) | rfl <;> kernel_rfl
  | tup h a => refine ⟨_, .tup h, ?_⟩; rcases hn with ((rfl | rfl) | rfl) | rfl <;> kernel_rfl
  | _ => cases hd
end
end L2

set_option Elab.async false
set_option linter.all false
set_option maxRecDepth 100000
set_option maxHeartbeats 4000000
namespace L2
open PySem PySem.Spec PyProof.Rows
section
variable {Z : DC} {X : Cx} {a b c e : Expr} {ta tb tc te : DTE} {pos : Pos}
theorem de_isI (n : String) {x : Str} {p p' : Pos} (ha : DE Z X a ta) (hg : Gl X "isinstance") (hm : X.mg "isinstance" = none) (hg' : Gl X x) (hm' : X.mg x = none) (hv : bootBuiltins x = some (.type n)) (ok : okI n = true := by decide)
    (hn : x ≠ "__name__" := by decide) (hd : (x == ("__debug__" : Str)) = false := by decide) (hs : starEach [a, .Name x p'] X.env = (false, eval a X.env) :: starEach [.Name x p'] X.env := by rfl)
    (hpl : (backTo pos (starEach [.Name x p'] X.env)).any (·.1) = false := by rfl) (hs2 : starEach [.Name x p'] X.env = (false, eval (.Name x p') X.env) :: starEach [] X.env := by rfl) :
    DE Z X (.Call (.Name "isinstance" p) [a, .Name x p'] [] pos) (dIsI n ta) := by
  have hb : PE X (.Name x p') (tC (.ty n)) := pe_bltn hg' hm' hv rfl hn hd
  refine (pe_callB call_isinst hg hm (by decide +kernel) (pa_cons ha (pa_cons hb pa_nil hs2) hs) (by decide) (by decide) hs hpl).imp ?_
  rintro σ H Q ⟨G, ρ, P, s, e, h, q⟩
  refine ⟨G, ρ, _, s, e, h, ?_⟩
  rintro d ⟨hk, hp⟩ v G1 H1 x1 dv
  obtain ⟨t, ht, hk'⟩ := kit_is (K := X.K) (H := H1) ok hk (dv.mono x1.sub)
  exact ⟨v, n, t, _, rfl, ht, hk', q _ hp _ G1 H1 x1 (.bl _)⟩
/-! ### targets -/
def liftG (Z : DC) (g : DTG) : TG := fun v σ H Q => ∃ (G : Hp) (ρ : DN) (d : D) (P : DN → Prop), Same G H ∧ EnvD Z G σ ρ ∧ Dv Z G v d ∧ g d ρ P ∧ ∀ ρ', P ρ' → ∀ σ', EnvD Z G σ' ρ' → Q σ' H
def DG (Z : DC) (X : Cx) (e : Expr) (g : DTG) : Prop := PG X e (liftG Z g)
theorem PG.imp {e : Expr} {t t' : TG} (h : PG X e t) (f : ∀ v σ H Q, t' v σ H Q → t v σ H Q) : PG X e t' := fun pins s σ H v u Q I r q => h pins s σ H v u Q I r (f _ _ _ _ q)
def dgName (i : Nat) : DTG := fun d ρ P => P (ρ.set i (some d))
theorem dg_name (i : Nat) {x : Str} (hN : X.N.Nodup) (hi : X.N[i]? = some x := by rfl) (hx : Loc X.env.scope x := by exact Or.inl rfl) (hf : X.fn x = true ∨ X.env.scope.names.lookup x = some .local := by first | exact .inl rfl | exact .inr rfl | assumption) : DG Z X (.Name x pos) (dgName i) :=
  (pg_name hN hi hx hf).imp fun v σ H Q ⟨G, ρ, d, P, s, e, dv, h, q⟩ => q _ h _ (e.set dv)
abbrev DTGs := List D → DN → (DN → Prop) → Prop
def liftGs (Z : DC) (g : DTGs) : TGs := fun vs σ H Q => ∃ (G : Hp) (ρ : DN) (ds : List D) (P : DN → Prop), Same G H ∧ EnvD Z G σ ρ ∧ DvAll Z G vs ds ∧ g ds ρ P ∧ ∀ ρ', P ρ' → ∀ σ', EnvD Z G σ' ρ' → Q σ' H
def DGs (Z : DC) (X : Cx) (es : List Expr) (g : DTGs) : Prop := PGs X es (liftGs Z g)
theorem PGs.imp {es : List Expr} {t t' : TGs} (h : PGs X es t) (f : ∀ v σ H Q, t' v σ H Q → t v σ H Q) : PGs X es t' := fun pins s σ H v u Q I r q => h pins s σ H v u Q I r (f _ _ _ _ q)
def dgNil : DTGs := fun ds ρ P => ds = [] ∧ P ρ
def dgCons (g : DTG) (gs : DTGs) : DTGs := fun ds ρ P => match ds with
  | d :: r => g d ρ fun ρ' => gs r ρ' P
  | [] => False
theorem dgs_nil : DGs Z X [] dgNil := pgs_nil.imp fun v σ H Q ⟨G, ρ, ds, P, s, e, dv, ⟨h, p⟩, q⟩ => by
  subst h
  cases dv
  exact ⟨rfl, q _ p _ e⟩
theorem dgs_cons {es : List Expr} {g : DTG} {gs : DTGs} (h1 : DG Z X e g) (h2 : DGs Z X es gs) (hs : (assignEach (e :: es) X.env).map (·.2) = assign e X.env :: (assignEach es X.env).map (·.2) := by rfl) : DGs Z X (e :: es) (dgCons g gs) := by
  refine (pgs_cons h1 h2 hs).imp ?_
  rintro v σ H Q ⟨G, ρ, ds, P, s, e, dv, h, q⟩
  cases dv with
  | nil => exact h.elim
  | cons a as =>
    refine ⟨_, _, rfl, G, ρ, _, _, s, e, a, h, fun ρ' hp σ' e' => ?_⟩
    exact ⟨G, ρ', _, P, s, e', as, hp, q⟩
def dgTup (n : Nat) (gs : DTGs) : DTG := fun d ρ P => match d with
  | .tup l => l.length = n ∧ gs l ρ P
  | _ => False
theorem dg_tup (n : Nat) {es : List Expr} {k : Nat} {gs : DTGs} (hc : X.calm = true) (h : DGs Z X es gs) (hn : (assignEach es X.env).length = n := by rfl) (hst : (assignEach es X.env).findIdx? (·.1) = none := by rfl) : DG Z X (.Tuple es k pos) (dgTup n gs) := by
  refine (pg_tup hc h hn hst).imp ?_
  rintro v σ H Q ⟨G, ρ, d, P, s, e, dv, h, q⟩
  cases dv <;> first | exact h.elim | skip
  rename_i a xs ds ha es
  exact ⟨a, xs, rfl, SqT.of (s _ _ ha), by rw [es.length]; exact h.1, G, ρ, _, P, s, e, es, h.2, q⟩
/-! ### what is walked -/
def ItOk (Z : DC) (G : Hp) (J : It) (ds : List D) : Prop := ∀ G2 H2, Same G G2 → Same G2 H2 → ∀ i : Nat, (i < ds.length → J.go i H2) ∧ (ds.length ≤ i → J.stop i H2) ∧
  ∀ x H', i < ds.length → J.yld i H2 x H' → ∃ G3 d, Ext G2 H2 G3 H' ∧ ds[i]? = some d ∧ Dv Z G3 x d
def liftI (Z : DC) (wi : DTI) : TI := fun σ H R => ∃ (G : Hp) (ρ : DN) (P : List D → Prop), Same G H ∧ EnvD Z G σ ρ ∧ wi ρ P ∧ ∀ ds, P ds → ∀ J G' H', Ext G H G' H' → ItOk Z G' J ds → R J H'
def DI (Z : DC) (X : Cx) (tg e : Expr) (wi : DTI) : Prop := PI X tg e (liftI Z wi)
theorem PI.imp {tg e : Expr} {t t' : TI} (h : PI X tg e t) (f : ∀ σ H Q, t' σ H Q → t σ H Q) : PI X tg e t' := fun pins s σ H Q I q => h pins s σ H Q I (f _ _ _ q)
def diLst (t : DTE) : DTI := fun ρ P => t ρ fun d => match d with
  | .lst l => P l
  | _ => False
def diTup (t : DTE) : DTI := fun ρ P => t ρ fun d => match d with
  | .tup l => P l
  | _ => False
theorem it_list {K : PySem.W.Frag} {G : Hp} {a : Addr} {xs : List V} {ds : List D} (h : G a = some (.lst xs)) (e : DvAll Z G xs ds) : ItOk Z G (Itl K a) ds := by
  intro G2 H2 s1 s2 i
  have h2 := SqL.of (K := K) (s2 _ _ (s1 _ _ h))
  have l := e.length
  refine ⟨fun hi => ⟨xs, xs[i], h2, List.getElem?_eq_getElem (by omega)⟩, fun hi => ⟨xs, h2, by omega⟩, ?_⟩
  rintro x H' hi ⟨rfl, hx⟩
  obtain ⟨d, hd, dv⟩ := e.getV (hx _ h2)
  exact ⟨G2, d, .refl s2, hd, dv.mono s1⟩
theorem it_tup {K : PySem.W.Frag} {G : Hp} {a : Addr} {xs : List V} {ds : List D} (h : G a = some (.tup xs)) (e : DvAll Z G xs ds) : ItOk Z G (Itt K a) ds := by
  intro G2 H2 s1 s2 i
  have h2 := SqT.of (K := K) (s2 _ _ (s1 _ _ h))
  have l := e.length
  refine ⟨fun hi => ⟨xs, xs[i], h2, List.getElem?_eq_getElem (by omega)⟩, fun hi => ⟨xs, h2, by omega⟩, ?_⟩
  rintro x H' hi ⟨rfl, hx⟩
  obtain ⟨d, hd, dv⟩ := e.getV (hx _ h2)
  exact ⟨G2, d, .refl s2, hd, dv.mono s1⟩
theorem di_list {tg : Expr} (h : DE Z X e te) : DI Z X tg e (diLst te) := by
  refine (pi_list h).imp ?_
  rintro σ H Q ⟨G, ρ, P, s, en, h, q⟩
  refine ⟨G, ρ, _, s, en, h, fun d hd v G1 H1 x1 dv => ?_⟩
  cases dv <;> first | exact hd.elim | skip
  rename_i ha e
  exact ⟨_, rfl, ⟨_, SqL.of (x1.sub _ _ ha)⟩, q _ hd _ G1 H1 x1 (it_list ha e)⟩
theorem di_tup {tg : Expr} (h : DE Z X e te) : DI Z X tg e (diTup te) := by
  refine (pi_tup h).imp ?_
  rintro σ H Q ⟨G, ρ, P, s, en, h, q⟩
  refine ⟨G, ρ, _, s, en, h, fun d hd v G1 H1 x1 dv => ?_⟩
  cases dv <;> first | exact hd.elim | skip
  rename_i ha e
  exact ⟨_, rfl, ⟨_, SqT.of (x1.sub _ _ ha)⟩, q _ hd _ G1 H1 x1 (it_tup ha e)⟩
def rangeD (lo : Int) (n : Nat) : List D := (List.range n).map fun (k : Nat) => D.int (lo + (k : Int))
theorem rangeD_get {lo : Int} {n i : Nat} (h : i < n) : (rangeD lo n)[i]? = some (.int (lo + i)) := by
  unfold rangeD
  rw [List.getElem?_map, List.getElem?_range h]; rfl
theorem it_range {G : Hp} (lo : Int) (n : Nat) : ItOk Z G (Itr lo n) (rangeD lo n) := by
  intro G2 H2 s1 s2 i
  have l : (rangeD lo n).length = n := by unfold rangeD; simp
  rw [l]
  refine ⟨fun hi => hi, fun hi => hi, ?_⟩
  rintro x H' hi ⟨rfl, rfl⟩
  exact ⟨G2, _, .refl s2, rangeD_get hi, .int _⟩
def diR1 (t : DTA) : DTI := fun ρ P => t ρ fun ds => match ds with
  | [.int j] => (-(2 ^ 62) ≤ j ∧ j < 2 ^ 62) ∧ P (rangeD 0 j.toNat)
  | _ => False
def diR2 (t : DTA) : DTI := fun ρ P => t ρ fun ds => match ds with
  | [.int i, .int j] => (-(2 ^ 62) ≤ i ∧ i < 2 ^ 62 ∧ -(2 ^ 62) ≤ j ∧ j < 2 ^ 62) ∧ P (rangeD i (j - i).toNat)
  | _ => False
variable {t : DTA}
theorem di_range1 {tg : Expr} {p : Pos} (hg : Gl X "range") (hm : X.mg "range" = none) (ha : DA Z X [a] t) (hs : starEach [a] X.env = [(false, eval a X.env)] := by rfl) : DI Z X tg (.Call (.Name "range" p) [a] [] pos) (diR1 t) := by
  refine (pi_range1 hg hm ha hs).imp ?_
  rintro σ H Q ⟨G, ρ, P, s, en, h, q⟩
  refine ⟨G, ρ, _, s, en, h, fun ds hd vs G1 H1 x1 dv => ?_⟩
  split at hd
  · obtain ⟨_, rfl, a⟩ := dv.ofOne
    exact ⟨_, by rw [a.ofInt], hd.1.1, hd.1.2, q _ hd.2 _ G1 H1 x1 (it_range 0 _)⟩
  · exact hd.elim
def enumD (l : List D) : List D := l.mapIdx fun i x => .tup [.int (i : Int), x]
def diEnum (t : DTA) : DTI := fun ρ P => t ρ fun ds => match ds with
  | [.lst l] => P (enumD l)
  | _ => False
theorem it_enum {K : PySem.W.Frag} {G : Hp} {a : Addr} {xs : List V} {ds : List D} (h : G a = some (.lst xs)) (e : DvAll Z G xs ds) : ItOk Z G (Ite K a) (enumD ds) := by
  intro G2 H2 s1 s2 i
  have h2 := SqL.of (K := K) (s2 _ _ (s1 _ _ h))
  have l := e.length
  rw [show (enumD ds).length = ds.length by unfold enumD; simp]
  refine ⟨fun hi => ⟨xs, xs[i], h2, List.getElem?_eq_getElem (by omega)⟩, fun hi => ⟨xs, h2, by omega⟩, ?_⟩
  rintro x H' hi ⟨t, y, rfl, ht, rfl, hx⟩
  obtain ⟨d, hd, dv⟩ := e.getV (hx _ h2)
  refine ⟨_, _, .new s2 ht, by unfold enumD; rw [List.getElem?_mapIdx, hd]; rfl, ?_⟩
  exact .tup upd_same (.cons (.int _) (.cons ((dv.mono s1).mono (same_new (s2.free ht) _)) .nil))
theorem di_enum {p : Pos} {es : List Expr} {k1} {tp : Pos} (hg : Gl X "enumerate") (hm : X.mg "enumerate" = none) (ha : DA Z X [a] t) (hs : starEach [a] X.env = [(false, eval a X.env)] := by rfl) : DI Z X (.Tuple es k1 tp) (.Call (.Name "enumerate" p) [a] [] pos) (diEnum t) := by
  refine (pi_enum hg hm ha hs).imp ?_
  rintro σ H Q ⟨G, ρ, P, s, en, h, q⟩
  refine ⟨G, ρ, _, s, en, h, fun ds hd vs G1 H1 x1 dv => ?_⟩
  split at hd
  · obtain ⟨_, rfl, a⟩ := dv.ofOne
    obtain ⟨_, _, rfl, h, e⟩ := a.ofLst
    exact ⟨_, rfl, ⟨_, x1.sub _ _ h⟩, q _ hd _ G1 H1 x1 (it_enum h e)⟩
  · exact hd.elim
/-! ### comprehensions -/
def srcD (src : List (Option Nat)) (ρ : DN) : DN := src.map fun o => o.bind fun i => (ρ[i]?).bind id
theorem EnvD.src {G : Hp} {σ : St} {ρ : DN} (e : EnvD Z G σ ρ) (src : List (Option Nat)) : EnvD Z G (srcS src σ) (srcD src ρ) := by
  refine ⟨by unfold srcS srcD; simp, fun i d h => ?_⟩
  unfold srcD at h
  unfold srcS
  rw [List.getElem?_map] at h ⊢
  cases k : src[i]? with
  | none => rw [k] at h; cases h
  | some o =>
    rw [k] at h
    cases o with
    | none => cases h
    | some j =>
      have h' : (ρ[j]?).bind id = some d := Option.some.inj h
      cases m : ρ[j]? with
      | none => rw [m] at h'; cases h'
      | some z =>
        rw [m] at h'
        have h2 : z = some d := h'
        subst h2
        obtain ⟨v, hv, dv⟩ := e.at_ j d m
        exact ⟨v, by show some ((σ[j]?).bind id) = _; rw [hv]; rfl, dv⟩
/-- the turns of a clause; N: what is wanted behind the last -/
def lcW (g : DTG) (tt : DTT) (te : DTE) : List D → DN → List D → (DN → List D → Prop) → Prop
  | [], ρ, acc, N => N ρ acc
  | x :: xs, ρ, acc, N => g x ρ fun ρ1 => tt ρ1 fun b => if b = true then te ρ1 fun d => acc.length < sizeLine ∧ lcW g tt te xs ρ1 (acc ++ [d]) N else lcW g tt te xs ρ1 acc N
def dLC (wi : DTI) (g : DTG) (tt : DTT) (te : DTE) (src : List (Option Nat)) : DTE := fun ρ P => wi ρ fun ds => lcW g tt te ds (srcD src ρ) [] fun _ out => P (.lst out)
def dYes : DTT := fun _ P => P true
def DTs (Z : DC) (X : Cx) (ifs : List Expr) (t : DTT) : Prop := PTs X ifs (liftT Z t)
theorem PTs.imp {ifs : List Expr} {t t' : TT} (h : PTs X ifs t) (f : ∀ σ H Q, t' σ H Q → t σ H Q) : PTs X ifs t' := fun pins s σ H Q I q => h pins s σ H Q I (f _ _ _ q)
theorem dts_nil : DTs Z X [] dYes := pts_nil.imp fun σ H Q ⟨G, ρ, P, s, e, p, q⟩ => q _ p G H (.refl s)
theorem dts_one {tA : DTT} (h : DT Z X c tA) : DTs Z X [c] tA := pts_one h
/-- the state of a comprehension's block: the pure part, the list that is made, the names -/
def CS (Z : DC) (G1 H1 : Hp) (Ad : Addr) (ρ : DN) (acc : List D) (σ : St) (H : Hp) : Prop :=
  ∃ (G : Hp) (ys : List V), Same G1 G ∧ Same G H ∧ Same H1 H ∧ (∀ b, H1 b ≠ none → G1 b = none → G b = none) ∧ G Ad = none ∧ H Ad = some (.lst ys) ∧ DvAll Z G ys acc ∧ EnvD Z G σ ρ
theorem some_ne {H H' : Hp} (s : Same H H') {b : Addr} (h : H b ≠ none) : H' b ≠ none := fun z => by
  cases e : H b with
  | none => exact h e
  | some o => rw [s b o e] at z; cases z
theorem drop_at {α : Type} {l : List α} {i : Nat} {x : α} (h : l[i]? = some x) : l.drop i = x :: l.drop (i + 1) := by
  obtain ⟨hi, e⟩ := List.getElem?_eq_some_iff.mp h
  rw [List.drop_eq_getElem_cons hi, e]
/-- one clause's turns, over the heap -/
theorem lc_turns {G1 H1 : Hp} {Ad : Addr} {J : It} {ds : List D} {g : DTG} {tt : DTT} {te : DTE} {N : DN → List D → Prop} (hA : H1 Ad = none) (G0 : Hp) (it : ItOk Z G0 J ds) (i : Nat) (ρ : DN) (acc : List D) (σ : St) (H : Hp)
    (c : CS Z G1 H1 Ad ρ acc σ H) (hG : ∀ G, Same G1 G → Same G0 G) (hi : i < ds.length) (h : lcW g tt te (ds.drop i) ρ acc N) :
    J.go i H ∧ ∀ x H3, J.yld i H x H3 → liftG Z g x σ H3 fun σ4 H4 => liftT Z tt σ4 H4 fun b H5 =>
      if b = true then liftE Z te σ4 H5 fun v H6 => ∃ ys, H6 Ad = some (.lst ys) ∧ ys.length < sizeLine ∧ (∃ ρ' acc', CS Z G1 H1 Ad ρ' acc' σ4 (upd H6 Ad (.lst (ys ++ [v]))) ∧ lcW g tt te (ds.drop (i + 1)) ρ' acc' N)
      else ∃ ρ' acc', CS Z G1 H1 Ad ρ' acc' σ4 H5 ∧ lcW g tt te (ds.drop (i + 1)) ρ' acc' N := by
  obtain ⟨G2, ys, s1, s2, s3, off, gA, hAd, dvs, en⟩ := c
  obtain ⟨go, _, yld⟩ := it G2 H (hG _ s1) s2 i
  refine ⟨go hi, fun x H3 y => ?_⟩
  obtain ⟨G3, d, x3, hd, dv⟩ := yld x H3 hi y
  rw [drop_at hd] at h
  refine ⟨G3, ρ, d, _, x3.sub, en.mono x3.gg, dv, h, fun ρ1 h1 σ4 en4 => ?_⟩
  refine ⟨G3, ρ1, _, x3.sub, en4, h1, fun b hb G5 H5 x5 => ?_⟩
  have x35 := x3.trans x5
  have offA : ∀ {G H'' : Hp}, Ext G2 H G H'' → G Ad = none := fun x => x.off Ad (by rw [hAd]; exact fun z => nomatch z) gA
  have offB : ∀ {G H'' : Hp}, Ext G2 H G H'' → ∀ b, H1 b ≠ none → G1 b = none → G b = none := fun x b h1 h2 => x.off b (some_ne s3 h1) (off b h1 h2)
  cases b with
  | false =>
    refine iteF ⟨ρ1, acc, ⟨G5, ys, s1.trans x35.gg, x35.sub, s3.trans x35.hh, offB x35, offA x35, x35.hh _ _ hAd, dvs.mono x35.gg, en4.mono x5.gg⟩, ?_⟩
    simpa using hb
  | true =>
    refine iteT ⟨G5, ρ1, _, x5.sub, en4.mono x5.gg, (by simpa using hb), fun d' hd' v G6 H6 x6 dv6 => ?_⟩
    have x := x35.trans x6
    refine ⟨ys, x.hh _ _ hAd, by rw [dvs.length]; exact hd'.1, ρ1, _, ⟨G6, ys ++ [v], s1.trans x.gg, fun b o e => ?_, fun b o e => ?_, offB x, offA x, upd_same, (dvs.mono x.gg).snoc dv6, (en4.mono x5.gg).mono x6.gg⟩, hd'.2⟩
    · rw [upd_ne (ne_of_none e (offA x))]; exact x.sub _ _ e
    · rw [upd_ne (ne_of_none e hA)]; exact (s3.trans x.hh) _ _ e
theorem CS.done {G H G1 H1 H2 : Hp} {Ad : Addr} {ρ : DN} {acc : List D} {σ : St} (c : CS Z G1 H1 Ad ρ acc σ H2) (x1 : Ext G H G1 H1) (hA : H1 Ad = none) : ∃ G', Ext G H G' H2 ∧ Dv Z G' (.ref Ad) (.lst acc) := by
  obtain ⟨G2, ys, s1, s2, s3, off, gA, hAd, dvs, en⟩ := c
  refine ⟨upd G2 Ad (.lst ys), ⟨(x1.gg.trans s1).trans (same_new gA _), fun b o e => ?_, x1.hh.trans s3, fun b hb hg => ?_⟩, .lst upd_same (dvs.mono (same_new gA _))⟩
  · by_cases z : b = Ad
    · subst z; rw [upd_same] at e; cases e; exact hAd
    · rw [upd_ne z] at e; exact s2 _ _ e
  · have h1 := some_ne x1.hh hb
    rw [upd_ne (fun z => h1 (by rw [z]; exact hA))]
    exact off b h1 (x1.off b hb hg)
theorem CS.begin {G1 H1 : Hp} {Ad : Addr} {ρ : DN} {σ : St} (s : Same G1 H1) (hA : H1 Ad = none) (en : EnvD Z G1 σ ρ) : CS Z G1 H1 Ad ρ [] σ (upd H1 Ad (.lst [])) :=
  ⟨G1, [], .refl _, fun b o e => by rw [upd_ne (ne_of_none e (s.free hA))]; exact s _ _ e, same_new hA _, fun _ _ h => h, s.free hA, upd_same, .nil, en⟩
variable {tg iter elt : Expr} {ifs : List Expr} {scope : Scope} {NC : List Str} {src : List (Option Nat)} {wi : DTI} {g : DTG} {tt : DTT}
theorem liftLC : ∀ σ H Q, liftE Z (dLC wi g tt te src) σ H Q → tLC (liftI Z wi) (liftG Z g) (liftT Z tt) (liftE Z te) src σ H Q := by
  rintro σ H Q ⟨G, ρ, P, s, en, h, q⟩
  refine ⟨G, ρ, _, s, en, h, fun ds hd J G1 H1 x1 it Ad hA => ?_⟩
  refine ⟨fun i m σ2 H2 => m = ds.length - i ∧ i ≤ ds.length ∧ ∃ ρ2 acc, CS Z G1 H1 Ad ρ2 acc σ2 H2 ∧ lcW g tt te (ds.drop i) ρ2 acc fun _ out => P (.lst out), ⟨_, rfl, Nat.zero_le _, _, [], .begin x1.sub hA ((en.mono x1.gg).src src), hd⟩, ?_⟩
  rintro i m σ2 H2 ⟨rfl, hi, ρ2, acc, c, hl⟩
  by_cases hlt : i < ds.length
  · obtain ⟨go, turn⟩ := lc_turns hA G1 it i ρ2 acc σ2 H2 c (fun _ s => s) hlt hl
    exact .inr ⟨go, _, fun σ' H' n => ⟨ds.length - (i + 1), by omega, rfl, hlt, n⟩, turn⟩
  · have e : ds.drop i = [] := List.drop_eq_nil_of_le (by omega)
    rw [e] at hl
    obtain ⟨G', x, dv⟩ := c.done x1 hA
    obtain ⟨G2, ys, s1, s2, _⟩ := c
    exact .inl ⟨(it G2 H2 s1 s2 i).2.1 (by omega), q _ hl _ G' H2 x dv⟩
theorem de_lc (hc : X.calm = true) (c : CompOk X scope) (hsrc : SrcOk scope X.N src NC) (hi : DI Z X tg iter wi)
    (hg : ∀ ex s H, DG Z (cxC X scope NC ex s H) tg g) (ht : ∀ ex s H, DTs Z (cxC X scope NC ex s H) ifs tt) (he : ∀ ex s H, DE Z (cxC X scope NC ex s H) elt te)
    (hs : ∀ x, foldedSetIterable iter X.env x = pure x := by intro _; rfl) : DE Z X (.ListComp elt [⟨tg, iter, ifs, 0⟩] scope pos) (dLC wi g tt te src) := (pe_lc hc c hsrc hi hg ht he hs).imp liftLC
variable {t0 i0 t1 i1 : Expr} {f0 f1 : List Expr} {wi1 : DTI} {g1 : DTG} {tt1 : DTT}
end
end L2

set_option Elab.async false
set_option linter.all false
set_option maxRecDepth 100000
set_option maxHeartbeats 4000000
namespace L2
open PySem PySem.Spec PyProof.Rows
/-! ### owned lists: lists that a def made and changes -/
inductive OwnL (R : V → D → List Addr → Prop) : List V → List D → List Addr → Prop
  | nil : OwnL R [] [] []
  | cons {v : V} {vs : List V} {d : D} {ds : List D} {f fs : List Addr} : R v d f → OwnL R vs ds fs → OwnL R (v :: vs) (d :: ds) (f ++ fs)
def isL : D → Bool
  | .lst _ => true
  | _ => false
def Own (Z : DC) (G H : Hp) : Nat → V → D → List Addr → Prop
  | 0, v, d, fp => Dv Z G v d ∧ fp = []
  | n + 1, v, d, fp => (∃ a xs ds fps, v = .ref a ∧ d = .lst ds ∧ H a = some (.lst xs) ∧ fp = a :: fps ∧ OwnL (Own Z G H n) xs ds fps) ∨ (1 ≤ n ∧ ∃ a xs ds, v = .ref a ∧ d = .tup ds ∧ G a = some (.tup xs) ∧ OwnL (fun v d f => (isL d = true ∧ Own Z G H n v d f) ∨ (isL d = false ∧ Dv Z G v d ∧ f = [])) xs ds fp)
theorem Own.lst {Z : DC} {G H : Hp} {n : Nat} {v : V} {ds : List D} {fp : List Addr} (o : Own Z G H (n + 1) v (.lst ds) fp) : ∃ a xs ds' fps, v = .ref a ∧ D.lst ds = .lst ds' ∧ H a = some (.lst xs) ∧ fp = a :: fps ∧ OwnL (Own Z G H n) xs ds' fps := by
  rcases o with o | ⟨_, a, xs, ds, _, e, _⟩
  · exact o
  · cases e
theorem Own.tup {Z : DC} {G H : Hp} {n : Nat} {v : V} {ds : List D} {fp : List Addr} (o : Own Z G H (n + 1) v (.tup ds) fp) : ∃ a xs, v = .ref a ∧ G a = some (.tup xs) ∧ OwnL (fun v d f => (isL d = true ∧ Own Z G H n v d f) ∨ (isL d = false ∧ Dv Z G v d ∧ f = [])) xs ds fp := by
  rcases o with ⟨a, xs, ds, fps, _, e, _⟩ | ⟨_, a, xs, ds, h1, e, h2, h3⟩
  · cases e
  · cases e; exact ⟨a, xs, h1, h2, h3⟩
theorem Own.one {Z : DC} {G H : Hp} {v : V} {d : D} {fp : List Addr} (o : Own Z G H 1 v d fp) : ∃ a xs ds fps, v = .ref a ∧ d = .lst ds ∧ H a = some (.lst xs) ∧ fp = a :: fps ∧ OwnL (Own Z G H 0) xs ds fps := by
  rcases o with o | ⟨z, _⟩
  · exact o
  · exact absurd z (by decide)
theorem OwnL.imp {R R' : V → D → List Addr → Prop} : ∀ {vs : List V} {ds : List D} {fp : List Addr}, OwnL R vs ds fp → (∀ v d f, (∀ b ∈ f, b ∈ fp) → R v d f → R' v d f) → OwnL R' vs ds fp
  | _, _, _, .nil, _ => .nil
  | _, _, _, .cons a as, h => .cons (h _ _ _ (fun b hb => List.mem_append_left _ hb) a) (as.imp fun v d f hf r => h v d f (fun b hb => List.mem_append_right _ (hf b hb)) r)
theorem OwnL.length {R : V → D → List Addr → Prop} : ∀ {vs : List V} {ds : List D} {fp : List Addr}, OwnL R vs ds fp → vs.length = ds.length
  | _, _, _, .nil => rfl
  | _, _, _, .cons _ as => congrArg (· + 1) as.length
section
variable {Z : DC} {G G' H H' : Hp}
theorem Own.keep : ∀ {n : Nat} {v : V} {d : D} {fp : List Addr}, Own Z G H n v d fp → Same G G' → (∀ b ∈ fp, H' b = H b) → Own Z G' H' n v d fp
  | 0, _, _, _, ⟨a, b⟩, s, _ => ⟨a.mono s, b⟩
  | n + 1, _, _, _, .inl ⟨a, xs, ds, fps, hv, hd, ha, hf, ho⟩, s, k => by
    subst hf
    exact .inl ⟨a, xs, ds, fps, hv, hd, by rw [k a (List.mem_cons_self ..)]; exact ha, rfl, ho.imp fun v d f hb r => Own.keep r s fun b q => k b (List.mem_cons_of_mem _ (hb b q))⟩
  | n + 1, _, _, _, .inr ⟨h1, a, xs, ds, hv, hd, ha, ho⟩, s, k => .inr ⟨h1, a, xs, ds, hv, hd, s _ _ ha, ho.imp fun v d f hb r => r.imp (fun r => ⟨r.1, Own.keep r.2 s fun b q => k b (hb b q)⟩) fun r => ⟨r.1, r.2.1.mono s, r.2.2⟩⟩
theorem OwnL.dvOf {R : V → D → List Addr → Prop} : ∀ {vs : List V} {ds : List D} {fp : List Addr}, OwnL R vs ds fp → (∀ v d f, (∀ b ∈ f, b ∈ fp) → R v d f → Dv Z G' v d) → DvAll Z G' vs ds
  | _, _, _, .nil, _ => .nil
  | _, _, _, .cons a as, k => .cons (k _ _ _ (fun b hb => List.mem_append_left _ hb) a) (as.dvOf fun v d f hf r => k v d f (fun b hb => List.mem_append_right _ (hf b hb)) r)
theorem Own.dv : ∀ {n : Nat} {v : V} {d : D} {fp : List Addr}, Own Z G H n v d fp → Same G G' → (∀ b ∈ fp, ∀ o, H b = some o → G' b = some o) → Dv Z G' v d
  | 0, _, _, _, ⟨a, _⟩, s, _ => a.mono s
  | n + 1, _, _, _, .inl ⟨a, xs, ds, fps, hv, hd, ha, hf, ho⟩, s, k => by
    subst hf hv hd
    exact .lst (k a (List.mem_cons_self ..) _ ha) (ho.dvOf fun v d f hf r => Own.dv r s fun b hb => k b (List.mem_cons_of_mem _ (hf b hb)))
  | n + 1, _, _, _, .inr ⟨_, a, xs, ds, hv, hd, ha, ho⟩, s, k => by
    subst hv hd
    exact .tup (s _ _ ha) (ho.dvOf fun v d f hf r => r.elim (fun r => Own.dv r.2 s fun b hb => k b (hf b hb)) fun r => r.2.1.mono s)
theorem OwnL.flat : ∀ {vs : List V} {ds : List D} {fp : List Addr}, OwnL (Own Z G H 0) vs ds fp → DvAll Z G vs ds ∧ fp = []
  | _, _, _, .nil => ⟨.nil, rfl⟩
  | _, _, _, .cons a as => by
    obtain ⟨h1, h2⟩ := as.flat
    obtain ⟨a1, a2⟩ := a
    exact ⟨.cons a1 h1, by rw [a2, h2]; rfl⟩
theorem DvAll.own : ∀ {vs : List V} {ds : List D}, DvAll Z G vs ds → OwnL (Own Z G H 0) vs ds []
  | _, _, .nil => .nil
  | _, _, .cons a as => .cons (f := []) (fs := []) ⟨a, rfl⟩ as.own
theorem Dv.flat {v : V} {d : D} (h : Dv Z G v d) (f : flatD d = true) : Dv Z G' v d := by
  cases h with
  | non => exact .non
  | bl b => exact .bl b
  | int i => exact .int i
  | str x k => exact .str x k
  | _ => cases f
end
/-! ### data without lists -/
mutual
def noL : D → Bool
  | .non => true
  | .bl _ => true
  | .int _ => true
  | .str _ => true
  | .tup l => noLs l
  | _ => false
def noLs : List D → Bool
  | [] => true
  | d :: ds => noL d && noLs ds
end
mutual
theorem Dv.noL {Z : DC} {G G' : Hp} (k : ∀ b xs, G b = some (.tup xs) → G' b = some (.tup xs)) : ∀ {v : V} {d : D}, Dv Z G v d → L2.noL d = true → Dv Z G' v d
  | _, _, .non, _ => .non
  | _, _, .bl b, _ => .bl b
  | _, _, .int i, _ => .int i
  | _, _, .str x h, _ => .str x h
  | _, _, .tup h a, f => .tup (k _ _ h) (DvAll.noL k a (by rw [L2.noL] at f; exact f))
  | _, _, .lst _ _, f => by simp [L2.noL] at f
  | _, _, .obj _, f => by simp [L2.noL] at f
  | _, _, .rng _, f => by simp [L2.noL] at f
  | _, _, .scr _ _, f => by simp [L2.noL] at f
  | _, _, .web _ _ _ _ _, f => by simp [L2.noL] at f
theorem DvAll.noL {Z : DC} {G G' : Hp} (k : ∀ b xs, G b = some (.tup xs) → G' b = some (.tup xs)) : ∀ {vs : List V} {ds : List D}, DvAll Z G vs ds → noLs ds = true → DvAll Z G' vs ds
  | _, _, .nil, _ => .nil
  | _, _, .cons a as, f => by
    rw [noLs, Bool.and_eq_true] at f
    exact .cons (Dv.noL k a f.1) (DvAll.noL k as f.2)
end
theorem Own.dvL {Z : DC} {G G' H : Hp} : ∀ {n : Nat} {v : V} {d : D} {fp : List Addr}, Own Z G H n v d fp → Same G G' → (∀ b ∈ fp, ∀ xs, H b = some (.lst xs) → G' b = some (.lst xs)) → Dv Z G' v d
  | 0, _, _, _, ⟨a, _⟩, s, _ => a.mono s
  | n + 1, _, _, _, .inl ⟨a, xs, ds, fps, hv, hd, ha, hf, ho⟩, s, k => by
    subst hf hv hd
    exact .lst (k a (List.mem_cons_self ..) _ ha) (ho.dvOf fun v d f hf r => Own.dvL r s fun b hb => k b (List.mem_cons_of_mem _ (hf b hb)))
  | n + 1, _, _, _, .inr ⟨_, a, xs, ds, hv, hd, ha, ho⟩, s, k => by
    subst hv hd
    exact .tup (s _ _ ha) (ho.dvOf fun v d f hf r => r.elim (fun r => Own.dvL r.2 s fun b hb => k b (hf b hb)) fun r => r.2.1.mono s)
/-! ### the state of a def's body -/
structure Bs where
  G₀ : Hp
  H₀ : Hp
  Gf : Hp
structure SIx (Z : DC) (B : Bs) (md : List Nat) (ρ : DN) (σ : St) (H G : Hp) (fp : Nat → List Addr) : Prop where
  ex : Ext B.G₀ B.H₀ G H
  fl : Same B.Gf G
  len : ρ.length = σ.length
  at_ : ∀ (i : Nat) (d : D), ρ[i]? = some (some d) → ∃ v, σ[i]? = some (some v) ∧ Own Z G H (md.getD i 0) v d (fp i)
  nd : ∀ i, (fp i).Nodup
  ap : ∀ i j b, i ≠ j → b ∈ fp i → b ∉ fp j
  nw : ∀ i b, b ∈ fp i → B.H₀ b = none ∧ H b ≠ none ∧ G b = none
def SI (Z : DC) (B : Bs) (md : List Nat) (ρ : DN) (σ : St) (H : Hp) : Prop := ∃ G fp, SIx Z B md ρ σ H G fp
/-- the names that hold pure data -/
def pureN : List Nat → DN → DN
  | _, [] => []
  | [], o :: ρ => o :: ρ
  | 0 :: md, o :: ρ => o :: pureN md ρ
  | (_ + 1) :: md, _ :: ρ => none :: pureN md ρ
theorem pureN_len : ∀ (md : List Nat) (ρ : DN), (pureN md ρ).length = ρ.length
  | md, [] => by cases md <;> rfl
  | [], o :: ρ => rfl
  | 0 :: md, o :: ρ => by rw [pureN, List.length_cons, pureN_len md ρ, List.length_cons]
  | (_ + 1) :: md, _ :: ρ => by rw [pureN, List.length_cons, pureN_len md ρ, List.length_cons]
theorem pureN_at {d : D} : ∀ (md : List Nat) (ρ : DN) (i : Nat), (pureN md ρ)[i]? = some (some d) → md.getD i 0 = 0 ∧ ρ[i]? = some (some d)
  | md, [], i, h => by cases md <;> simp [pureN] at h
  | [], o :: ρ, i, h => ⟨by simp, h⟩
  | 0 :: md, o :: ρ, 0, h => ⟨rfl, by simpa [pureN] using h⟩
  | 0 :: md, o :: ρ, i + 1, h => by
    rw [pureN, List.getElem?_cons_succ] at h
    obtain ⟨a, b⟩ := pureN_at md ρ i h
    exact ⟨by rw [List.getD_cons_succ]; exact a, by rw [List.getElem?_cons_succ]; exact b⟩
  | (_ + 1) :: md, _ :: ρ, 0, h => by simp [pureN] at h
  | (_ + 1) :: md, _ :: ρ, i + 1, h => by
    rw [pureN, List.getElem?_cons_succ] at h
    obtain ⟨a, b⟩ := pureN_at md ρ i h
    exact ⟨by rw [List.getD_cons_succ]; exact a, by rw [List.getElem?_cons_succ]; exact b⟩
def vis (md : List Nat) : Bool → DN → DN
  | true, ρ => ρ
  | false, ρ => pureN md ρ
def flatIf : Bool → D → Prop
  | true, d => noL d = true
  | false, _ => True
section
variable {Z : DC} {B : Bs} {md : List Nat} {ρ : DN} {σ : St} {H G : Hp} {fp : Nat → List Addr}
theorem pureN_get {i : Nat} {d : D} (h : (pureN md ρ)[i]? = some (some d)) : md.getD i 0 = 0 ∧ ρ[i]? = some (some d) := pureN_at md ρ i h
theorem SIx.envP (S : SIx Z B md ρ σ H G fp) : EnvD Z G σ (pureN md ρ) := by
  refine ⟨by rw [pureN_len]; exact S.len, fun i d h => ?_⟩
  obtain ⟨z, h⟩ := pureN_get h
  obtain ⟨v, hv, o⟩ := S.at_ i d h
  rw [z] at o
  exact ⟨v, hv, o.1⟩
theorem SIx.envA (S : SIx Z B md ρ σ H G fp) : EnvD Z H σ ρ := by
  refine ⟨S.len, fun i d h => ?_⟩
  obtain ⟨v, hv, o⟩ := S.at_ i d h
  exact ⟨v, hv, o.dv S.ex.sub fun b _ u e => e⟩
/-- the heap grows by pure data -/
theorem SIx.grow {G' H' : Hp} (S : SIx Z B md ρ σ H G fp) (x : Ext G H G' H') : SIx Z B md ρ σ H' G' fp where
  ex := S.ex.trans x
  fl := S.fl.trans x.gg
  len := S.len
  at_ := fun i d h => by
    obtain ⟨v, hv, o⟩ := S.at_ i d h
    refine ⟨v, hv, o.keep x.gg fun b hb => ?_⟩
    cases e : H b with
    | none => exact absurd e (S.nw i b hb).2.1
    | some u => exact x.hh _ _ e
  nd := S.nd
  ap := S.ap
  nw := fun i b hb => let ⟨h1, h2, h3⟩ := S.nw i b hb; ⟨h1, some_ne x.hh h2, x.off b h2 h3⟩
theorem Ext.all {G' H' : Hp} (s : Same G H) (x : Ext H H G' H') : Ext G H G H' := ⟨.refl _, s.trans x.hh, x.hh, fun _ _ h => h⟩
open Classical in
/-- the pure part and the lists of one's own -/
noncomputable def withO (G H : Hp) (fp : Nat → List Addr) : Hp := fun b => if ∃ i, b ∈ fp i then (match H b with | some (.lst xs) => some (.lst xs) | _ => none) else G b
open Classical in
noncomputable def lessO (G : Hp) (fp : Nat → List Addr) : Hp := fun b => if ∃ i, b ∈ fp i then none else G b
theorem withO_in {b : Addr} {xs : List V} (i : Nat) (h : b ∈ fp i) (e : H b = some (.lst xs)) : withO G H fp b = some (.lst xs) := by
  unfold withO
  rw [if_pos ⟨i, h⟩, e]
theorem withO_out {b : Addr} (h : ¬ ∃ i, b ∈ fp i) : withO G H fp b = G b := if_neg h
theorem SIx.envO (S : SIx Z B md ρ σ H G fp) : Same G (withO G H fp) ∧ Same (withO G H fp) H ∧ EnvD Z (withO G H fp) σ ρ := by
  have s1 : Same G (withO G H fp) := fun b o e => by
    by_cases h : ∃ i, b ∈ fp i
    · obtain ⟨i, hi⟩ := h
      rw [(S.nw i b hi).2.2] at e; cases e
    · rw [withO_out h]; exact e
  refine ⟨s1, fun b o e => ?_, S.len, fun i d h => ?_⟩
  · by_cases h : ∃ i, b ∈ fp i
    · unfold withO at e
      rw [if_pos h] at e
      split at e
      · next xs hx => rw [hx]; exact e
      · cases e
    · rw [withO_out h] at e; exact S.ex.sub _ _ e
  · obtain ⟨v, hv, o⟩ := S.at_ i d h
    exact ⟨v, hv, o.dvL s1 fun b hb xs hx => withO_in i hb hx⟩
theorem SIx.offO {G' H' : Hp} (S : SIx Z B md ρ σ H G fp) (x : Ext (withO G H fp) H G' H') : Ext G H (lessO G' fp) H' ∧ ∀ b xs, G' b = some (.tup xs) → lessO G' fp b = some (.tup xs) := by
  obtain ⟨s1, s2, _⟩ := S.envO
  refine ⟨⟨fun b o e => ?_, fun b o e => ?_, x.hh, fun b hb hg => ?_⟩, fun b xs e => ?_⟩
  · have h : ¬ ∃ i, b ∈ fp i := by
      rintro ⟨i, hi⟩
      rw [(S.nw i b hi).2.2] at e; cases e
    unfold lessO
    rw [if_neg h]
    exact x.gg _ _ (s1 _ _ e)
  · unfold lessO at e
    split at e
    · cases e
    · exact x.sub _ _ e
  · unfold lessO
    split
    · rfl
    · next h => exact x.off b hb (by rw [withO_out h]; exact hg)
  · have h : ¬ ∃ i, b ∈ fp i := by
      rintro ⟨i, hi⟩
      have hb := (S.nw i b hi).2.1
      cases hw : withO G H fp b with
      | none => rw [x.off b hb hw] at e; cases e
      | some o =>
        have := x.gg _ _ hw
        rw [e] at this
        cases this
        unfold withO at hw
        rw [if_pos ⟨i, hi⟩] at hw
        split at hw <;> cases hw
    unfold lessO
    rw [if_neg h]; exact e
/-- an expression at a state -/
theorem SIx.ev {t : DTE} {P : D → Prop} {Q : VK} (S : SIx Z B md ρ σ H G fp) (m : Bool) (h : t (vis md m ρ) P)
    (hq : ∀ d, P d → flatIf m d ∧ ∀ v G' H', SIx Z B md ρ σ H' G' fp → Ext G H G' H' → Dv Z G' v d → Q v H') : liftE Z t σ H Q := by
  cases m with
  | false => exact ⟨G, _, P, S.ex.sub, S.envP, h, fun d hd v G' H' x dv => (hq d hd).2 v G' H' (S.grow x) x dv⟩
  | true =>
    obtain ⟨s1, s2, e⟩ := S.envO
    refine ⟨withO G H fp, _, P, s2, e, h, fun d hd v G' H' x dv => ?_⟩
    obtain ⟨x', k⟩ := S.offO x
    exact (hq d hd).2 v _ H' (S.grow x') x' (dv.noL k (hq d hd).1)
theorem SIx.evT {t : DTT} {P : Bool → Prop} {Q : Bool → Hp → Prop} (S : SIx Z B md ρ σ H G fp) (h : t ρ P) (hq : ∀ b, P b → ∀ H', SIx Z B md ρ σ H' G fp → Q b H') : liftT Z t σ H Q :=
  ⟨H, ρ, P, .refl _, S.envA, h, fun b hb G' H' x => hq b hb H' (S.grow (Ext.all S.ex.sub x))⟩
/-- a name gets pure data -/
theorem SIx.setP {i : Nat} {v : V} {d : D} (S : SIx Z B md ρ σ H G fp) (hm : md.getD i 0 = 0) (dv : Dv Z G v d) : SIx Z B md (ρ.set i (some d)) (σ.set i (some v)) H G (fun j => if j = i then [] else fp j) where
  ex := S.ex
  fl := S.fl
  len := by rw [List.length_set, List.length_set]; exact S.len
  at_ := fun j c h => by
    by_cases z : i = j
    · subst z
      by_cases hi : i < ρ.length
      · rw [List.getElem?_set_self hi] at h
        cases h
        exact ⟨v, List.getElem?_set_self (by rw [← S.len]; exact hi), by rw [hm, if_pos rfl]; exact ⟨dv, rfl⟩⟩
      · rw [List.set_eq_of_length_le (Nat.le_of_not_lt hi), List.getElem?_eq_none (Nat.le_of_not_lt hi)] at h; cases h
    · rw [List.getElem?_set_ne z] at h ⊢
      rw [if_neg (Ne.symm z)]
      exact S.at_ j c h
  nd := fun j => by split; exact List.nodup_nil; exact S.nd j
  ap := fun j k b ne hj hk => by
    split at hj
    · cases hj
    · split at hk
      · cases hk
      · exact S.ap j k b ne hj hk
  nw := fun j b hb => by
    split at hb
    · cases hb
    · exact S.nw j b hb
/-- a name gets an owned list -/
theorem SIx.setO {i n : Nat} {v : V} {d : D} {f : List Addr} (S : SIx Z B md ρ σ H G fp) (hm : md.getD i 0 = n) (o : Own Z G H n v d f) (nd : f.Nodup) (nw : ∀ b ∈ f, B.H₀ b = none ∧ H b ≠ none ∧ G b = none) (ap : ∀ b ∈ f, ∀ j, j ≠ i → b ∉ fp j) :
    SIx Z B md (ρ.set i (some d)) (σ.set i (some v)) H G (fun j => if j = i then f else fp j) where
  ex := S.ex
  fl := S.fl
  len := by rw [List.length_set, List.length_set]; exact S.len
  at_ := fun j c h => by
    by_cases z : i = j
    · subst z
      by_cases hi : i < ρ.length
      · rw [List.getElem?_set_self hi] at h
        cases h
        exact ⟨v, List.getElem?_set_self (by rw [← S.len]; exact hi), by rw [hm, if_pos rfl]; exact o⟩
      · rw [List.set_eq_of_length_le (Nat.le_of_not_lt hi), List.getElem?_eq_none (Nat.le_of_not_lt hi)] at h; cases h
    · rw [List.getElem?_set_ne z] at h ⊢
      rw [if_neg (Ne.symm z)]
      exact S.at_ j c h
  nd := fun j => by split; exact nd; exact S.nd j
  ap := fun j k b ne hj hk => by
    split at hj
    · next z =>
      rw [if_neg (fun w => ne (z.trans w.symm))] at hk
      exact ap b hj k (fun w => ne (z.trans w.symm)) hk
    · next z =>
      split at hk
      · exact ap b hk j z hj
      · exact S.ap j k b ne hj hk
  nw := fun j b hb => by
    split at hb
    · exact nw b hb
    · exact S.nw j b hb
/-- owned cells become pure -/
noncomputable def plus (G H : Hp) (F : Addr → Prop) : Hp := fun b => open Classical in if F b then H b else G b
theorem plus_in {F : Addr → Prop} {b : Addr} (h : F b) : plus G H F b = H b := by unfold plus; rw [if_pos h]
theorem plus_out {F : Addr → Prop} {b : Addr} (h : ¬ F b) : plus G H F b = G b := by unfold plus; rw [if_neg h]
theorem plus_sub {F : Addr → Prop} (s : Same G H) : Same (plus G H F) H := fun b o e => by
  by_cases h : F b
  · rw [plus_in h] at e; exact e
  · rw [plus_out h] at e; exact s _ _ e
theorem plus_sup {F : Addr → Prop} (s : Same G H) : Same G (plus G H F) := fun b o e => by
  by_cases h : F b
  · rw [plus_in h]; exact s _ _ e
  · rw [plus_out h]; exact e
theorem SIx.evR {t : DTE} {P : D → Prop} {Q : VK} (S : SIx Z B md ρ σ H G fp) (h : t ρ P) (hq : ∀ d, P d → ∀ v G' H', Ext B.G₀ B.H₀ G' H' → Dv Z G' v d → Q v H') : liftE Z t σ H Q := by
  let F : Addr → Prop := fun b => ∃ i, b ∈ fp i
  have s := S.ex.sub
  have x0 : Ext B.G₀ B.H₀ (plus G H F) H := ⟨S.ex.gg.trans (plus_sup s), plus_sub s, S.ex.hh, fun b hb hg => by
    rw [plus_out (fun ⟨i, hi⟩ => hb (S.nw i b hi).1)]; exact S.ex.off b hb hg⟩
  refine ⟨plus G H F, ρ, P, plus_sub s, ⟨S.len, fun i d h => ?_⟩, h, fun d hd v G' H' x dv => hq d hd v G' H' (x0.trans x) dv⟩
  obtain ⟨v, hv, o⟩ := S.at_ i d h
  exact ⟨v, hv, o.dv (plus_sup s) fun b hb u e => by rw [plus_in ⟨i, hb⟩]; exact e⟩
end
/-! ### statements -/
structure DEnds where
  nx : DN → Prop
  rt : D → Prop
  bk : DN → Prop := fun _ => False
  ct : DN → Prop := fun _ => False
abbrev DTS := DEnds → DN → Prop
structure Meets (Z : DC) (B : Bs) (md : List Nat) (rn : Nat) (E : DEnds) (Dn : Ends) : Prop where
  nx : ∀ ρ, E.nx ρ → ∀ σ H, SI Z B md ρ σ H → Dn.nx σ H
  rt : ∀ d, E.rt d → ∀ v f G' H', Ext B.G₀ B.H₀ G' H' → Own Z G' H' rn v d f → f.Nodup → (∀ b ∈ f, B.H₀ b = none ∧ H' b ≠ none ∧ G' b = none) → Dn.rt v H'
  bk : ∀ ρ, E.bk ρ → ∀ σ H, SI Z B md ρ σ H → Dn.bk σ H
  ct : ∀ ρ, E.ct ρ → ∀ σ H, SI Z B md ρ σ H → Dn.ct σ H
def liftS (Z : DC) (md : List Nat) (rn : Nat) (t : DTS) : TS := fun Dn σ H => ∃ (B : Bs) (ρ : DN) (E : DEnds), SI Z B md ρ σ H ∧ t E ρ ∧ Meets Z B md rn E Dn
def DSt (Z : DC) (X : Cx) (md : List Nat) (rn : Nat) (st : Stmt) (t : DTS) : Prop := PS X st (liftS Z md rn t)
def DSs (Z : DC) (X : Cx) (md : List Nat) (rn : Nat) (sts : List Stmt) (t : DTS) : Prop := PSs X sts (liftS Z md rn t)
theorem PS.imp {X : Cx} {st : Stmt} {t t' : TS} (h : PS X st t) (f : ∀ D σ H, t' D σ H → t D σ H) : PS X st t' := fun pins s σ H D I q => h pins s σ H D I (f _ _ _ q)
theorem PSs.imp {X : Cx} {st : List Stmt} {t t' : TS} (h : PSs X st t) (f : ∀ D σ H, t' D σ H → t D σ H) : PSs X st t' := fun pins s σ H D I q => h pins s σ H D I (f _ _ _ q)
section
variable {Z : DC} {X : Cx} {md : List Nat} {rn : Nat} {st : Stmt} {sts : List Stmt} {t u : DTS} {e : Expr} {te : DTE} {pos : Pos}
def dNext : DTS := fun E ρ => E.nx ρ
def dSeq (t u : DTS) : DTS := fun E ρ => t { E with nx := u E } ρ
theorem dss_nil : DSs Z X md rn [] dNext := pss_nil.imp fun D σ H ⟨B, ρ, E, S, h, M⟩ => M.nx _ h _ _ S
theorem dss_cons (h1 : DSt Z X md rn st t) (h2 : DSs Z X md rn sts u) : DSs Z X md rn (st :: sts) (dSeq t u) :=
  (pss_cons h1 h2).imp fun D σ H ⟨B, ρ, E, S, h, M⟩ => ⟨B, ρ, _, S, h, ⟨fun ρ' h' σ' H' S' => ⟨B, ρ', E, S', h', M⟩, M.rt, M.bk, M.ct⟩⟩
theorem dss_one (h1 : DSt Z X md rn st t) : DSs Z X md rn [st] t := pss_one h1
theorem ds_never : DSt Z X md rn st (fun _ _ => False) := ps_never.imp fun D σ H ⟨B, ρ, E, S, h, M⟩ => h
def dRet (te : DTE) : DTS := fun E ρ => te ρ E.rt
theorem ds_ret (he : DE Z X e te) : DSt Z X md 0 (.Return (some e) pos) (dRet te) := (ps_ret he).imp fun D σ H ⟨B, ρ, E, ⟨G, fp, S⟩, h, M⟩ => S.evR h fun d hd v G' H' x dv => M.rt d hd v [] G' H' x ⟨dv, rfl⟩ List.nodup_nil (fun b hb => by cases hb)
/-- return x, x owned: it is the asker's own -/
def dRetO (i : Nat) : DTS := fun E ρ => ∃ d, ρ[i]? = some (some d) ∧ E.rt d
theorem ds_retO (i : Nat) {x : Str} {px : Pos} (hm : md.getD i 0 = rn := by rfl) (hi : X.N[i]? = some x := by rfl) (hv : Vis X.env.scope x := by first | exact Or.inl rfl | exact Or.inr (Or.inl rfl) | exact Or.inr (Or.inr rfl)) (hd : (x == ("__debug__" : Str)) = false := by decide) (hcd : (x == ("__classdict__" : Str)) = false := by decide) :
    DSt Z X md rn (.Return (some (.Name x px)) pos) (dRetO i) := (ps_ret (pe_var hi hv hd hcd)).imp fun D σ H ⟨B, ρ, E, ⟨G, fp, S⟩, ⟨d, hd, h⟩, M⟩ => by
  obtain ⟨v, hv, o⟩ := S.at_ i d hd
  rw [hm] at o
  exact ⟨v, hv, M.rt d h v (fp i) G H S.ex o (S.nd i) (S.nw i)⟩
def dIfS (c : DTT) (t u : DTS) : DTS := fun E ρ => c ρ fun b => if b = true then t E ρ else u E ρ
theorem ds_if {c : Expr} {a b : List Stmt} {tc : DTT} (hc : DT Z X c tc) (ha : DSs Z X md rn a t) (hb : DSs Z X md rn b u) : DSt Z X md rn (.If c a b pos) (dIfS tc t u) := by
  refine (ps_if hc ha hb).imp ?_
  rintro D σ H ⟨B, ρ, E, ⟨G, fp, S⟩, h, M⟩
  refine S.evT h fun b hb H' S' => ?_
  cases b with
  | true => exact iteT ⟨B, ρ, E, ⟨G, fp, S'⟩, (by simpa using hb), M⟩
  | false => exact iteF ⟨B, ρ, E, ⟨G, fp, S'⟩, (by simpa using hb), M⟩
/-- x = e -/
def dSet (md : List Nat) (m : Bool) (i : Nat) (te : DTE) : DTS := fun E ρ => te (vis md m ρ) fun d => flatIf m d ∧ E.nx (ρ.set i (some d))
theorem ds_set (m : Bool) (i : Nat) {x : Str} {pos' : Pos} (hN : X.N.Nodup) (he : DE Z X e te) (hm : md.getD i 0 = 0 := by rfl) (hi : X.N[i]? = some x := by rfl) (hx : Loc X.env.scope x := by first | exact Or.inl rfl | exact Or.inr rfl) (hs : swapsWith e (some (.Name x pos')) pos.line X.env = pure false := by rfl)
    (hf : X.fn x = true ∨ X.env.scope.names.lookup x = some .local := by first | exact .inl rfl | exact .inr rfl | assumption) : DSt Z X md rn (.Assign [.Name x pos'] e pos) (dSet md m i te) := by
  refine (ps_set hN hi hx he hs hf).imp ?_
  rintro D σ H ⟨B, ρ, E, ⟨G, fp, S⟩, h, M⟩
  exact S.ev m h fun d hd => ⟨hd.1, fun v G' H' S' x dv => M.nx _ hd.2 _ _ ⟨G', _, S'.setP hm dv⟩⟩
/-- x = [comprehension] -/
theorem ds_setlc (i : Nat) {x : Str} {px spos : Pos} {tg iter elt : Expr} {ifs : List Expr} {scope : Scope} {NC : List Str} {src : List (Option Nat)} {wi : DTI} {g : DTG} {tt : DTT} (hc : X.calm = true) (hN : X.N.Nodup) (c : CompOk X scope) (hsrc : SrcOk scope X.N src NC) (hi : DI Z X tg iter wi)
    (hg : ∀ ex s H, DG Z (cxC X scope NC ex s H) tg g) (ht : ∀ ex s H, DTs Z (cxC X scope NC ex s H) ifs tt) (he : ∀ ex s H, DE Z (cxC X scope NC ex s H) elt te)
    (hsw : swapsWith (.ListComp elt [⟨tg, iter, ifs, 0⟩] scope pos) (some (.Name x px)) spos.line X.env = pure true := by rfl) (hm : md.getD i 0 = 0 := by rfl) (hi' : X.N[i]? = some x := by rfl) (hx : Loc X.env.scope x := by first | exact Or.inl rfl | exact Or.inr rfl)
    (hf : X.fn x = true ∨ X.env.scope.names.lookup x = some .local := by first | exact .inl rfl | exact .inr rfl | assumption)
    (hs : ∀ x, foldedSetIterable iter X.env x = pure x := by intro _; rfl) : DSt Z X md rn (.Assign [.Name x px] (.ListComp elt [⟨tg, iter, ifs, 0⟩] scope pos) spos) (dSet md false i (dLC wi g tt te src)) := by
  refine (ps_setlc hc hN hi' hx c hsrc hi hg ht he hsw hf hs).imp ?_
  rintro D σ H ⟨B, ρ, E, ⟨G, fp, S⟩, h, M⟩
  refine liftLC σ H _ (S.ev false h fun d hd => ⟨hd.1, fun v G' H' S' x dv => M.nx _ hd.2 _ _ ⟨G', _, S'.setP hm dv⟩⟩)
end
end L2

set_option Elab.async false
set_option linter.all false
set_option maxRecDepth 100000
set_option maxHeartbeats 4000000
namespace L2
open PySem PySem.Spec PyProof.Rows
section
variable {Z : DC} {X : Cx} {B : Bs} {md : List Nat} {rn : Nat} {ρ : DN} {σ : St} {H G : Hp} {fp : Nat → List Addr}
/-! ### targets at a state -/
def liftGS (Z : DC) (md : List Nat) (g : DTG) : TG := fun v σ H Q => ∃ (B : Bs) (ρ : DN) (d : D) (P : DN → Prop) (G : Hp) (fp : Nat → List Addr), SIx Z B md ρ σ H G fp ∧ Dv Z G v d ∧ g d ρ P ∧ ∀ ρ', P ρ' → ∀ σ' fp', SIx Z B md ρ' σ' H G fp' → Q σ' H
def liftGSs (Z : DC) (md : List Nat) (g : DTGs) : TGs := fun vs σ H Q => ∃ (B : Bs) (ρ : DN) (ds : List D) (P : DN → Prop) (G : Hp) (fp : Nat → List Addr), SIx Z B md ρ σ H G fp ∧ DvAll Z G vs ds ∧ g ds ρ P ∧ ∀ ρ', P ρ' → ∀ σ' fp', SIx Z B md ρ' σ' H G fp' → Q σ' H
def DGS (Z : DC) (X : Cx) (md : List Nat) (e : Expr) (g : DTG) : Prop := PG X e (liftGS Z md g)
def DGSs (Z : DC) (X : Cx) (md : List Nat) (es : List Expr) (g : DTGs) : Prop := PGs X es (liftGSs Z md g)
theorem dt_name (i : Nat) {x : Str} {pos : Pos} (hN : X.N.Nodup) (hm : md.getD i 0 = 0 := by rfl) (hi : X.N[i]? = some x := by rfl) (hx : Loc X.env.scope x := by first | exact Or.inl rfl | exact Or.inr rfl) (hf : X.fn x = true ∨ X.env.scope.names.lookup x = some .local := by first | exact .inl rfl | exact .inr rfl | assumption) : DGS Z X md (.Name x pos) (dgName i) :=
  (pg_name hN hi hx hf).imp fun v σ H Q ⟨B, ρ, d, P, G, fp, S, dv, h, q⟩ => q _ h _ _ (S.setP hm dv)
theorem dts_nil' : DGSs Z X md [] dgNil := pgs_nil.imp fun v σ H Q ⟨B, ρ, ds, P, G, fp, S, dv, ⟨h, p⟩, q⟩ => by
  subst h
  cases dv
  exact ⟨rfl, q _ p _ _ S⟩
theorem dts_cons {e : Expr} {es : List Expr} {g : DTG} {gs : DTGs} (h1 : DGS Z X md e g) (h2 : DGSs Z X md es gs) (hs : (assignEach (e :: es) X.env).map (·.2) = assign e X.env :: (assignEach es X.env).map (·.2) := by rfl) : DGSs Z X md (e :: es) (dgCons g gs) := by
  refine (pgs_cons h1 h2 hs).imp ?_
  rintro v σ H Q ⟨B, ρ, ds, P, G, fp, S, dv, h, q⟩
  cases dv with
  | nil => exact h.elim
  | cons a as => exact ⟨_, _, rfl, B, ρ, _, _, G, fp, S, a, h, fun ρ' hp σ' fp' S' => ⟨B, ρ', _, P, G, fp', S', as, hp, q⟩⟩
theorem dt_tup (n : Nat) {es : List Expr} {k : Nat} {pos : Pos} {gs : DTGs} (hc : X.calm = true) (h : DGSs Z X md es gs) (hn : (assignEach es X.env).length = n := by rfl) (hst : (assignEach es X.env).findIdx? (·.1) = none := by rfl) : DGS Z X md (.Tuple es k pos) (dgTup n gs) := by
  refine (pg_tup hc h hn hst).imp ?_
  rintro v σ H Q ⟨B, ρ, d, P, G, fp, S, dv, h, q⟩
  cases dv <;> first | exact h.elim | skip
  rename_i a xs ds ha es
  exact ⟨a, xs, rfl, SqT.of (S.ex.sub _ _ ha), by rw [es.length]; exact h.1, B, ρ, _, P, G, fp, S, es, h.2, q⟩
/-- a, b = e (pure) -/
def dAsg (md : List Nat) (te : DTE) (g : DTG) : DTS := fun E ρ => te (pureN md ρ) fun d => g d ρ E.nx
theorem ds_asg {tg e : Expr} {te : DTE} {g : DTG} {pos : Pos} (he : DE Z X e te) (hg : DGS Z X md tg g) (hs : swapsWithSole [tg] e pos.line X.env = pure false := by rfl) (hw : swappedStores [tg] e X.env = pure none := by rfl)
    (h1 : (assignEach [tg] X.env).map (·.2) = [assign tg X.env] := by rfl) : DSt Z X md rn (.Assign [tg] e pos) (dAsg md te g) := by
  refine (ps_asg he hg hs hw h1).imp ?_
  rintro D σ H ⟨B, ρ, E, ⟨G, fp, S⟩, h, M⟩
  exact S.ev false h fun d hd => ⟨trivial, fun v G' H' S' x dv => ⟨B, ρ, d, E.nx, G', fp, S', dv, hd, fun ρ' h' σ' fp' S2 => M.nx _ h' _ _ ⟨G', fp', S2⟩⟩⟩
/-! ### for -/
def forW (g : DTG) (tb : DTS) (E : DEnds) : List D → DN → Prop
  | [], ρ => E.nx ρ
  | x :: xs, ρ => g x ρ fun ρ1 => tb { nx := forW g tb E xs, ct := forW g tb E xs, bk := E.nx, rt := E.rt } ρ1
def dFor (md : List Nat) (m : Bool) (wi : DTI) (g : DTG) (tb : DTS) : DTS := fun E ρ => wi (vis md m ρ) fun ds => forW g tb E ds ρ
theorem for_lift {D' : Ends} {J : It} {ds : List D} {g : DTG} {tb : DTS} {E : DEnds} (S : SIx Z B md ρ σ H G fp) (it : ItOk Z G J ds) (hd : forW g tb E ds ρ) (M : Meets Z B md rn E D') :
    ∃ W : Nat → Nat → St → Hp → Prop, (∃ m, W 0 m σ H) ∧ ∀ i m σ H, W i m σ H →
      (J.stop i H ∧ D'.nx σ H) ∨ (J.go i H ∧ ∃ N : St → Hp → Prop, (∀ σ' H', N σ' H' → ∃ m', m' < m ∧ W (i + 1) m' σ' H') ∧ ∀ x H', J.yld i H x H' → liftGS Z md g x σ H' fun σ2 H2 => liftS Z md rn tb { D' with nx := N, ct := N, bk := D'.nx } σ2 H2) := by
  let B1 : Bs := { B with Gf := G }
  have back : ∀ ρ σ H, SI Z B1 md ρ σ H → SI Z B md ρ σ H := fun ρ σ H ⟨G2, fp2, S2⟩ => ⟨G2, fp2, ⟨S2.ex, S.fl.trans S2.fl, S2.len, S2.at_, S2.nd, S2.ap, S2.nw⟩⟩
  have S1 : SIx Z B1 md ρ σ H G fp := ⟨S.ex, .refl _, S.len, S.at_, S.nd, S.ap, S.nw⟩
  refine ⟨fun i m σ H => m = ds.length - i ∧ i ≤ ds.length ∧ ∃ ρ, SI Z B1 md ρ σ H ∧ forW g tb E (ds.drop i) ρ, ⟨_, rfl, Nat.zero_le _, ρ, ⟨G, fp, S1⟩, hd⟩, ?_⟩
  rintro i m σ2 H2 ⟨rfl, hi, ρ2, ⟨G2, fp2, S2⟩, hf⟩
  obtain ⟨go, stop, yld⟩ := it G2 H2 S2.fl S2.ex.sub i
  by_cases hlt : i < ds.length
  · refine .inr ⟨go hlt, fun σ' H' => ∃ ρ', SI Z B1 md ρ' σ' H' ∧ forW g tb E (ds.drop (i + 1)) ρ', fun σ' H' n => ⟨ds.length - (i + 1), by omega, rfl, hlt, n⟩, fun x H' y => ?_⟩
    obtain ⟨G3, d, x3, hdd, dv⟩ := yld x H' hlt y
    rw [drop_at hdd] at hf
    refine ⟨B1, ρ2, d, _, G3, fp2, S2.grow x3, dv, hf, fun ρ4 h4 σ4 fp4 S4 => ?_⟩
    exact ⟨B1, ρ4, _, ⟨G3, fp4, S4⟩, h4, ⟨fun ρ' h' σ' H' s' => ⟨ρ', s', h'⟩, M.rt, fun ρ' h' σ' H' s' => M.nx _ h' _ _ (back _ _ _ s'), fun ρ' h' σ' H' s' => ⟨ρ', s', h'⟩⟩⟩
  · have e : ds.drop i = [] := List.drop_eq_nil_of_le (by omega)
    rw [e] at hf
    exact .inl ⟨stop (by omega), M.nx _ hf _ _ (back _ _ _ ⟨G2, fp2, S2⟩)⟩
variable {tg iter : Expr} {body : List Stmt} {wi : DTI} {g : DTG} {tb : DTS} {pos : Pos}
theorem ds_for (hc : X.calm = true) (hp : PassesOwn (model X.prog X.w) X.A X.env X.xe) (hi : DI Z X tg iter wi) (hg : DGS Z X md tg g) (hb : DSs Z X md rn body tb)
    (hs : ∀ x, foldedSetIterable iter X.env x = pure x := by intro _; rfl) : DSt Z X md rn (.For tg iter body [] pos) (dFor md false wi g tb) := by
  refine (ps_for hp hc hi hg hb hs).imp ?_
  rintro D σ H ⟨B, ρ, E, ⟨G, fp, S⟩, h, M⟩
  exact ⟨G, _, _, S.ex.sub, S.envP, h, fun ds hd J G1 H1 x1 it => for_lift (S.grow x1) it hd M⟩
/-- what is walked leans on no heap -/
def liftIr (Z : DC) (wi : DTI) : TI := fun σ H R => ∃ (G : Hp) (ρ : DN) (P : List D → Prop), Same G H ∧ EnvD Z G σ ρ ∧ wi ρ P ∧ ∀ ds, P ds → ∀ J G' H', Ext G H G' H' → (∀ G2, ItOk Z G2 J ds) → R J H'
def DIr (Z : DC) (X : Cx) (tg e : Expr) (wi : DTI) : Prop := PI X tg e (liftIr Z wi)
theorem ds_forR (hc : X.calm = true) (hp : PassesOwn (model X.prog X.w) X.A X.env X.xe) (hi : DIr Z X tg iter wi) (hg : DGS Z X md tg g) (hb : DSs Z X md rn body tb)
    (hs : ∀ x, foldedSetIterable iter X.env x = pure x := by intro _; rfl) : DSt Z X md rn (.For tg iter body [] pos) (dFor md true wi g tb) := by
  refine (ps_for hp hc hi hg hb hs).imp ?_
  rintro D σ H ⟨B, ρ, E, ⟨G, fp, S⟩, h, M⟩
  exact ⟨H, ρ, _, .refl _, S.envA, h, fun ds hd J G1 H1 x1 it => for_lift (S.grow (Ext.all S.ex.sub x1)) (it _) hd M⟩
variable {a b e : Expr} {ta te : DTE} {t : DTA}
theorem dr_range1 {p : Pos} (hg : Gl X "range") (hm : X.mg "range" = none) (ha : DA Z X [a] t) (hs : starEach [a] X.env = [(false, eval a X.env)] := by rfl) : DIr Z X tg (.Call (.Name "range" p) [a] [] pos) (diR1 t) := by
  refine (pi_range1 hg hm ha hs).imp ?_
  rintro σ H Q ⟨G, ρ, P, s, en, h, q⟩
  refine ⟨G, ρ, _, s, en, h, fun ds hd vs G1 H1 x1 dv => ?_⟩
  split at hd
  · obtain ⟨_, rfl, a⟩ := dv.ofOne
    exact ⟨_, by rw [a.ofInt], hd.1.1, hd.1.2, q _ hd.2 _ G1 H1 x1 fun _ => it_range 0 _⟩
  · exact hd.elim
theorem dr_range2 {p : Pos} (hg : Gl X "range") (hm : X.mg "range" = none) (ha : DA Z X [a, b] t) (hs : starEach [a, b] X.env = [(false, eval a X.env), (false, eval b X.env)] := by rfl) (hs2 : starEach [b] X.env = [(false, eval b X.env)] := by rfl) : DIr Z X tg (.Call (.Name "range" p) [a, b] [] pos) (diR2 t) := by
  refine (pi_range2 hg hm ha hs hs2).imp ?_
  rintro σ H Q ⟨G, ρ, P, s, en, h, q⟩
  refine ⟨G, ρ, _, s, en, h, fun ds hd vs G1 H1 x1 dv => ?_⟩
  split at hd
  · obtain ⟨u1, u2, rfl, da, db⟩ := dv.ofTwo
    exact ⟨_, _, by rw [da.ofInt, db.ofInt], hd.1, q _ hd.2 _ G1 H1 x1 fun _ => it_range _ _⟩
  · exact hd.elim
/-! ### while -/
def dWhile (c : DTT) (tb : DTS) : DTS := fun E ρ => ∃ W : Nat → DN → Prop, (∃ m, W m ρ) ∧ ∀ m ρ, W m ρ → c ρ fun b => if b = true then tb { nx := fun ρ' => ∃ m', m' < m ∧ W m' ρ', ct := fun ρ' => ∃ m', m' < m ∧ W m' ρ', bk := E.nx, rt := E.rt } ρ else E.nx ρ
theorem ds_while {c : Expr} {tc : DTT} (hp : PassesOwn (model X.prog X.w) X.A X.env X.xe) (hc : DT Z X c tc) (hb : DSs Z X md rn body tb) : DSt Z X md rn (.While c body [] pos) (dWhile tc tb) := by
  refine (ps_while hp hc hb).imp ?_
  rintro D σ H ⟨B, ρ, E, S, ⟨W, ⟨m0, w0⟩, turn⟩, M⟩
  refine ⟨fun m σ H => ∃ ρ, SI Z B md ρ σ H ∧ W m ρ, ⟨m0, ρ, S, w0⟩, ?_⟩
  rintro m σ2 H2 ⟨ρ2, ⟨G2, fp2, S2⟩, w2⟩
  refine S2.evT (turn m ρ2 w2) fun b hb H' S' => ?_
  cases b with
  | false => exact iteF (M.nx _ (by simpa using hb) _ _ ⟨G2, fp2, S'⟩)
  | true =>
    refine iteT ⟨fun σ' H' => ∃ ρ' m', m' < m ∧ SI Z B md ρ' σ' H' ∧ W m' ρ', fun σ' H' ⟨ρ', m', h1, h2, h3⟩ => ⟨m', h1, ρ', h2, h3⟩, B, ρ2, _, ⟨G2, fp2, S'⟩, (by simpa using hb), ?_⟩
    exact ⟨fun ρ' ⟨m', h1, h2⟩ σ' H' s' => ⟨ρ', m', h1, s', h2⟩, M.rt, M.nx, fun ρ' ⟨m', h1, h2⟩ σ' H' s' => ⟨ρ', m', h1, s', h2⟩⟩
/-! ### new lists that are owned -/
abbrev DTF := DN → (List D → Prop) → Prop
def liftF (Z : DC) (n : Nat) (t : DTF) : TE := fun σ H Q => ∃ (G : Hp) (ρ : DN) (P : List D → Prop), Same G H ∧ EnvD Z G σ ρ ∧ t ρ P ∧ ∀ ds, P ds → ∀ v f G' H', Ext G H G' H' → Own Z G' H' n v (.lst ds) f → f.Nodup → (∀ b ∈ f, H b = none ∧ H' b ≠ none ∧ G' b = none) → Q v H'
def DF (Z : DC) (X : Cx) (n : Nat) (e : Expr) (t : DTF) : Prop := PE X e (liftF Z n t)
theorem Ext.side {p : Addr} {o : HO} {G1 H1 : Hp} (x : Ext G H G1 H1) (hp : H1 p = none) : Ext G H G1 (upd H1 p o) :=
  ⟨x.gg, fun b u e => by rw [upd_ne (ne_of_none e (x.sub.free hp))]; exact x.sub _ _ e, x.hh.trans (same_new hp _), x.off⟩
theorem own_new {p : Addr} {xs : List V} {ds : List D} {G1 H1 : Hp} (x : Ext G H G1 H1) (hp : H1 p = none) (dv : DvAll Z G1 xs ds) :
    Own Z G1 (upd H1 p (.lst xs)) 1 (.ref p) (.lst ds) [p] ∧ ([p] : List Addr).Nodup ∧ ∀ b ∈ ([p] : List Addr), H b = none ∧ (upd H1 p (.lst xs)) b ≠ none ∧ G1 b = none := by
  refine ⟨.inl ⟨p, xs, ds, [], rfl, rfl, upd_same, rfl, dv.own⟩, by simp, fun b hb => ?_⟩
  have : b = p := by simpa using hb
  subst this
  exact ⟨x.hh.free hp, (by rw [upd_same]; exact fun z => nomatch z), x.sub.free hp⟩
def fLst (t : DTA) : DTF := fun ρ P => t ρ fun ds => ds.length ≤ sizeLine ∧ P ds
theorem df_lst {es : List Expr} (h : DA Z X es t) : DF Z X 1 (.List es pos) (fLst t) := by
  refine (pe_lst h).imp ?_
  rintro σ H Q ⟨G, ρ, P, s, e, h, q⟩
  refine ⟨G, ρ, _, s, e, h, ?_⟩
  rintro ds ⟨hl, hp⟩ vs G1 H1 x1 dvs
  refine ⟨by rw [dvs.length]; exact hl, fun p hp' => ?_⟩
  obtain ⟨o1, o2, o3⟩ := own_new x1 hp' dvs
  exact q _ hp _ _ _ _ (x1.side hp') o1 o2 o3
def fList (te : DTE) : DTF := fun ρ P => te ρ fun d => match d with
  | .lst l => P l
  | .tup l => P l
  | _ => False
theorem df_list {x : Str} {p : Pos} (hx : x = "list") (hg : Gl X x) (hm : X.mg x = none) (hv : bootBuiltins x = some (.type "list")) (ha : DE Z X a ta) (hn : x ≠ "__name__" := by decide) (hdb : (x == ("__debug__" : Str)) = false := by decide)
    (he : starEach [a] X.env = (false, eval a X.env) :: starEach [] X.env := by rfl) (hpl : (backTo pos (starEach [] X.env)).any (·.1) = false := by rfl) : DF Z X 1 (.Call (.Name x p) [a] [] pos) (fList ta) := by
  refine (pe_callTy call_list_of hg hm hv (pa_cons ha pa_nil he) hn hdb he hpl).imp ?_
  rintro σ H Q ⟨G, ρ, P, s, e, h, q⟩
  refine ⟨G, ρ, _, s, e, h, fun d hd v G1 H1 x1 dv => ?_⟩
  cases dv <;> first | exact hd.elim | skip
  · rename_i h e
    refine ⟨_, _, rfl, .inl (SqL.of (x1.sub _ _ h)), fun p hp => ?_⟩
    obtain ⟨o1, o2, o3⟩ := own_new x1 hp e
    exact q _ hd _ _ _ _ (x1.side hp) o1 o2 o3
  · rename_i h e
    refine ⟨_, _, rfl, .inr (SqT.of (x1.sub _ _ h)), fun p hp => ?_⟩
    obtain ⟨o1, o2, o3⟩ := own_new x1 hp e
    exact q _ hd _ _ _ _ (x1.side hp) o1 o2 o3
/-- a comprehension -/
def fLC (wi : DTI) (g : DTG) (tt : DTT) (te : DTE) (src : List (Option Nat)) : DTF := fun ρ P => wi ρ fun ds => lcW g tt te ds (srcD src ρ) [] fun _ out => P out
theorem liftFLC {src : List (Option Nat)} {tt : DTT} : ∀ σ H Q, liftF Z 1 (fLC wi g tt te src) σ H Q → tLC (liftI Z wi) (liftG Z g) (liftT Z tt) (liftE Z te) src σ H Q := by
  rintro σ H Q ⟨G, ρ, P, s, en, h, q⟩
  refine ⟨G, ρ, _, s, en, h, fun ds hd J G1 H1 x1 it Ad hA => ?_⟩
  refine ⟨fun i m σ2 H2 => m = ds.length - i ∧ i ≤ ds.length ∧ ∃ ρ2 acc, CS Z G1 H1 Ad ρ2 acc σ2 H2 ∧ lcW g tt te (ds.drop i) ρ2 acc fun _ out => P out, ⟨_, rfl, Nat.zero_le _, _, [], .begin x1.sub hA ((en.mono x1.gg).src src), hd⟩, ?_⟩
  rintro i m σ2 H2 ⟨rfl, hi, ρ2, acc, c, hl⟩
  by_cases hlt : i < ds.length
  · obtain ⟨go, turn⟩ := lc_turns hA G1 it i ρ2 acc σ2 H2 c (fun _ s => s) hlt hl
    exact .inr ⟨go, _, fun σ' H' n => ⟨ds.length - (i + 1), by omega, rfl, hlt, n⟩, turn⟩
  · have e : ds.drop i = [] := List.drop_eq_nil_of_le (by omega)
    rw [e] at hl
    obtain ⟨G2, ys, s1, s2, s3, off, gA, hAd, dvs, en⟩ := c
    refine .inl ⟨(it G2 H2 s1 s2 i).2.1 (by omega), q _ hl (.ref Ad) [Ad] G2 H2 ⟨x1.gg.trans s1, s2, x1.hh.trans s3, fun b hb hg => off b (some_ne x1.hh hb) (x1.off b hb hg)⟩ (.inl ⟨Ad, ys, acc, [], rfl, rfl, hAd, rfl, dvs.own⟩) (by simp) fun b hb => ?_⟩
    have : b = Ad := by simpa using hb
    subst this
    exact ⟨x1.hh.free hA, (by rw [hAd]; exact fun z => nomatch z), gA⟩
variable {elt : Expr} {ifs : List Expr} {scope : Scope} {NC : List Str} {src : List (Option Nat)} {tt : DTT}
def dNew (md : List Nat) (i : Nat) (t : DTF) : DTS := fun E ρ => t (pureN md ρ) fun ds => E.nx (ρ.set i (some (.lst ds)))
theorem new_lift {n i : Nat} {t : DTF} {D' : Ends} {E : DEnds} (hm : md.getD i 0 = n) (S : SIx Z B md ρ σ H G fp) (h : t (pureN md ρ) fun ds => E.nx (ρ.set i (some (.lst ds)))) (M : Meets Z B md rn E D') : liftF Z n t σ H fun v H' => D'.nx (σ.set i (some v)) H' := by
  refine ⟨G, _, _, S.ex.sub, S.envP, h, fun ds hd v f G' H' x o nd nw => ?_⟩
  refine M.nx _ hd _ _ ⟨G', _, (S.grow x).setO hm o nd (fun b hb => ⟨S.ex.hh.free (nw b hb).1, (nw b hb).2⟩) fun b hb j _ hj => (S.nw j b hj).2.1 (nw b hb).1⟩
theorem ds_new (i : Nat) {n : Nat} {x : Str} {pos' : Pos} {t : DTF} (hN : X.N.Nodup) (he : DF Z X n e t) (hm : md.getD i 0 = n := by rfl) (hi : X.N[i]? = some x := by rfl) (hx : Loc X.env.scope x := by first | exact Or.inl rfl | exact Or.inr rfl) (hs : swapsWith e (some (.Name x pos')) pos.line X.env = pure false := by rfl)
    (hf : X.fn x = true ∨ X.env.scope.names.lookup x = some .local := by first | exact .inl rfl | exact .inr rfl | assumption) : DSt Z X md rn (.Assign [.Name x pos'] e pos) (dNew md i t) := by
  refine (ps_set hN hi hx he hs hf).imp ?_
  rintro D σ H ⟨B, ρ, E, ⟨G, fp, S⟩, h, M⟩
  exact new_lift hm S h M
theorem ds_newlc (i : Nat) {x : Str} {px spos : Pos} (hc : X.calm = true) (hN : X.N.Nodup) (c : CompOk X scope) (hsrc : SrcOk scope X.N src NC) (hi : DI Z X tg iter wi)
    (hg : ∀ ex s H, DG Z (cxC X scope NC ex s H) tg g) (ht : ∀ ex s H, DTs Z (cxC X scope NC ex s H) ifs tt) (he : ∀ ex s H, DE Z (cxC X scope NC ex s H) elt te)
    (hsw : swapsWith (.ListComp elt [⟨tg, iter, ifs, 0⟩] scope pos) (some (.Name x px)) spos.line X.env = pure true := by rfl) (hm : md.getD i 0 = 1 := by rfl) (hi' : X.N[i]? = some x := by rfl) (hx : Loc X.env.scope x := by first | exact Or.inl rfl | exact Or.inr rfl)
    (hf : X.fn x = true ∨ X.env.scope.names.lookup x = some .local := by first | exact .inl rfl | exact .inr rfl | assumption)
    (hs : ∀ x, foldedSetIterable iter X.env x = pure x := by intro _; rfl) : DSt Z X md rn (.Assign [.Name x px] (.ListComp elt [⟨tg, iter, ifs, 0⟩] scope pos) spos) (dNew md i (fLC wi g tt te src)) := by
  refine (ps_setlc hc hN hi' hx c hsrc hi hg ht he hsw hf hs).imp ?_
  rintro D σ H ⟨B, ρ, E, ⟨G, fp, S⟩, h, M⟩
  exact liftFLC σ H _ (new_lift hm S h M)
end
end L2

set_option Elab.async false
set_option linter.all false
set_option maxRecDepth 100000
set_option maxHeartbeats 4000000
namespace L2
open PySem PySem.Spec PyProof.Rows
section
variable {Z : DC} {X : Cx} {B : Bs} {md : List Nat} {rn : Nat} {ρ : DN} {σ : St} {H G : Hp} {fp : Nat → List Addr} {a e k o : Expr} {ta te tk tp : DTE} {pos apos cpos p2 : Pos}
/-- an owned cell is written -/
theorem SIx.mut {i : Nat} {v : V} {d' : D} {b : Addr} {c : HO} (S : SIx Z B md ρ σ H G fp) (hi : σ[i]? = some (some v)) (hb : b ∈ fp i) (o : Own Z G (upd H b c) (md.getD i 0) v d' (fp i)) : SIx Z B md (ρ.set i (some d')) σ (upd H b c) G fp where
  ex := by
    obtain ⟨h1, h2, h3⟩ := S.nw i b hb
    exact ⟨S.ex.gg, fun x u e => by rw [upd_ne (ne_of_none e h3)]; exact S.ex.sub _ _ e, fun x u e => by rw [upd_ne (ne_of_none e h1)]; exact S.ex.hh _ _ e, S.ex.off⟩
  fl := S.fl
  len := by rw [List.length_set]; exact S.len
  at_ := fun j w h => by
    by_cases z : i = j
    · subst z
      by_cases hl : i < ρ.length
      · rw [List.getElem?_set_self hl] at h
        cases h
        exact ⟨v, hi, o⟩
      · rw [List.set_eq_of_length_le (Nat.le_of_not_lt hl), List.getElem?_eq_none (Nat.le_of_not_lt hl)] at h; cases h
    · rw [List.getElem?_set_ne z] at h
      obtain ⟨u, hu, ow⟩ := S.at_ j w h
      exact ⟨u, hu, ow.keep (.refl _) fun x hx => upd_ne fun q => S.ap i j b z hb (by rw [← q]; exact hx)⟩
  nd := S.nd
  ap := S.ap
  nw := fun j x hx => by
    obtain ⟨h1, h2, h3⟩ := S.nw j x hx
    refine ⟨h1, ?_, h3⟩
    by_cases z : x = b
    · rw [z, upd_same]; exact fun q => nomatch q
    · rw [upd_ne z]; exact h2
/-- the cell of an owned list of depth one -/
theorem SIx.one {i : Nat} {d : D} (S : SIx Z B md ρ σ H G fp) (hm : md.getD i 0 = 1) (h : ρ[i]? = some (some d)) : ∃ l xs ds, d = .lst ds ∧ σ[i]? = some (some (.ref l)) ∧ H l = some (.lst xs) ∧ DvAll Z G xs ds ∧
    ∀ xs' ds', DvAll Z G xs' ds' → SIx Z B md (ρ.set i (some (.lst ds'))) σ (upd H l (.lst xs')) G fp := by
  obtain ⟨v, hv, o⟩ := S.at_ i d h
  rw [hm] at o
  obtain ⟨l, xs, ds, fps, rfl, rfl, hl, hf, ol⟩ := o.one
  obtain ⟨dv, rfl⟩ := ol.flat
  refine ⟨l, xs, ds, rfl, hv, hl, dv, fun xs' ds' dv' => S.mut hv (by rw [hf]; simp) ?_⟩
  rw [hm, hf]
  exact .inl ⟨l, xs', ds', [], rfl, rfl, upd_same, rfl, dv'.own⟩
theorem OwnL.at1 : ∀ {ys : List V} {dss : List D} {fps : List Addr} (p : Nat) {dp : D}, OwnL (Own Z G H 1) ys dss fps → fps.Nodup → dss[p]? = some dp → ∃ l xs ds, dp = .lst ds ∧ ys[p]? = some (.ref l) ∧ H l = some (.lst xs) ∧ DvAll Z G xs ds ∧ l ∈ fps ∧
    ∀ xs' ds', DvAll Z G xs' ds' → OwnL (Own Z G (upd H l (.lst xs')) 1) ys (dss.set p (.lst ds')) fps
  | _, _, _, _, _, .nil, _, h => by simp at h
  | _, _, _, 0, dp, .cons (f := f) (fs := fs) a as, nd, h => by
    simp at h; subst h
    obtain ⟨l, xs, ds, fps, rfl, rfl, hl, hf, ol⟩ := a.one
    obtain ⟨dv, rfl⟩ := ol.flat
    subst hf
    refine ⟨l, xs, ds, rfl, rfl, hl, dv, by simp, fun xs' ds' dv' => .cons (.inl ⟨l, xs', ds', [], rfl, rfl, upd_same, rfl, dv'.own⟩) (as.imp fun v d f hf r => r.keep (.refl _) fun b hb => upd_ne fun z => ?_)⟩
    have := (List.nodup_cons.mp nd).1
    exact this (by subst z; exact hf _ hb)
  | _, _, _, p + 1, dp, .cons (f := f) (fs := fs) a as, nd, h => by
    obtain ⟨nd1, nd2, nd3⟩ := List.nodup_append.mp nd
    obtain ⟨l, xs, ds, e1, e2, e3, e4, e5, e6⟩ := OwnL.at1 p (dp := dp) as nd2 (by simpa using h)
    refine ⟨l, xs, ds, e1, by simpa using e2, e3, e4, List.mem_append_right _ e5, fun xs' ds' dv' => ?_⟩
    refine .cons (a.keep (.refl _) fun b hb => upd_ne fun z => ?_) (e6 xs' ds' dv')
    exact nd3 b hb l e5 z
/-- a row of an owned list of depth two -/
theorem SIx.two {i p : Nat} {dss : List D} {dp : D} (S : SIx Z B md ρ σ H G fp) (hm : md.getD i 0 = 2) (h : ρ[i]? = some (some (.lst dss))) (hp : dss[p]? = some dp) : ∃ T ys l xs ds, dp = .lst ds ∧ σ[i]? = some (some (.ref T)) ∧ H T = some (.lst ys) ∧ ys.length = dss.length ∧ ys[p]? = some (.ref l) ∧ H l = some (.lst xs) ∧ DvAll Z G xs ds ∧
    ∀ xs' ds', DvAll Z G xs' ds' → SIx Z B md (ρ.set i (some (.lst (dss.set p (.lst ds'))))) σ (upd H l (.lst xs')) G fp := by
  obtain ⟨v, hv, o⟩ := S.at_ i _ h
  rw [hm] at o
  obtain ⟨T, ys, ds0, fps, rfl, e0, hT, hf, ol⟩ := o.lst
  cases e0
  have nd := S.nd i
  rw [hf] at nd
  obtain ⟨nT, nd2⟩ := List.nodup_cons.mp nd
  obtain ⟨l, xs, ds, e1, e2, e3, e4, e5, e6⟩ := OwnL.at1 p ol nd2 hp
  refine ⟨T, ys, l, xs, ds, e1, hv, hT, ol.length, e2, e3, e4, fun xs' ds' dv' => S.mut hv (by rw [hf]; exact List.mem_cons_of_mem _ e5) ?_⟩
  rw [hm, hf]
  exact .inl ⟨T, ys, _, fps, rfl, rfl, by rw [upd_ne (fun z => nT (by rw [z]; exact e5))]; exact hT, rfl, e6 xs' ds' dv'⟩
theorem ty_list {K : PySem.W.Frag} {l : Addr} {xs : List V} (h : H l = some (.lst xs)) : tyV K "list" (.ref l) H := .inl ⟨rfl, _, SqL.of h⟩
/-! ### x.append(e) -/
def dApp (md : List Nat) (m : Bool) (i : Nat) (te : DTE) : DTS := fun E ρ => ∃ ds, ρ[i]? = some (some (.lst ds)) ∧ te (vis md m ρ) fun d => flatIf m d ∧ ds.length < sizeLine ∧ E.nx (ρ.set i (some (.lst (ds ++ [d]))))
theorem ds_app (m : Bool) (i : Nat) {x : Str} {px : Pos} (he : DE Z X e te) (hm : md.getD i 0 = 1 := by rfl) (hi : X.N[i]? = some x := by rfl) (hv : Vis X.env.scope x := by first | exact Or.inl rfl | exact Or.inr (Or.inl rfl) | exact Or.inr (Or.inr rfl)) (hd : (x == ("__debug__" : Str)) = false := by decide) (hcd : (x == ("__classdict__" : Str)) = false := by decide)
    (hbase : attributeBase (.Name x px) "append" X.env (eval (.Name x px) X.env) = eval (.Name x px) X.env := by rfl)
    (hfew : ((backTo cpos (starEach [e] X.env)).all (fun x => !x.1) && (backToKw cpos (keywordEach [] X.env)).all (fun x => x.1.isSome) && decide (([e] : List Expr).length + ([] : List Keyword).length + (if ([] : List Keyword).isEmpty then 0 else 1) < 30)) = true := by rfl)
    (hline : (apos.endLine == cpos.line) = true := by rfl) (hs : starEach [e] X.env = (false, eval e X.env) :: starEach [] X.env := by rfl) (hplain : (backTo cpos (starEach [] X.env)).any (·.1) = false := by rfl)
    (hsw : swapsWith (.Call (.Attribute (.Name x px) "append" apos) [e] [] cpos) none pos.line X.env = pure false := by rfl) :
    DSt Z X md rn (.Expr (.Call (.Attribute (.Name x px) "append" apos) [e] [] cpos) pos) (dApp md m i te) := by
  refine (ps_expr (pe_bm PySem.F.plainAttrs_list PySem.F.slot_list_append PySem.F.type_list_append mt_append (pv i hi hv hd hcd) (pa_cons he pa_nil hs) hbase hfew hline hs hplain) hsw).imp ?_
  rintro D σ H ⟨B, ρ, E, ⟨G, fp, S⟩, ⟨ds, h1, h⟩, M⟩
  obtain ⟨l, xs, _, _, e2, e3, _⟩ := S.one hm h1
  refine ⟨_, e2, ty_list e3, S.ev m h fun d hd => ⟨hd.1, fun v G' H' S' x dv => ?_⟩⟩
  obtain ⟨_, h2, h3⟩ := hd
  obtain ⟨l', xs', ds', e1, e2', e3', dvs, put⟩ := S'.one hm h1
  cases e1
  rw [e2] at e2'
  cases e2'
  exact ⟨l, xs', v, rfl, rfl, e3', by rw [dvs.length]; exact h2, M.nx _ h3 _ _ ⟨G', fp, put _ _ (dvs.snoc dv)⟩⟩
/-! ### x.insert(k, e) -/
theorem DvAll.ins {vs : List V} {ds : List D} {v : V} {d : D} (n : Nat) (h : DvAll Z G vs ds) (dv : Dv Z G v d) : DvAll Z G (Wb.ins vs n v) (Wb.ins ds n d) := (h.take n).append (.cons dv (h.drop n))
def dIns (md : List Nat) (m : Bool) (i : Nat) (tk te : DTE) : DTS := fun E ρ => ∃ ds, ρ[i]? = some (some (.lst ds)) ∧ tk ρ fun kk => ∃ k, kk = .int k ∧ te (vis md m ρ) fun d => flatIf m d ∧ (0 ≤ k ∧ k ≤ ds.length ∧ ds.length < sizeLine) ∧ E.nx (ρ.set i (some (.lst (Wb.ins ds k.toNat d))))
theorem ds_ins (m : Bool) (i : Nat) {x : Str} {px : Pos} (hk : DE Z X k tk) (he : DE Z X e te) (hm : md.getD i 0 = 1 := by rfl) (hi : X.N[i]? = some x := by rfl) (hv : Vis X.env.scope x := by first | exact Or.inl rfl | exact Or.inr (Or.inl rfl) | exact Or.inr (Or.inr rfl)) (hd : (x == ("__debug__" : Str)) = false := by decide) (hcd : (x == ("__classdict__" : Str)) = false := by decide)
    (hbase : attributeBase (.Name x px) "insert" X.env (eval (.Name x px) X.env) = eval (.Name x px) X.env := by rfl)
    (hfew : ((backTo cpos (starEach [k, e] X.env)).all (fun x => !x.1) && (backToKw cpos (keywordEach [] X.env)).all (fun x => x.1.isSome) && decide (([k, e] : List Expr).length + ([] : List Keyword).length + (if ([] : List Keyword).isEmpty then 0 else 1) < 30)) = true := by rfl)
    (hline : (apos.endLine == cpos.line) = true := by rfl) (hs : starEach [k, e] X.env = (false, eval k X.env) :: starEach [e] X.env := by rfl) (hs2 : starEach [e] X.env = (false, eval e X.env) :: starEach [] X.env := by rfl) (hplain : (backTo cpos (starEach [e] X.env)).any (·.1) = false := by rfl)
    (hsw : swapsWith (.Call (.Attribute (.Name x px) "insert" apos) [k, e] [] cpos) none pos.line X.env = pure false := by rfl) :
    DSt Z X md rn (.Expr (.Call (.Attribute (.Name x px) "insert" apos) [k, e] [] cpos) pos) (dIns md m i tk te) := by
  refine (ps_expr (pe_bm PySem.F.plainAttrs_list PySem.F.slot_list_insert PySem.F.type_list_insert mt_insert (pv i hi hv hd hcd) (pa_cons hk (pa_cons he pa_nil hs2) hs) hbase hfew hline hs hplain) hsw).imp ?_
  rintro D σ H ⟨B, ρ, E, ⟨G, fp, S⟩, ⟨ds, h1, h⟩, M⟩
  obtain ⟨l, xs, _, _, e2, e3, _⟩ := S.one hm h1
  refine ⟨_, e2, ty_list e3, S.ev true h ?_⟩
  rintro _ ⟨k, rfl, h⟩
  refine ⟨rfl, fun v1 G1 H1 S1 x1 dv1 => S1.ev m h fun d hd => ⟨hd.1, fun v G' H' S' x dv => ?_⟩⟩
  cases dv1
  obtain ⟨_, ⟨h2, h2', h2''⟩, h3⟩ := hd
  obtain ⟨l', xs', ds', e1, e2', e3', dvs, put⟩ := S'.one hm h1
  cases e1
  rw [e2] at e2'
  cases e2'
  exact ⟨l, xs', k, v, rfl, rfl, e3', h2, by rw [dvs.length]; exact h2', by rw [dvs.length]; exact h2'', M.nx _ h3 _ _ ⟨G', fp, put _ _ (dvs.ins _ dv)⟩⟩
/-! ### x[p].append(e), x[p].insert(k, e) -/
theorem atI_of {α : Type} {xs : List α} {i : Int} {j n : Nat} {v : α} (hn : xs.length = n) (h : ixN n i = some j) (e : xs[j]? = some v) : atI xs i = some v := by unfold atI; rw [hn, h]; exact e
def dIns2 (md : List Nat) (m : Bool) (i : Nat) (tp tk te : DTE) : DTS := fun E ρ => ∃ dss, ρ[i]? = some (some (.lst dss)) ∧ tp ρ fun pp => ∃ p j ds, pp = .int p ∧ ixN dss.length p = some j ∧ dss[j]? = some (.lst ds) ∧
  tk ρ fun kk => ∃ q, kk = .int q ∧ te (vis md m ρ) fun d => flatIf m d ∧ (0 ≤ q ∧ q ≤ ds.length ∧ ds.length < sizeLine) ∧ E.nx (ρ.set i (some (.lst (dss.set j (.lst (Wb.ins ds q.toNat d))))))
theorem ds_ins2 (m : Bool) (i : Nat) {x : Str} {px ps : Pos} {r : Expr} (hp : DE Z X r tp) (hk : DE Z X k tk) (he : DE Z X e te) (hm : md.getD i 0 = 2 := by rfl) (hpx : PlainIx r := by exact fun _ _ => rfl) (hi : X.N[i]? = some x := by rfl) (hv : Vis X.env.scope x := by first | exact Or.inl rfl | exact Or.inr (Or.inl rfl) | exact Or.inr (Or.inr rfl)) (hd : (x == ("__debug__" : Str)) = false := by decide) (hcd : (x == ("__classdict__" : Str)) = false := by decide)
    (hbase : attributeBase (.Subscript (.Name x px) r ps) "insert" X.env (eval (.Subscript (.Name x px) r ps) X.env) = eval (.Subscript (.Name x px) r ps) X.env := by rfl)
    (hfew : ((backTo cpos (starEach [k, e] X.env)).all (fun x => !x.1) && (backToKw cpos (keywordEach [] X.env)).all (fun x => x.1.isSome) && decide (([k, e] : List Expr).length + ([] : List Keyword).length + (if ([] : List Keyword).isEmpty then 0 else 1) < 30)) = true := by rfl)
    (hline : (apos.endLine == cpos.line) = true := by rfl) (hs : starEach [k, e] X.env = (false, eval k X.env) :: starEach [e] X.env := by rfl) (hs2 : starEach [e] X.env = (false, eval e X.env) :: starEach [] X.env := by rfl) (hplain : (backTo cpos (starEach [e] X.env)).any (·.1) = false := by rfl)
    (hsw : swapsWith (.Call (.Attribute (.Subscript (.Name x px) r ps) "insert" apos) [k, e] [] cpos) none pos.line X.env = pure false := by rfl) :
    DSt Z X md rn (.Expr (.Call (.Attribute (.Subscript (.Name x px) r ps) "insert" apos) [k, e] [] cpos) pos) (dIns2 md m i tp tk te) := by
  refine (ps_expr (pe_bm PySem.F.plainAttrs_list PySem.F.slot_list_insert PySem.F.type_list_insert mt_insert (pe_ix ix_list (pv i hi hv hd hcd) hp hpx) (pa_cons hk (pa_cons he pa_nil hs2) hs) hbase hfew hline hs hplain) hsw).imp ?_
  rintro D σ H ⟨B, ρ, E, ⟨G, fp, S⟩, ⟨dss, h1, h⟩, M⟩
  obtain ⟨v0, hv0, o⟩ := S.at_ i _ h1
  refine ⟨_, hv0, S.ev true h ?_⟩
  rintro _ ⟨p, j, ds, rfl, hj, hd, h⟩
  refine ⟨rfl, fun v1 G1 H1 S1 x1 dv1 => ?_⟩
  cases dv1
  obtain ⟨T, ys, l, xs, ds', e1, e2, e3, e4, e5, e6, dvs, _⟩ := S1.two hm h1 hd
  rw [e2] at hv0
  cases hv0
  refine ⟨T, ys, p, .ref l, rfl, rfl, SqL.of e3, atI_of e4 hj e5, ty_list e6, S1.ev true h ?_⟩
  rintro _ ⟨q, rfl, h⟩
  refine ⟨rfl, fun v2 G2 H2 S2 x2 dv2 => S2.ev m h fun d hd' => ⟨hd'.1, fun v G' H' S' x dv => ?_⟩⟩
  cases dv2
  obtain ⟨T', ys', l', xs', ds2, e1', e2', e3', e4', e5', e6', dvs', put⟩ := S'.two hm h1 hd
  cases e1'
  rw [e2] at e2'
  cases e2'
  have : ys' = ys := by
    have := (x2.trans x).hh _ _ e3
    rw [e3'] at this; cases this; rfl
  rw [this, e5] at e5'
  cases e5'
  obtain ⟨_, ⟨q1, q2, q3⟩, q4⟩ := hd'
  exact ⟨l, xs', q, v, rfl, rfl, e6', q1, by rw [dvs'.length]; exact q2, by rw [dvs'.length]; exact q3, M.nx _ q4 _ _ ⟨G', fp, put _ _ (dvs'.ins _ dv)⟩⟩
/-! ### x[k] = e -/
def dSetIx (md : List Nat) (m : Bool) (i : Nat) (tk te : DTE) : DTS := fun E ρ => te (vis md m ρ) fun d => flatIf m d ∧ ∃ ds, ρ[i]? = some (some (.lst ds)) ∧ tk ρ fun kk => ∃ k j, kk = .int k ∧ ixN ds.length k = some j ∧ E.nx (ρ.set i (some (.lst (ds.set j d))))
theorem ds_setix (m : Bool) (i : Nat) {x : Str} {px ps : Pos} (hk : DE Z X k tk) (he : DE Z X e te) (hm : md.getD i 0 = 1 := by rfl) (hi : X.N[i]? = some x := by rfl) (hv : Vis X.env.scope x := by first | exact Or.inl rfl | exact Or.inr (Or.inl rfl) | exact Or.inr (Or.inr rfl)) (hd : (x == ("__debug__" : Str)) = false := by decide) (hcd : (x == ("__classdict__" : Str)) = false := by decide)
    (ha : ∀ v, assign (.Subscript (.Name x px) k ps) X.env v = (do
      let ov ← holding [v] (eval (.Name x px) X.env)
      let iv ← holding [v, ov] (eval k X.env)
      standAt ps
      holding [v, ov, iv] (setItem ov iv v)
      release [v, ov, iv] []) := by intro _; rfl)
    (hs : swapsWithSole [.Subscript (.Name x px) k ps] e pos.line X.env = pure false := by rfl) (hw : swappedStores [.Subscript (.Name x px) k ps] e X.env = pure none := by rfl)
    (h1 : (assignEach [.Subscript (.Name x px) k ps] X.env).map (·.2) = [assign (.Subscript (.Name x px) k ps) X.env] := by rfl) : DSt Z X md rn (.Assign [.Subscript (.Name x px) k ps] e pos) (dSetIx md m i tk te) := by
  refine (ps_asg he (pg_sub (pv i hi hv hd hcd) hk set_list ha) hs hw h1).imp ?_
  rintro D σ H ⟨B, ρ, E, ⟨G, fp, S⟩, h, M⟩
  refine S.ev m h fun d hd => ⟨hd.1, fun v G' H' S' x dv => ?_⟩
  obtain ⟨_, ds, h1, h⟩ := hd
  obtain ⟨l, xs, _, _, e2, e3, _⟩ := S'.one hm h1
  refine ⟨_, e2, S'.ev true h ?_⟩
  rintro _ ⟨k, j, rfl, hj, h3⟩
  refine ⟨rfl, fun v1 G1 H1 S1 x1 dv1 => ?_⟩
  cases dv1
  obtain ⟨l', xs', ds', e1, e2', e3', dvs, put⟩ := S1.one hm h1
  cases e1
  rw [e2] at e2'
  cases e2'
  exact ⟨l, xs', k, j, rfl, rfl, e3', by rw [dvs.length]; exact hj, M.nx _ h3 _ _ ⟨G1, fp, put _ _ (dvs.set (dv.mono x1.gg) j)⟩⟩
/-! ### x = y.pop() -/
def dPop (md : List Nat) (i j : Nat) : DTS := fun E ρ => ∃ ds d, ρ[j]? = some (some (.lst (ds ++ [d]))) ∧ E.nx ((ρ.set j (some (.lst ds))).set i (some d))
theorem ds_pop (i j : Nat) {x y : Str} {px py : Pos} (hN : X.N.Nodup) (hm : md.getD i 0 = 0 := by rfl) (hmj : md.getD j 0 = 1 := by rfl) (hi : X.N[i]? = some x := by rfl) (hx : Loc X.env.scope x := by first | exact Or.inl rfl | exact Or.inr rfl)
    (hj : X.N[j]? = some y := by rfl) (hv : Vis X.env.scope y := by first | exact Or.inl rfl | exact Or.inr (Or.inl rfl) | exact Or.inr (Or.inr rfl)) (hd : (y == ("__debug__" : Str)) = false := by decide) (hcd : (y == ("__classdict__" : Str)) = false := by decide)
    (hbase : attributeBase (.Name y py) "pop" X.env (eval (.Name y py) X.env) = eval (.Name y py) X.env := by rfl) (hline : (apos.endLine == cpos.line) = true := by rfl)
    (hs : swapsWith (.Call (.Attribute (.Name y py) "pop" apos) [] [] cpos) (some (.Name x px)) pos.line X.env = pure false := by rfl)
    (hf : X.fn x = true ∨ X.env.scope.names.lookup x = some .local := by first | exact .inl rfl | exact .inr rfl | assumption) : DSt Z X md rn (.Assign [.Name x px] (.Call (.Attribute (.Name y py) "pop" apos) [] [] cpos) pos) (dPop md i j) := by
  refine (ps_set hN hi hx (pe_bm0 PySem.F.plainAttrs_list PySem.F.slot_list_pop PySem.F.type_list_pop mt_pop (pv j hj hv hd hcd) hbase hline) hs hf).imp ?_
  rintro D σ H ⟨B, ρ, E, ⟨G, fp, S⟩, ⟨ds, d, h1, h⟩, M⟩
  obtain ⟨l, xs, ds', e1, e2, e3, dvs, put⟩ := S.one hmj h1
  cases e1
  have hl : xs.length = ds.length + 1 := by rw [dvs.length]; simp
  obtain ⟨v, hv', dv⟩ := dvs.get (i := xs.length - 1) (d := d) (by rw [hl]; simp)
  refine ⟨_, e2, ty_list e3, l, xs, v, rfl, rfl, e3, hv', M.nx _ h _ _ ⟨G, _, (put xs.dropLast ds ?_).setP hm dv⟩⟩
  have := dvs.take ds.length
  rw [List.take_left'] at this
  · rw [List.dropLast_eq_take, hl]; exact this
  · rfl
/-! ### x.append(y), y owned: y is given away -/
theorem SIx.retire {j : Nat} {d : D} (S : SIx Z B md ρ σ H G fp) (h : ρ[j]? = some (some d)) : ∃ v, σ[j]? = some (some v) ∧ Dv Z (plus G H fun b => b ∈ fp j) v d ∧ SIx Z B md (ρ.set j none) σ H (plus G H fun b => b ∈ fp j) (fun k => if k = j then [] else fp k) := by
  have s := S.ex.sub
  obtain ⟨v, hv, o⟩ := S.at_ j d h
  refine ⟨v, hv, o.dv (plus_sup s) fun b hb u e => by rw [plus_in hb]; exact e, ?_⟩
  refine ⟨⟨S.ex.gg.trans (plus_sup s), plus_sub s, S.ex.hh, fun b hb hg => ?_⟩, S.fl.trans (plus_sup s), by rw [List.length_set]; exact S.len, fun k c hk => ?_, fun k => by split; exact List.nodup_nil; exact S.nd k, fun k k' b ne hk hk' => ?_, fun k b hb => ?_⟩
  · rw [plus_out (fun z => hb (S.nw j b z).1)]; exact S.ex.off b hb hg
  · by_cases z : j = k
    · subst z
      by_cases hl : j < ρ.length
      · rw [List.getElem?_set_self hl] at hk; cases hk
      · rw [List.set_eq_of_length_le (Nat.le_of_not_lt hl), List.getElem?_eq_none (Nat.le_of_not_lt hl)] at hk; cases hk
    · rw [List.getElem?_set_ne z] at hk
      obtain ⟨u, hu, ow⟩ := S.at_ k c hk
      exact ⟨u, hu, by rw [if_neg (Ne.symm z)]; exact ow.keep (plus_sup s) fun _ _ => rfl⟩
  · split at hk
    · cases hk
    · split at hk'
      · cases hk'
      · exact S.ap k k' b ne hk hk'
  · split at hb
    · cases hb
    · next z =>
      obtain ⟨h1, h2, h3⟩ := S.nw k b hb
      exact ⟨h1, h2, by rw [plus_out (fun w => S.ap k j b z hb w)]; exact h3⟩
def dAppM (md : List Nat) (i j : Nat) : DTS := fun E ρ => ∃ ds d, ρ[i]? = some (some (.lst ds)) ∧ ρ[j]? = some (some d) ∧ ds.length < sizeLine ∧ E.nx ((ρ.set j none).set i (some (.lst (ds ++ [d]))))
theorem ds_appM (i j : Nat) {x y : Str} {px py : Pos} (ij : i ≠ j := by decide) (hm : md.getD i 0 = 1 := by rfl) (hj : X.N[j]? = some y := by rfl) (hvj : Vis X.env.scope y := by first | exact Or.inl rfl | exact Or.inr (Or.inl rfl) | exact Or.inr (Or.inr rfl)) (hdj : (y == ("__debug__" : Str)) = false := by decide) (hcdj : (y == ("__classdict__" : Str)) = false := by decide) (hi : X.N[i]? = some x := by rfl) (hv : Vis X.env.scope x := by first | exact Or.inl rfl | exact Or.inr (Or.inl rfl) | exact Or.inr (Or.inr rfl)) (hd : (x == ("__debug__" : Str)) = false := by decide) (hcd : (x == ("__classdict__" : Str)) = false := by decide)
    (hbase : attributeBase (.Name x px) "append" X.env (eval (.Name x px) X.env) = eval (.Name x px) X.env := by rfl)
    (hfew : ((backTo cpos (starEach [.Name y py] X.env)).all (fun x => !x.1) && (backToKw cpos (keywordEach [] X.env)).all (fun x => x.1.isSome) && decide (([.Name y py] : List Expr).length + ([] : List Keyword).length + (if ([] : List Keyword).isEmpty then 0 else 1) < 30)) = true := by rfl)
    (hline : (apos.endLine == cpos.line) = true := by rfl) (hs : starEach [.Name y py] X.env = (false, eval (.Name y py) X.env) :: starEach [] X.env := by rfl) (hplain : (backTo cpos (starEach [] X.env)).any (·.1) = false := by rfl)
    (hsw : swapsWith (.Call (.Attribute (.Name x px) "append" apos) [.Name y py] [] cpos) none pos.line X.env = pure false := by rfl) :
    DSt Z X md rn (.Expr (.Call (.Attribute (.Name x px) "append" apos) [.Name y py] [] cpos) pos) (dAppM md i j) := by
  refine (ps_expr (pe_bm PySem.F.plainAttrs_list PySem.F.slot_list_append PySem.F.type_list_append mt_append (pv i hi hv hd hcd) (pa_cons (pv j hj hvj hdj hcdj) pa_nil hs) hbase hfew hline hs hplain) hsw).imp ?_
  rintro D σ H ⟨B, ρ, E, ⟨G, fp, S⟩, ⟨ds, d, h1, h2, hz, h⟩, M⟩
  obtain ⟨v, hv', dv, S'⟩ := S.retire h2
  have h1' : (ρ.set j none)[i]? = some (some (.lst ds)) := by rw [List.getElem?_set_ne (Ne.symm ij)]; exact h1
  obtain ⟨l, xs, ds', e1, e2, e3, dvs, put⟩ := S'.one hm h1'
  cases e1
  exact ⟨_, e2, ty_list e3, _, hv', l, xs, v, rfl, rfl, e3, by rw [dvs.length]; exact hz, M.nx _ h _ _ ⟨_, _, put _ _ (dvs.snoc dv)⟩⟩
/-! ### x += e -/
end
end L2

set_option Elab.async false
set_option linter.all false
set_option maxRecDepth 100000
set_option maxHeartbeats 4000000
namespace L2
open PySem PySem.Spec PyProof.Rows
/-- the built-ins are nobody else's -/
structure BltD (mg : Str → Option Value) : Prop where
  len : mg "len" = none
  range : mg "range" = none
  max : mg "max" = none
  min : mg "min" = none
  enumerate : mg "enumerate" = none
  zip : mg "zip" = none
  sorted : mg "sorted" = none
  all : mg "all" = none
  isinstance : mg "isinstance" = none
  int : mg "int" = none
  bool : mg "bool" = none
  list : mg "list" = none
  tuple : mg "tuple" = none
  sum : mg "sum" = none
  reversed : mg "reversed" = none
theorem bd_min : bootBuiltins "min" = some (.builtin "min") := by decide +kernel
theorem bd_bool : bootBuiltins "bool" = some (.type "bool") := by decide +kernel
theorem bd_int : bootBuiltins "int" = some (.type "int") := by decide +kernel
theorem bd_list : bootBuiltins "list" = some (.type "list") := by decide +kernel
theorem bd_tuple : bootBuiltins "tuple" = some (.type "tuple") := by decide +kernel
theorem bd_all : bootBuiltins "all" = some (.builtin "all") := by decide +kernel
theorem bd_len : bootBuiltins "len" = some (.builtin "len") := by decide +kernel
section
variable {P : Program} {w : World} {K : PySem.W.Frag} {mg : Str → Option Value} {base : Heap} {Z : DC}
def startD (N : List Str) (ds : List D) : DN := ds.map some ++ List.replicate (N.length - ds.length) none
/-- a def's promise whose answer is the asker's own (depth n) -/
def liftSpF (Z : DC) (n : Nat) (sd : DSp) : Sp := fun vs H Q _ => ∃ (G : Hp) (ds : List D) (P : D → Prop), Same G H ∧ DvAll Z G vs ds ∧ sd ds P ∧ ∀ d, P d → ∀ v f G' H', Ext G H G' H' → Own Z G' H' n v d f → f.Nodup → (∀ b ∈ f, H b = none ∧ H' b ≠ none ∧ G' b = none) → Q v H'
/-- an owned answer may be read as pure data -/
theorem Own.pure {n : Nat} {v : V} {d : D} {f : List Addr} {G H G' H' : Hp} (x : Ext G H G' H') (o : Own Z G' H' n v d f) (nw : ∀ b ∈ f, H b = none ∧ H' b ≠ none ∧ G' b = none) : ∃ G2, Ext G H G2 H' ∧ Dv Z G2 v d := by
  refine ⟨plus G' H' fun b => b ∈ f, ⟨x.gg.trans (plus_sup x.sub), plus_sub x.sub, x.hh, fun b hb hg => ?_⟩, o.dv (plus_sup x.sub) fun b hb u e => by rw [plus_in hb]; exact e⟩
  rw [plus_out (fun z => hb (nw b z).1)]; exact x.off b hb hg
theorem spF {n : Nat} {sd : DSp} : ∀ vs H Q E, liftSp Z sd vs H Q E → liftSpF Z n sd vs H Q E := by
  rintro vs H Q E ⟨G, ds, P, s, dv, h, q⟩
  exact ⟨G, ds, P, s, dv, h, fun d hd v f G' H' x o nd nw => let ⟨G2, x2, dv2⟩ := o.pure x nw; q d hd v G2 H' x2 dv2⟩
/-- a def, over data -/
theorem fn_dataF (rn : Nat) {x qual : Str} {st : Stmt} {f : Addr} {fd : FuncData} {N ps : List Str} {k : Nat} {sd : DSp} (F : Fun K x qual st f fd) (S : FnScope N ps (defScope st)) (md : List Nat) (hmd : ∀ i, i < ps.length → md.getD i 0 = 0) (len : ∀ ds P, sd ds P → ds.length = ps.length)
    (hbody : ∀ (cdv : Value) (A : Around) (outer : List Env) (s : Shared) (H : Hp) (E : XK) (ds : List D) (R : D → Prop), Room k (A.deeper (envOfC qual (defScope st) s.heap.objs.size f cdv)) → sd ds R →
      ∃ t, DSs Z (cxOf CX0 P w K mg base N qual (defScope st) f cdv A outer s H E).nox md rn (defBody st) t ∧ t { nx := fun _ => rn = 0 ∧ R .non, rt := R } (startD N ds)) : FnOk P w K mg base CX0 (k + 1) f fd ps (liftSpF Z rn sd) := by
  refine F.ok S (fun vs H Q E h => ?_) (fun cdv A outer s H vs Q E hr h => ?_)
  · obtain ⟨G, ds, R, s, dv, h, q⟩ := h
    rw [dv.length]; exact len _ _ h
  obtain ⟨G, ds, R, s0, dv, h, q⟩ := h
  have hret := q
  obtain ⟨t, ht, hq⟩ := hbody cdv A outer s H E ds R hr h
  have hl := len _ _ h
  refine ⟨_, ht, ⟨G, H, G⟩, _, _, ⟨G, fun _ => [], ?_⟩, hq, ⟨fun ρ hρ σ' H' ⟨G', fp, S'⟩ => q _ hρ.2 _ [] G' H' S'.ex (by rw [hρ.1]; exact ⟨.non, rfl⟩) List.nodup_nil (fun b hb => by cases hb), hret, fun _ z => z.elim, fun _ z => z.elim⟩⟩
  refine ⟨.refl s0, .refl _, by unfold startD start; simp [dv.length], fun i d hi => ?_, fun _ => List.nodup_nil, (fun _ _ _ _ z => by cases z), (fun _ _ z => by cases z)⟩
  unfold startD at hi
  have hi2 : i < ds.length := by
    apply Classical.byContradiction
    intro z
    rw [List.getElem?_append_right (by simpa using Nat.le_of_not_lt z), List.getElem?_replicate] at hi
    split at hi <;> cases hi
  rw [List.getElem?_append_left (by simpa using hi2), List.getElem?_map] at hi
  have hd' : ds[i]? = some d := by
    cases z : ds[i]? with
    | none => rw [z] at hi; cases hi
    | some d' => rw [z] at hi; cases hi; rfl
  obtain ⟨v, hv, dv'⟩ := dv.get hd'
  refine ⟨v, ?_, by rw [hmd i (by omega)]; exact ⟨dv', rfl⟩⟩
  unfold start
  rw [List.getElem?_append_left (by simpa [dv.length] using hi2), List.getElem?_map, hv]; rfl
theorem fn_data {x qual : Str} {st : Stmt} {f : Addr} {fd : FuncData} {N ps : List Str} {k : Nat} {sd : DSp} (F : Fun K x qual st f fd) (S : FnScope N ps (defScope st)) (md : List Nat) (hmd : ∀ i, i < ps.length → md.getD i 0 = 0) (len : ∀ ds P, sd ds P → ds.length = ps.length)
    (hbody : ∀ (cdv : Value) (A : Around) (outer : List Env) (s : Shared) (H : Hp) (E : XK) (ds : List D) (R : D → Prop), Room k (A.deeper (envOfC qual (defScope st) s.heap.objs.size f cdv)) → sd ds R →
      ∃ t, DSs Z (cxOf CX0 P w K mg base N qual (defScope st) f cdv A outer s H E).nox md 0 (defBody st) t ∧ t { nx := fun _ => 0 = 0 ∧ R .non, rt := R } (startD N ds)) : FnOk P w K mg base CX0 (k + 1) f fd ps (liftSp Z sd) :=
  (fn_dataF 0 F S md hmd len fun cdv A outer s H E ds R hr h => let ⟨t, a, b⟩ := hbody cdv A outer s H E ds R hr h; ⟨t, a, b⟩).imp spF
end
section
variable {Z : DC} {X : Cx} {a b c e o : Expr} {ta tb te : DTE} {t : DTA} {es : List Expr} {pos apos : Pos}
/-! ### -e -/
def dNeg (ta : DTE) : DTE := fun ρ P => ta ρ fun d => match d with
  | .int i => P (.int (-i))
  | _ => False
theorem de_neg (ha : DE Z X a ta) : DE Z X (.UnaryOp .USub a pos) (dNeg ta) := by
  refine (pe_un un_neg ha).imp ?_
  rintro σ H Q ⟨G, ρ, P, s, en, h, q⟩
  refine ⟨G, ρ, _, s, en, h, fun d hd v G1 H1 x1 dv => ?_⟩
  cases dv <;> first | exact hd.elim | skip
  exact ⟨_, rfl, q _ hd _ G1 H1 x1 (.int _)⟩
/-! ### min and max of two ints -/
/-! ### all -/
def bAll : DSp := fun ds P => ∃ bs : List Bool, ds = [.lst (bs.map D.bl)] ∧ P (.bl (bs.all id))
theorem dv_bls {G : Hp} : ∀ {vs : List V} {bs : List Bool}, DvAll Z G vs (bs.map D.bl) → vs = bs.map V.bl
  | vs, [], h => by cases h; rfl
  | vs, b :: bs, h => by
    cases h with
    | cons a as => cases a; rw [dv_bls as]; rfl
theorem dv_ints {G : Hp} : ∀ {vs : List V} {ns : List Int}, DvAll Z G vs (ns.map D.int) → vs = ns.map V.int
  | vs, [], h => by cases h; rfl
  | vs, b :: bs, h => by
    cases h with
    | cons a as => cases a; rw [dv_ints as]; rfl
theorem cd_all (hc : X.calm = true) : CallR X (.builtin "all") (liftC Z bAll) := by
  refine (call_all hc).imp ?_
  rintro xs H Q ⟨G, ds, P, s, dv, ⟨bs, rfl, hp⟩, q⟩
  cases dv with
  | cons a as =>
    cases as
    cases a with
    | lst h e => exact ⟨_, bs, rfl, by rw [← dv_bls e]; exact s _ _ h, q _ hp _ G H (.refl s) (.bl _)⟩
/-! ### sorted of ints, of pairs -/
/-! ### x.index(y) -/
end
end L2

set_option Elab.async false
set_option linter.all false
set_option maxRecDepth 100000
set_option maxHeartbeats 4000000
namespace L2
open PySem PySem.Spec PyProof.Rows
/-- the class Web -/
structure WCls (Z : DC) : Prop where
  cl : Cls Z.K Z.C
  nR : NoAttr Z.K Z.C "rows"
section
variable {Z : DC} {X : Cx} {a b c e o : Expr} {ta tb te : DTE} {t : DTA} {es : List Expr} {pos apos : Pos}
/-! ### o.rows -/
def dRows (ta : DTE) : DTE := fun ρ P => ta ρ fun d => ∃ w, d = .web w ∧ P (webW w)
theorem de_rows (T : WCls Z) (ha : DE Z X o ta) (eK : X.K = Z.K := by rfl) (hb : attributeBase o "rows" X.env (eval o X.env) = eval o X.env := by rfl) : DE Z X (.Attribute o "rows" apos) (dRows ta) := by
  refine (pe_fld ha hb).imp ?_
  rintro σ H Q ⟨G, ρ, P, s, en, h, q⟩
  refine ⟨G, ρ, _, s, en, h, ?_⟩
  rintro _ ⟨w, rfl, hd⟩ v G1 H1 x1 dv
  cases dv with
  | @web p dx R w hp hr g h1 h2 => exact ⟨p, Z.C, dx, _, .ref R, rfl, x1.sub _ _ hp, by rw [eK]; exact T.cl, by rw [eK]; exact T.nR, rfl, q _ hd _ G1 H1 x1 hr⟩
/-! ### o.m(..) -/
def dMeth (sd : DSp) (ta : DTE) (t : DTA) : DTE := fun ρ P => ta ρ fun d => ∃ w, d = .web w ∧ t ρ fun ds => sd (.web w :: ds) P
theorem liftMeth {m : Str} {sd : DSp} (hm : ([("rows", V.ref 0)] : List (Str × V)).lookup m = none) : ∀ σ H Q, liftE Z (dMeth sd ta t) σ H Q → tMeth Z.C m (liftSp Z sd) [] E0 (liftE Z ta) (liftA Z t) σ H Q := by
  rintro σ H Q ⟨G, ρ, P, s, en, h, q⟩
  refine ⟨G, ρ, _, s, en, h, ?_⟩
  rintro _ ⟨w, rfl, hd⟩ v G1 H1 x1 dv
  have dv0 := dv
  cases dv with
  | @web p dx R w hp hr g h1 h2 =>
    refine ⟨p, dx, _, rfl, x1.sub _ _ hp, ?_, G1, ρ, _, x1.sub, en.mono x1.gg, hd, fun ds hds vs G2 H2 x2 dvs => ?_⟩
    · have hz : (m == ("rows" : Str)) = false := by
        cases z : (m == ("rows" : Str)) with
        | false => rfl
        | true => simp [List.lookup, z] at hm
      simp [List.lookup, hz]
    · show liftSp Z sd (V.ref p :: (vs ++ [])) H2 Q E0
      rw [List.append_nil]
      exact ⟨G2, _, P, x2.sub, .cons (dv0.mono x2.gg) dvs, hds, fun d hd v G3 H3 x3 dv3 => q d hd v G3 H3 ((x1.trans x2).trans x3) dv3⟩
variable {sd : DSp} {k : Nat} {f : Addr} {fd : FuncData} {ps : List Str} {m : Str}
theorem de_meth0 {pl : Sem Bool} (T : WCls Z) (ho : DE Z X o ta) (hm : Meth Z.K Z.C m f) (F : FnOk X.prog X.w X.K X.mg X.base CX0 k f fd ps (liftSp Z sd)) (hr : Room k X.A) (hb : Binds X.K fd ps []) (eK : X.K = Z.K := by rfl)
    (hmr : ([("rows", V.ref 0)] : List (Str × V)).lookup m = none := by decide)
    (ht : eval (.Call (.Attribute o m apos) [] [] pos) X.env = (do
      let ov ← eval o X.env
      standAt apos.atName
      let (f, first) ← holding [ov] (getMethod ov m pl)
      callWith pos f first (backTo pos (starEach [] X.env)) (backToKw pos (keywordEach [] X.env))) := by rfl) : DE Z X (.Call (.Attribute o m apos) [] [] pos) (dMeth sd ta dNil) :=
  (pe_meth0 (pl := pl) ho (by rw [eK]; exact T.cl) (by rw [eK]; exact hm) F hr hb .nil pass0 ht).imp fun σ H Q h => by
    obtain ⟨G, ρ, P, s, en, h, q⟩ := liftMeth hmr σ H Q h
    refine ⟨G, ρ, P, s, en, h, fun d hd v G1 H1 x1 dv => ?_⟩
    obtain ⟨p, dx, fs, h1, h2, h3, G', ρ', P', s', en', h', q'⟩ := q d hd v G1 H1 x1 dv
    exact ⟨p, dx, fs, h1, h2, h3, q' _ h' _ G' _ (.refl s') .nil⟩
/-! ### Web(..) -/
/-- __init__'s promise: turns of a web; the new one at p, its rows at R -/
def spInitD (Z : DC) : Sp := fun vs H Q _ => ∃ (p dx : Addr) (v : V) (G : Hp) (w : List (List Nat)), vs = [.ref p, v] ∧ H p = some (.ins Z.C dx []) ∧ Same G H ∧ G p = none ∧ Dv Z G v (webW w) ∧ Wb.Good w ∧ 1 ≤ w.length ∧ w.length ≤ 14 ∧
  ∀ (R : Addr) (G' H' : Hp), Same G G' → Same G' H' → (∀ b o, H b = some o → b ≠ p → H' b = some o) → (∀ b, H b ≠ none → G b = none → G' b = none) → H' p = some (.ins Z.C dx [("rows", .ref R)]) → Dv Z G' (.ref R) (webW w) → Q .non H'
def dMake (t : DTA) : DTE := fun ρ P => t ρ fun ds => ∃ w, ds = [webW w] ∧ Wb.Good w ∧ 1 ≤ w.length ∧ w.length ≤ 14 ∧ P (.web w)
theorem de_make {x : Str} {p : Pos} (M : Mk Z.K Z.C f) (F : FnOk X.prog X.w X.K X.mg X.base CX0 k f fd ps (spInitD Z)) (hr : Room (k + 1) X.A) (hg : Gl X x) (hm : X.mg x = some (.ref Z.C)) (hb : Binds X.K fd ps [])
    (ha : DA Z X (e :: es) t) (eK : X.K = Z.K := by rfl) (hdb : (x == ("__debug__" : Str)) = false := by decide) (he : starEach (e :: es) X.env = (false, eval e X.env) :: starEach es X.env := by rfl) (hpl : (backTo pos (starEach es X.env)).any (·.1) = false := by rfl) :
    DE Z X (.Call (.Name x p) (e :: es) [] pos) (dMake t) := by
  refine (pe_make (by rw [eK]; exact M) F hr hg hm hb .nil pass0 ha hdb he hpl).imp ?_
  rintro σ H Q ⟨G, ρ, P, s, en, h, q⟩
  refine ⟨G, ρ, _, s, en, h, ?_⟩
  rintro _ ⟨w, rfl, g, h1, h14, hp⟩ vs G1 H1 x1 dvs p dx hx hdx ne
  cases dvs with
  | @cons v _ _ _ dv dvs =>
    cases dvs
    have hx' : upd H1 dx (.own p) p = none := by rw [upd_ne (Ne.symm ne)]; exact hx
    have sJ := (same_new hdx (.own p)).trans (same_new hx' (.ins Z.C dx []))
    refine ⟨p, dx, v, G1, w, rfl, upd_same, x1.sub.trans sJ, x1.sub.free hx, dv, g, h1, h14, fun R G2 H2 g1 g2 kp off hp2 dv2 => ⟨rfl, ?_⟩⟩
    have gp : G2 p = none := off p (by rw [upd_same]; exact fun z => nomatch z) (x1.sub.free hx)
    refine q _ hp _ (upd G2 p (.ins Z.C dx [("rows", .ref R)])) H2 ⟨(x1.gg.trans g1).trans (same_new gp _), fun b o e => ?_, fun b o e => ?_, fun b hb hg => ?_⟩ (.web upd_same (dv2.mono (same_new gp _)) g h1 h14)
    · by_cases z : b = p
      · subst z; rw [upd_same] at e; cases e; exact hp2
      · rw [upd_ne z] at e; exact g2 _ _ e
    · have e1 := x1.hh _ _ e
      exact kp b o (sJ _ _ e1) (ne_of_none e1 hx)
    · have hb1 := some_ne x1.hh hb
      have nb : b ≠ p := fun z => hb1 (by rw [z]; exact hx)
      rw [upd_ne nb]
      exact off b (some_ne sJ hb1) (x1.off b hb hg)
end
/-! ### comprehensions of new lists -/
section
variable {Z : DC} {X : Cx} {pos : Pos}
/-- [[..] for ..]: the elements new lists -/
def lcF (g : DTG) (tf : DTF) : List D → DN → List D → (List D → Prop) → Prop
  | [], _, acc, N => N acc
  | x :: xs, ρ, acc, N => g x ρ fun ρ1 => tf ρ1 fun ds => acc.length < sizeLine ∧ lcF g tf xs ρ1 (acc ++ [.lst ds]) N
def fLCF (wi : DTI) (g : DTG) (tf : DTF) (src : List (Option Nat)) : DTF := fun ρ P => wi ρ fun ds => lcF g tf ds (srcD src ρ) [] P
def CSF (Z : DC) (n : Nat) (G1 H1 : Hp) (Ad : Addr) (ρ : DN) (acc : List D) (σ : St) (H : Hp) : Prop :=
  ∃ (G : Hp) (ys : List V) (fs : List Addr), Same G1 G ∧ Same G H ∧ Same H1 H ∧ (∀ b, H1 b ≠ none → G1 b = none → G b = none) ∧ H Ad = some (.lst ys) ∧ OwnL (Own Z G H n) ys acc fs ∧ (Ad :: fs).Nodup ∧ (∀ b ∈ Ad :: fs, H1 b = none ∧ H b ≠ none ∧ G b = none) ∧ EnvD Z G σ ρ
theorem OwnL.snoc {R : V → D → List Addr → Prop} : ∀ {vs : List V} {ds : List D} {fs : List Addr} {v : V} {d : D} {f : List Addr}, OwnL R vs ds fs → R v d f → OwnL R (vs ++ [v]) (ds ++ [d]) (fs ++ f)
  | _, _, _, v, d, f, .nil, r => by simpa using OwnL.cons r .nil
  | _, _, _, v, d, f, .cons a as, r => by rw [List.append_assoc]; exact .cons a (as.snoc r)
theorem liftFLCF {n : Nat} {src : List (Option Nat)} {wi : DTI} {g : DTG} {tf : DTF} : ∀ σ H Q, liftF Z (n + 1) (fLCF wi g tf src) σ H Q → tLC (liftI Z wi) (liftG Z g) tYes (liftF Z n tf) src σ H Q := by
  rintro σ H Q ⟨G, ρ, P, s, en, h, q⟩
  refine ⟨G, ρ, _, s, en, h, fun ds hd J G1 H1 x1 it Ad hA => ?_⟩
  refine ⟨fun i m σ2 H2 => m = ds.length - i ∧ i ≤ ds.length ∧ ∃ ρ2 acc, CSF Z n G1 H1 Ad ρ2 acc σ2 H2 ∧ lcF g tf (ds.drop i) ρ2 acc P, ⟨_, rfl, Nat.zero_le _, _, [], ⟨G1, [], [], .refl _, fun b o e => ?_, same_new hA _, fun _ _ h => h, upd_same, .nil, by simp, fun b hb => ?_, (en.mono x1.gg).src src⟩, hd⟩, ?_⟩
  · rw [upd_ne (ne_of_none e (x1.sub.free hA))]; exact x1.sub _ _ e
  · have : b = Ad := by simpa using hb
    subst this
    exact ⟨hA, (by rw [upd_same]; exact fun z => nomatch z), x1.sub.free hA⟩
  rintro i m σ2 H2 ⟨rfl, hi, ρ2, acc, ⟨G2, ys, fs, s1, s2, s3, off, hAd, ol, nd, nw, en2⟩, hl⟩
  by_cases hlt : i < ds.length
  · obtain ⟨go, _, yld⟩ := it G2 H2 s1 s2 i
    refine .inr ⟨go hlt, fun σ' H' => ∃ ρ' acc', CSF Z n G1 H1 Ad ρ' acc' σ' H' ∧ lcF g tf (ds.drop (i + 1)) ρ' acc' P, fun σ' H' k => ⟨ds.length - (i + 1), by omega, rfl, hlt, k⟩, fun x H3 y => ?_⟩
    obtain ⟨G3, d, x3, hdd, dv⟩ := yld x H3 hlt y
    rw [drop_at hdd] at hl
    refine ⟨G3, ρ2, d, _, x3.sub, en2.mono x3.gg, dv, hl, fun ρ1 h1 σ4 en4 => ?_⟩
    unfold tYes
    dsimp only
    rw [if_pos rfl]
    refine ⟨G3, ρ1, _, x3.sub, en4, h1, fun ds' hd' v f G6 H6 x6 ow fnd fnw => ?_⟩
    have x := x3.trans x6
    have aA : Ad ∈ Ad :: fs := List.mem_cons_self ..
    have keepF : ∀ b ∈ Ad :: fs, H6 b = H2 b ∧ G6 b = none := fun b hb => by
      obtain ⟨_, q2, q3⟩ := nw b hb
      refine ⟨?_, x.off b q2 q3⟩
      cases e : H2 b with
      | none => exact absurd e q2
      | some o => exact x.hh _ _ e
    have hA6 : H6 Ad = some (.lst ys) := by rw [(keepF Ad aA).1]; exact hAd
    have fH2 : ∀ b ∈ f, H2 b = none := fun b hb => x3.hh.free (fnw b hb).1
    have fne : ∀ b ∈ f, ∀ c ∈ Ad :: fs, b ≠ c := fun b hb c hc z => (nw c hc).2.1 (by rw [← z]; exact fH2 b hb)
    refine ⟨ys, hA6, by rw [ol.length]; exact hd'.1, ρ1, _, ⟨G6, ys ++ [v], fs ++ f, s1.trans x.gg, fun b o e => ?_, fun b o e => ?_, fun b hb hg => x.off b (some_ne s3 hb) (off b hb hg), upd_same, ?_, ?_, fun b hb => ?_, en4.mono x6.gg⟩, hd'.2⟩
    · rw [upd_ne (ne_of_none e (keepF Ad aA).2)]; exact x.sub _ _ e
    · rw [upd_ne (ne_of_none e hA)]; exact (s3.trans x.hh) _ _ e
    · refine OwnL.snoc (ol.imp fun v d f' hf r => r.keep x.gg fun b hb => ?_) (ow.keep (.refl _) fun b hb => ?_)
      · have hb' : b ∈ fs := hf b hb
        rw [upd_ne (fun z => (List.nodup_cons.mp nd).1 (by rw [← z]; exact hb'))]
        exact (keepF b (List.mem_cons_of_mem _ hb')).1
      · exact upd_ne (fne b hb Ad aA)
    · rw [← List.cons_append]
      exact List.nodup_append.mpr ⟨nd, fnd, fun a ha b hb => Ne.symm (fne b hb a ha)⟩
    · rw [← List.cons_append] at hb
      by_cases z : b = Ad
      · subst z
        exact ⟨hA, (by rw [upd_same]; exact fun z => nomatch z), (keepF b aA).2⟩
      · rcases List.mem_append.mp hb with hb | hb
        · rw [upd_ne z, (keepF b hb).1]
          exact ⟨(nw b hb).1, (nw b hb).2.1, (keepF b hb).2⟩
        · rw [upd_ne z]
          exact ⟨s3.free (fH2 b hb), (fnw b hb).2⟩
  · have e : ds.drop i = [] := List.drop_eq_nil_of_le (by omega)
    rw [e] at hl
    refine .inl ⟨(it G2 H2 s1 s2 i).2.1 (by omega), q _ hl (.ref Ad) (Ad :: fs) G2 H2 ⟨x1.gg.trans s1, s2, x1.hh.trans s3, fun b hb hg => off b (some_ne x1.hh hb) (x1.off b hb hg)⟩ (.inl ⟨Ad, ys, acc, fs, rfl, rfl, hAd, rfl, ol⟩) nd fun b hb => ⟨x1.hh.free (nw b hb).1, (nw b hb).2⟩⟩
variable {tg iter elt : Expr} {scope : Scope} {NC : List Str} {src : List (Option Nat)} {wi : DTI} {g : DTG} {tf : DTF} {md : List Nat} {rn : Nat}
theorem ds_newlcF (i : Nat) {n : Nat} {x : Str} {px spos : Pos} (hc : X.calm = true) (hN : X.N.Nodup) (c : CompOk X scope) (hsrc : SrcOk scope X.N src NC) (hi : DI Z X tg iter wi)
    (hg : ∀ ex s H, DG Z (cxC X scope NC ex s H) tg g) (he : ∀ ex s H, DF Z (cxC X scope NC ex s H) n elt tf)
    (hsw : swapsWith (.ListComp elt [⟨tg, iter, [], 0⟩] scope pos) (some (.Name x px)) spos.line X.env = pure true := by rfl) (hm : md.getD i 0 = n + 1 := by rfl) (hi' : X.N[i]? = some x := by rfl) (hx : Loc X.env.scope x := by first | exact Or.inl rfl | exact Or.inr rfl)
    (hf : X.fn x = true ∨ X.env.scope.names.lookup x = some .local := by first | exact .inl rfl | exact .inr rfl | assumption)
    (hs : ∀ x, foldedSetIterable iter X.env x = pure x := by intro _; rfl) : DSt Z X md rn (.Assign [.Name x px] (.ListComp elt [⟨tg, iter, [], 0⟩] scope pos) spos) (dNew md i (fLCF wi g tf src)) := by
  refine (ps_setlc hc hN hi' hx c hsrc hi hg (fun _ _ _ => pts_nil) he hsw hf hs).imp ?_
  rintro D σ H ⟨B, ρ, E, ⟨G, fp, S⟩, h, M⟩
  exact liftFLCF σ H _ (new_lift hm S h M)
end
end L2

set_option Elab.async false
set_option linter.all false
set_option maxRecDepth 100000
set_option maxHeartbeats 4000000
namespace L2
open PySem PySem.Spec PyProof.Rows
abbrev inClassD := inClass
/-- a method of Web -/
structure Mfn (Z : DC) (m qual : Str) (st : Stmt) (ps : List Str) where
  f : Addr
  fd : FuncData
  F : Fun Z.K m qual st f fd
  b : Binds Z.K fd ps []
  m : Meth Z.K Z.C m f
def spLawV (K : PySem.W.Frag) : Sp := fun vs H Q _ => ∃ (a : Addr) (ns : List Int), vs = [.ref a] ∧ SqL K H a (ns.map V.int) ∧ ns.length ≤ 63 ∧ ∀ H', Q (.bl true) H'
def spLawD : DSp := fun ds P => ∃ ns : List Int, ds = [.scr ns] ∧ ns.length ≤ 63 ∧ P (.bl true)
theorem law_of {Z : DC} : ∀ vs H Q E, spLawV Z.K vs H Q E → liftSp Z spLawD vs H Q E := by
  rintro vs H Q E ⟨a, ns, rfl, hS, hl, q⟩
  exact ⟨H, [.scr ns], fun d => d = .bl true, .refl _, .cons (.scr hS hl) .nil, ⟨ns, rfl, hl, rfl⟩, fun d hd v G' H' x dv => by subst hd; cases dv; exact q H'⟩
theorem walkD (k : Nat) {l : PySem.W.OpenLaw} {q : Program} {loose : List Str} {XP : (Str → Option Value) → Heap → Prop} {YP : World → Heap → Prop} {d : DefRec} {K : Params → PySem.W.Frag} (hk1 : 3 * k < 150) (hn : l.most = some 63) (hdf : d.params.defaults = [])
    (hY : ∀ (w : World) (h : Heap), YP w h → (K w.params).In h)
    (F : ∀ (w : World) (mg : Str → Option Value) (fa : Addr) (h : Heap), (K w.params).In h → h.Ns mainGlobals mg → mg d.name = some (.ref fa) →
      ∃ fd : FuncData, (∀ (s : Shared) (u : Value), BindsTo s fd ⟨[u], []⟩ [("_law_script", u)]) ∧ ∀ base : Heap, (K w.params).In base → base.Ns mainGlobals mg → FnOk l.prog w (K w.params) mg base CX0 k fa fd ["_law_script"] (spLawV (K w.params))) :
    PySem.W.WalkO q loose XP YP l.row.toRowW d [] (fun f vs => PySem.call f vs) :=
  L2.walk_of (n := 63) (k := 50) (x := "_law_script") (CX := fun _ => CX0) (sp := fun w => spLawV (K w.params)) hn (by decide) hdf ⟨rfl, by decide, by decide⟩ hY (fun w mg fa h a b c => by
    obtain ⟨fd, h1, h2⟩ := F w mg fa h a b c
    exact ⟨fd, h1, fun base x y => (h2 base x y).mono (by omega)⟩) (fun _ _ a ns hl _ hS => ⟨a, ns, rfl, hS, hl, fun _ => rfl⟩) fun _ _ _ _ _ z => z
/-! ### readings -/
theorem ite_of {c : Bool} {A B : Prop} (h1 : c = true → A) (h2 : c = false → B) : if c = true then A else B := by
  cases c with
  | true => exact iteT (h1 rfl)
  | false => exact iteF (h2 rfl)
/-- a comprehension over names: the kept ones, each by f -/
theorem lc_name {i : Nat} {tt : DTT} {te : DTE} {ρ : DN} {α : Type} (enc : α → D) (p : α → Bool) (f : α → D) : ∀ (ys : List α) (ρ' : DN) (acc : List D) (N : DN → List D → Prop), (∀ y ∈ ys, ∀ (Y : D → Prop) (Nn : Prop), (p y = true → Y (f y)) → (p y = false → Nn) → tt (ρ.set i (some (enc y))) fun b => if b = true then te (ρ.set i (some (enc y))) Y else Nn) →
    (∃ o, ρ' = ρ.set i o) → acc.length + ys.length ≤ sizeLine → (∀ ρ', N ρ' (acc ++ (ys.filter p).map f)) → lcW (dgName i) tt te (ys.map enc) ρ' acc N
  | [], ρ', acc, N, _, _, _, h => by
    show N ρ' acc
    simpa using h ρ'
  | y :: ys, ρ', acc, N, hs, ⟨o, ho⟩, hz, h => by
    show tt (ρ'.set i (some (enc y))) _
    rw [ho, List.set_set]
    rw [List.length_cons] at hz
    refine hs y (List.mem_cons_self ..) _ _ (fun hp => ⟨by omega, ?_⟩) (fun hp => ?_)
    · refine lc_name enc p f ys _ (acc ++ [f y]) N (fun z hz => hs z (List.mem_cons_of_mem _ hz)) ⟨_, rfl⟩ (by simp; omega) fun ρ'' => ?_
      have := h ρ''
      rw [List.filter_cons, hp] at this
      simpa using this
    · refine lc_name enc p f ys _ acc N (fun z hz => hs z (List.mem_cons_of_mem _ hz)) ⟨_, rfl⟩ (by omega) fun ρ'' => ?_
      have := h ρ''
      rw [List.filter_cons, hp] at this
      simpa using this
/-- .. without a test -/
theorem lc_all {i : Nat} {te : DTE} {ρ : DN} {α : Type} (enc : α → D) (f : α → D) (ys : List α) (N : DN → List D → Prop) (hs : ∀ y ∈ ys, ∀ (Y : D → Prop), Y (f y) → te (ρ.set i (some (enc y))) Y) (h0 : ρ[i]? = some none) (hz : ys.length ≤ sizeLine) (h : ∀ ρ', N ρ' (ys.map f)) : lcW (dgName i) dYes te (ys.map enc) ρ [] N := by
  refine lc_name (ρ := ρ) enc (fun _ => true) f ys ρ [] N (fun y hy Y Nn h1 _ => ?_) ⟨none, ?_⟩ (by simpa using hz) fun ρ' => by rw [List.filter_eq_self.mpr (fun _ _ => rfl), List.nil_append]; exact h ρ'
  · unfold dYes
    dsimp only
    rw [if_pos rfl]
    exact hs y hy Y (h1 rfl)
  · obtain ⟨hi, e⟩ := List.getElem?_eq_some_iff.mp h0
    rw [← e, List.set_getElem_self]
/-- a loop, by an invariant -/
theorem forW_inv {g : DTG} {tb : DTS} {E : DEnds} (I : Nat → DN → Prop) : ∀ (ds : List D) (k : Nat) (ρ : DN), I k ρ → (∀ (j : Nat) (d : D) (ρ : DN), ds[j]? = some d → I (k + j) ρ → ∀ A : DN → Prop, (∀ ρ, I (k + j + 1) ρ → A ρ) → g d ρ fun ρ1 => tb { nx := A, ct := A, bk := E.nx, rt := E.rt } ρ1) →
    (∀ ρ, I (k + ds.length) ρ → E.nx ρ) → forW g tb E ds ρ
  | [], k, ρ, h0, hs, he => he ρ h0
  | d :: ds, k, ρ, h0, hs, he => by
    refine hs 0 d ρ rfl h0 _ fun ρ' h' => ?_
    exact forW_inv I ds (k + 1) ρ' h' (fun j d' ρ2 hj h2 A hA => by
      refine hs (j + 1) d' ρ2 (by simpa using hj) (by rw [show k + (j + 1) = k + 1 + j by omega]; exact h2) A fun ρ3 h3 => hA ρ3 ?_
      rw [show k + 1 + j + 1 = k + (j + 1) + 1 by omega]; exact h3) (fun ρ2 h2 => he ρ2 (by rw [List.length_cons, show k + (ds.length + 1) = k + 1 + ds.length by omega]; exact h2))
theorem for_inv {g : DTG} {tb : DTS} {E : DEnds} {ds : List D} {ρ : DN} (I : Nat → DN → Prop) (h0 : I 0 ρ) (hs : ∀ (j : Nat) (d : D) (ρ : DN), ds[j]? = some d → I j ρ → ∀ A : DN → Prop, (∀ ρ, I (j + 1) ρ → A ρ) → g d ρ fun ρ1 => tb { nx := A, ct := A, bk := E.nx, rt := E.rt } ρ1)
    (he : ∀ ρ, I ds.length ρ → E.nx ρ) : forW g tb E ds ρ := forW_inv I ds 0 ρ h0 (fun j d ρ hj h A hA => hs j d ρ hj (by simpa using h) A fun ρ' h' => hA ρ' (by simpa using h')) (fun ρ h => he ρ (by simpa using h))
/-- a loop over range(lo, ..) -/
theorem for_rng {g : DTG} {tb : DTS} {E : DEnds} {lo : Int} {n : Nat} {ρ : DN} (I : Nat → DN → Prop) (h0 : I 0 ρ) (hs : ∀ (j : Nat) (ρ : DN), j < n → I j ρ → ∀ A : DN → Prop, (∀ ρ, I (j + 1) ρ → A ρ) → g (.int (lo + j)) ρ fun ρ1 => tb { nx := A, ct := A, bk := E.nx, rt := E.rt } ρ1)
    (he : ∀ ρ, I n ρ → E.nx ρ) : forW g tb E (rangeD lo n) ρ := by
  have l : (rangeD lo n).length = n := by unfold rangeD; simp
  refine for_inv I h0 (fun j d ρ hj h A hA => ?_) (fun ρ h => he ρ (by rw [l] at h; exact h))
  have hlt : j < n := by
    have := (List.getElem?_eq_some_iff.mp hj).1
    rw [l] at this; exact this
  rw [rangeD_get hlt] at hj
  cases hj
  exact hs j ρ hlt h A hA
/-- a while loop, by an invariant and a measure -/
theorem while_inv {c : DTT} {tb : DTS} {E : DEnds} {ρ : DN} (I : Nat → DN → Prop) (m0 : Nat) (h0 : I m0 ρ) (hs : ∀ m ρ, I m ρ → c ρ fun b => if b = true then tb { nx := fun ρ' => ∃ m', m' < m ∧ I m' ρ', ct := fun ρ' => ∃ m', m' < m ∧ I m' ρ', bk := E.nx, rt := E.rt } ρ else E.nx ρ) : dWhile c tb E ρ := ⟨I, ⟨m0, h0⟩, hs⟩
end L2

set_option Elab.async false
set_option linter.all false
set_option maxRecDepth 100000
set_option maxHeartbeats 4000000
namespace L2
open PySem PySem.Spec PyProof.Rows
/-! ### reversed(xs) -/
section
variable {Z : DC} {X : Cx} {a b c e : Expr} {ta tb te : DTE} {t : DTA} {pos : Pos}
/-! ### x[k] += e (ints) -/
variable {md : List Nat} {rn : Nat} {k : Expr} {tk : DTE}
/-! ### x.clear() -/
variable {apos cpos : Pos}
/-! ### x = f(..), the answer the asker's own -/
variable {es : List Expr}
def fCall (sd : DSp) (t : DTA) : DTF := fun ρ P => t ρ fun as => sd as fun d => ∃ ds, d = .lst ds ∧ P ds
theorem df_call {n : Nat} {sd : DSp} {k : Nat} {f : Addr} {fd : FuncData} {ps : List Str} {x : Str} {p : Pos} (F : FnOk X.prog X.w X.K X.mg X.base CX0 k f fd ps (liftSpF Z n sd)) (hr : Room k X.A) (hg : Gl X x) (hm : X.mg x = some (.ref f)) (hk : PySem.W.keepIn X.K (.ref f) = true) (hb : Binds X.K fd ps [])
    (ha : DA Z X (e :: es) t) (hdb : (x == ("__debug__" : Str)) = false := by decide) (he : starEach (e :: es) X.env = (false, eval e X.env) :: starEach es X.env := by rfl) (hpl : (backTo pos (starEach es X.env)).any (·.1) = false := by rfl) :
    DF Z X n (.Call (.Name x p) (e :: es) [] pos) (fCall sd t) := by
  refine (pe_call F hr hg hm hk hb .nil pass0 ha hdb he hpl).imp ?_
  rintro σ H Q ⟨G, ρ, P, s, en, h, q⟩
  refine ⟨G, ρ, _, s, en, h, fun ds hd vs G1 H1 x1 dvs => ?_⟩
  show liftSpF Z n sd (vs ++ []) H1 Q E0
  rw [List.append_nil]
  refine ⟨G1, ds, _, x1.sub, dvs, hd, ?_⟩
  rintro _ ⟨ds', rfl, hp⟩ v f G2 H2 x2 o nd nw
  exact q _ hp v f G2 H2 (x1.trans x2) o nd fun b hb => ⟨x1.hh.free (nw b hb).1, (nw b hb).2⟩
end
end L2

set_option Elab.async false
set_option linter.all false
set_option maxRecDepth 100000
set_option maxHeartbeats 4000000
namespace L2
open PySem PySem.Spec PyProof.Rows
section
variable {X : Cx} {elt t0 i0 t1 i1 : Expr} {f0 f1 : List Expr} {scope : Scope} {pos : Pos} {wi wi1 : TI} {g g1 : TG} {tt tt1 : TT} {te : TE} {src : List (Option Nat)} {NC : List Str}
end
section
variable {Z : DC} {X : Cx} {md : List Nat} {rn : Nat} {elt t0 i0 t1 i1 : Expr} {f0 f1 : List Expr} {scope : Scope} {pos : Pos} {wi wi1 : DTI} {g g1 : DTG} {tt tt1 : DTT} {te : DTE} {src : List (Option Nat)} {NC : List Str}
end
end L2
namespace L2
open PySem PySem.Spec PyProof.Rows
section
variable {Z : DC} {X : Cx} {md : List Nat} {rn : Nat} {e : Expr} {pos : Pos}
/-- x = a new list of plain things, read off owned ones -/
def dNewS (i : Nat) (t : DTF) : DTS := fun E ρ => t ρ fun ds => ds.all flatD = true ∧ E.nx (ρ.set i (some (.lst ds)))
theorem DvAll.flat {G G' : Hp} : ∀ {vs : List V} {ds : List D}, DvAll Z G vs ds → ds.all flatD = true → DvAll Z G' vs ds
  | _, _, .nil, _ => .nil
  | _, _, .cons a as, h => by
    rw [List.all_cons, Bool.and_eq_true] at h
    exact .cons (a.flat h.1) (as.flat h.2)
theorem ds_newS (i : Nat) {x : Str} {pos' : Pos} {t : DTF} (hN : X.N.Nodup) (he : DF Z X 1 e t) (hm : md.getD i 0 = 1 := by rfl) (hi : X.N[i]? = some x := by rfl) (hx : Loc X.env.scope x := by first | exact Or.inl rfl | exact Or.inr rfl) (hs : swapsWith e (some (.Name x pos')) pos.line X.env = pure false := by rfl)
    (hf : X.fn x = true ∨ X.env.scope.names.lookup x = some .local := by first | exact .inl rfl | exact .inr rfl | assumption) : DSt Z X md rn (.Assign [.Name x pos'] e pos) (dNewS i t) := by
  refine (ps_set hN hi hx he hs hf).imp ?_
  rintro D σ H ⟨B, ρ, E, ⟨G, fp, S⟩, h, M⟩
  refine ⟨H, ρ, _, .refl _, S.envA, h, ?_⟩
  rintro ds ⟨hfl, hd⟩ v f G' H' x o nd nw
  have x' := Ext.all S.ex.sub x
  have S' := S.grow x'
  obtain ⟨a, xs, ds', fps, rfl, e1, ha, hf', ol⟩ := o.lst
  cases e1
  obtain ⟨dv, rfl⟩ := ol.flat
  have hb : H a = none := (nw a (by rw [hf']; simp)).1
  refine M.nx _ hd _ _ ⟨G, _, S'.setO (f := [a]) hm (.inl ⟨a, xs, ds, [], rfl, rfl, ha, rfl, (dv.flat hfl).own⟩) (by simp) (fun b hb' => ?_) fun b hb' j _ hj => ?_⟩
  · have : b = a := by simpa using hb'
    subst this
    exact ⟨S.ex.hh.free hb, (nw b (by rw [hf']; simp)).2.1, S.ex.sub.free hb⟩
  · have : b = a := by simpa using hb'
    subst this
    exact (S.nw j b hj).2.1 hb
end
theorem enumD_get {l : List D} {j : Nat} {d : D} (h : (enumD l)[j]? = some d) : ∃ x, l[j]? = some x ∧ d = .tup [.int (j : Int), x] := by
  unfold enumD at h
  rw [List.getElem?_mapIdx] at h
  cases e : l[j]? with
  | none => rw [e] at h; cases h
  | some x => rw [e] at h; cases h; exact ⟨x, rfl, rfl⟩
theorem enumD_len (l : List D) : (enumD l).length = l.length := by unfold enumD; simp
theorem map_get {α β : Type} {f : α → β} {l : List α} {j : Nat} {y : β} (h : (l.map f)[j]? = some y) : ∃ x, l[j]? = some x ∧ y = f x := by
  rw [List.getElem?_map] at h
  cases e : l[j]? with
  | none => rw [e] at h; cases h
  | some x => rw [e] at h; cases h; exact ⟨x, rfl, rfl⟩
theorem flat_nat (r : List Nat) : (r.map natD).all flatD = true := by simp [natD, flatD]
theorem inD_nat {r : List Nat} {p : Nat} : inD (natD p) (r.map natD) = decide (p ∈ r) := by
  unfold inD
  rw [List.any_map]
  have : ((fun y => eqFD y (natD p)) ∘ natD) = fun q : Nat => decide (q = p) := by
    funext q
    simp [natD, eqFD, Function.comp]
    by_cases z : q = p
    · simp [z]
    · have : ¬ (q : Int) = (p : Int) := by omega
      simp [z, this]
  rw [this]
  by_cases h : p ∈ r
  · rw [decide_eq_true h, List.any_eq_true]; exact ⟨p, h, by simp⟩
  · rw [decide_eq_false h]
    apply Bool.eq_false_iff.mpr
    intro z
    rw [List.any_eq_true] at z
    obtain ⟨q, hq, e⟩ := z
    exact h (by have : q = p := by simpa using e
                rw [← this]; exact hq)
theorem atI_natD {l : List D} {p : Nat} {d : D} (h : l[p]? = some d) : atI l (p : Int) = some d := atI_nat h
theorem web_row {w : List (List Nat)} {p : Nat} (h : p < w.length) : (w.map rowW)[p]? = some (rowW (Wb.row w p)) := by
  rw [List.getElem?_map, Wb.row_get h]; rfl
end L2

set_option Elab.async false
set_option linter.all false
set_option maxRecDepth 100000
set_option maxHeartbeats 4000000
namespace L2
open PySem PySem.Spec PyProof.Rows
section
variable {Z : DC} {X : Cx} {md : List Nat} {rn : Nat} {e : Expr} {te : DTE} {pos : Pos}
/-- an expression whose value is let go -/
def dDrop (te : DTE) : DTS := fun E ρ => te ρ fun _ => E.nx ρ
theorem ds_drop (he : DE Z X e te) (hs : swapsWith e none pos.line X.env = pure false := by rfl) : DSt Z X md rn (.Expr e pos) (dDrop te) := by
  refine (ps_expr he hs).imp ?_
  rintro D σ H ⟨B, ρ, E, ⟨G, fp, S⟩, h, M⟩
  exact ⟨H, ρ, _, .refl _, S.envA, h, fun d hd v G' H' x dv => M.nx _ hd _ _ ⟨G, fp, S.grow (Ext.all S.ex.sub x)⟩⟩
end
theorem iteN {c : Bool} {A B : Prop} (e : c = false) (h : B) : if c = true then A else B := by rw [if_neg (by rw [e]; exact Bool.false_ne_true)]; exact h
/-- a comprehension, by an invariant of its names -/
theorem lc_inv {g : DTG} {tt : DTT} {te : DTE} {α : Type} (I : DN → Prop) (enc : α → D) (p : α → Bool) (f : α → D) : ∀ (ys : List α) (ρ' : DN) (acc : List D) (N : DN → List D → Prop), (∀ y ∈ ys, ∀ ρ', I ρ' → ∀ (Y : DN → D → Prop) (Nn : DN → Prop), (∀ ρ1, I ρ1 → p y = true → Y ρ1 (f y)) → (∀ ρ1, I ρ1 → p y = false → Nn ρ1) → g (enc y) ρ' fun ρ1 => tt ρ1 fun b => if b = true then te ρ1 (Y ρ1) else Nn ρ1) →
    I ρ' → acc.length + ys.length ≤ sizeLine → (∀ ρ', I ρ' → N ρ' (acc ++ (ys.filter p).map f)) → lcW g tt te (ys.map enc) ρ' acc N
  | [], ρ', acc, N, _, hI, _, h => by
    show N ρ' acc
    simpa using h ρ' hI
  | y :: ys, ρ', acc, N, hs, hI, hz, h => by
    rw [List.length_cons] at hz
    refine hs y (List.mem_cons_self ..) ρ' hI (fun ρ1 d => acc.length < sizeLine ∧ lcW g tt te (ys.map enc) ρ1 (acc ++ [d]) N) (fun ρ1 => lcW g tt te (ys.map enc) ρ1 acc N) (fun ρ1 h1 hp => ⟨by omega, ?_⟩) (fun ρ1 h1 hp => ?_)
    · refine lc_inv I enc p f ys _ (acc ++ [f y]) N (fun z hz => hs z (List.mem_cons_of_mem _ hz)) h1 (by simp; omega) fun ρ'' h2 => ?_
      have := h ρ'' h2
      rw [List.filter_cons, hp] at this
      simpa using this
    · refine lc_inv I enc p f ys _ acc N (fun z hz => hs z (List.mem_cons_of_mem _ hz)) h1 (by omega) fun ρ'' h2 => ?_
      have := h ρ'' h2
      rw [List.filter_cons, hp] at this
      simpa using this
theorem len1 {α : Type} {us : List α} (h : us.length = 1) : ∃ a0, us = [a0] := by
  cases us with
  | nil => cases h
  | cons a l =>
    cases l with
    | nil => exact ⟨a, rfl⟩
    | cons _ _ => cases h
theorem len2 {α : Type} {us : List α} (h : us.length = 2) : ∃ a0 a1, us = [a0, a1] := by
  cases us with
  | nil => cases h
  | cons a l =>
    obtain ⟨a1, rfl⟩ := len1 (Nat.succ.inj h)
    exact ⟨a, a1, rfl⟩
theorem len3 {α : Type} {us : List α} (h : us.length = 3) : ∃ a0 a1 a2, us = [a0, a1, a2] := by
  cases us with
  | nil => cases h
  | cons a l =>
    obtain ⟨a1, a2, rfl⟩ := len2 (Nat.succ.inj h)
    exact ⟨a, a1, a2, rfl⟩
theorem len4 {α : Type} {us : List α} (h : us.length = 4) : ∃ a0 a1 a2 a3, us = [a0, a1, a2, a3] := by
  cases us with
  | nil => cases h
  | cons a l =>
    obtain ⟨a1, a2, a3, rfl⟩ := len3 (Nat.succ.inj h)
    exact ⟨a, a1, a2, a3, rfl⟩
end L2


set_option linter.all false
namespace Wb
/-! the points that are reached -/
structure RI (w : W) (bs : List Bool) (ws ex : List Nat) (c : Nat) : Prop where
  len : bs.length = w.length
  z : bs[0]? = some true
  wt : ∀ x ∈ ws, bs[x]? = some true
  cl : ∀ x, bs[x]? = some true → x ∈ ws ∨ x ∈ ex ∨ ∀ q ∈ row w x, bs[q]? = some true
  cnt : bs.count false + ws.length ≤ c
theorem RI.pop {w : W} {bs : List Bool} {ws : List Nat} {p c : Nat} (h : RI w bs (ws ++ [p]) [] (c + 1)) : RI w bs ws [p] c :=
  ⟨h.len, h.z, fun x hx => h.wt x (List.mem_append_left _ hx), fun x hx => by
    rcases h.cl x hx with q | q | q
    · rcases List.mem_append.mp q with q | q
      · exact .inl q
      · exact .inr (.inl q)
    · cases q
    · exact .inr (.inr q), by have := h.cnt; rw [List.length_append] at this; simp at this; omega⟩
theorem RI.push {w : W} {bs : List Bool} {ws ex : List Nat} {q c : Nat} (h : RI w bs ws ex c) (hq : bs[q]? = some false) : RI w (bs.set q true) (ws ++ [q]) ex c := by
  obtain ⟨hl, he⟩ := List.getElem?_eq_some_iff.mp hq
  have up : ∀ x, bs[x]? = some true → (bs.set q true)[x]? = some true := fun x hx => by
    rw [List.getElem?_set]
    by_cases e : q = x
    · rw [if_pos e, if_pos hl]
    · rw [if_neg e]; exact hx
  refine ⟨by rw [List.length_set]; exact h.len, up _ h.z, fun x hx => ?_, fun x hx => ?_, ?_⟩
  · rcases List.mem_append.mp hx with z | z
    · exact up _ (h.wt x z)
    · have : x = q := by simpa using z
      rw [this, List.getElem?_set, if_pos rfl, if_pos hl]
  · by_cases e : q = x
    · exact .inl (by rw [e]; simp)
    · rw [List.getElem?_set, if_neg e] at hx
      rcases h.cl x hx with z | z | z
      · exact .inl (List.mem_append_left _ z)
      · exact .inr (.inl z)
      · exact .inr (.inr fun y hy => up _ (z y hy))
  · have hc := h.cnt
    have : 0 < bs.count false := List.count_pos_iff.mpr (by rw [← he]; exact List.getElem_mem hl)
    rw [List.count_set hl, he, List.length_append]
    simp
    omega
theorem RI.close {w : W} {bs : List Bool} {ws : List Nat} {p c : Nat} (h : RI w bs ws [p] c) (hp : ∀ q ∈ row w p, bs[q]? = some true) : RI w bs ws [] c :=
  ⟨h.len, h.z, h.wt, fun x hx => by
    rcases h.cl x hx with q | q | q
    · exact .inl q
    · have : x = p := by simpa using q
      rw [this]; exact .inr (.inr hp)
    · exact .inr (.inr q), h.cnt⟩
theorem RI.all {w : W} {bs : List Bool} {c : Nat} (g : Good w) (h : RI w bs [] [] c) : bs = List.replicate w.length true := by
  have := closed_all g (S := fun x => bs[x]? = some true) h.z fun p q hp hq => by
    rcases h.cl p hp with z | z | z
    · cases z
    · cases z
    · exact z q hq
  refine List.ext_getElem? fun i => ?_
  by_cases hi : i < w.length
  · rw [this i hi, List.getElem?_replicate, if_pos hi]
  · rw [List.getElem?_eq_none (by rw [h.len]; omega), List.getElem?_eq_none (by simp; omega)]
end Wb

set_option Elab.async false
set_option linter.all false
set_option maxRecDepth 100000
set_option maxHeartbeats 4000000
namespace K61
open PySem L2 Wb
def top (i : Nat) : Stmt := PySem.Challenge.pw_mapdye_k61_dyed_or_shown.main.body.getD i (.Pass ⟨0, 0, 0, 0⟩)
abbrev s_is_among : Stmt := top 10
abbrev s_alien_fault : Stmt := top 11
abbrev s_self_fault : Stmt := top 12
abbrev s_twice_fault : Stmt := top 13
abbrev s_lone_fault : Stmt := top 14
abbrev s_reached_from_first : Stmt := top 15
abbrev s_apart_fault : Stmt := top 16
abbrev s_first_fault : Stmt := top 17
abbrev s_need_at_most : Stmt := top 19
abbrev s_dyes_left : Stmt := top 22
abbrev s_with_dye : Stmt := top 23
abbrev s_chosen_point : Stmt := top 24
abbrev s_searched_from : Stmt := top 25
abbrev s_searched : Stmt := top 26
abbrev s__law_cell_at : Stmt := top 28
abbrev s__law_drawn : Stmt := top 29
abbrev s__law_tied_turns : Stmt := top 30
abbrev s__law_listed : Stmt := top 31
abbrev s__law_made : Stmt := top 32
abbrev s__law_web : Stmt := top 33
abbrev s__law_left : Stmt := top 34
abbrev s__law_with : Stmt := top 35
abbrev s__law_next : Stmt := top 36
abbrev s__law_search : Stmt := top 37
abbrev s__law_dyed : Stmt := top 38
abbrev s__law_plain : Stmt := top 39
abbrev s__law_right : Stmt := top 40
abbrev s_law : Stmt := top 41
abbrev s_Web___init__ : Stmt := L2.inClassD (top 18) 0
abbrev s_Web_many : Stmt := L2.inClassD (top 18) 1
abbrev s_Web_turns : Stmt := L2.inClassD (top 18) 2
abbrev s_Web_ties : Stmt := L2.inClassD (top 18) 3
abbrev s_Web_tied : Stmt := L2.inClassD (top 18) 4
abbrev s_Web_behind : Stmt := L2.inClassD (top 18) 5
theorem sc_is_among : FnScope ["thing", "many"] ["thing", "many"] (defScope s_is_among) := ⟨rfl, rfl, rfl, by decide +kernel, rfl, by decide +kernel, by decide +kernel⟩
theorem sc_alien_fault : FnScope ["rows", "p", "row", "q"] ["rows"] (defScope s_alien_fault) := ⟨rfl, rfl, rfl, by decide +kernel, rfl, by decide +kernel, by decide +kernel⟩
theorem sc_self_fault : FnScope ["rows", "p", "row"] ["rows"] (defScope s_self_fault) := ⟨rfl, rfl, rfl, by decide +kernel, rfl, by decide +kernel, by decide +kernel⟩
theorem sc_twice_fault : FnScope ["rows", "p", "row", "place", "q"] ["rows"] (defScope s_twice_fault) := ⟨rfl, rfl, rfl, by decide +kernel, rfl, by decide +kernel, by decide +kernel⟩
theorem sc_lone_fault : FnScope ["rows", "p", "row", "q"] ["rows"] (defScope s_lone_fault) := ⟨rfl, rfl, rfl, by decide +kernel, rfl, by decide +kernel, by decide +kernel⟩
theorem sc_reached_from_first : FnScope ["rows", "reached", "waiting", "p", "q"] ["rows"] (defScope s_reached_from_first) := ⟨rfl, rfl, rfl, by decide +kernel, rfl, by decide +kernel, by decide +kernel⟩
theorem sc_apart_fault : FnScope ["rows", "q", "reached"] ["rows"] (defScope s_apart_fault) := ⟨rfl, rfl, rfl, by decide +kernel, rfl, by decide +kernel, by decide +kernel⟩
theorem sc_first_fault : FnScope ["rows", "fault"] ["rows"] (defScope s_first_fault) := ⟨rfl, rfl, rfl, by decide +kernel, rfl, by decide +kernel, by decide +kernel⟩
theorem sc_need_at_most : FnScope ["web", "most"] ["web", "most"] (defScope s_need_at_most) := ⟨rfl, rfl, rfl, by decide +kernel, rfl, by decide +kernel, by decide +kernel⟩
theorem sc_dyes_left : FnScope ["turns", "lists", "dyeing", "p", "taken"] ["turns", "lists", "dyeing", "p"] (defScope s_dyes_left) := ⟨rfl, rfl, rfl, by decide +kernel, rfl, by decide +kernel, by decide +kernel⟩
theorem sc_with_dye : FnScope ["dyeing", "p", "dye"] ["dyeing", "p", "dye"] (defScope s_with_dye) := ⟨rfl, rfl, rfl, by decide +kernel, rfl, by decide +kernel, by decide +kernel⟩
theorem sc_chosen_point : FnScope ["turns", "lists", "dyeing", "counts"] ["turns", "lists", "dyeing"] (defScope s_chosen_point) := ⟨rfl, rfl, rfl, by decide +kernel, rfl, by decide +kernel, by decide +kernel⟩
theorem sc_searched_from : FnScope ["turns", "lists", "dyeing", "p", "left", "papers", "dye", "told"] ["turns", "lists", "dyeing"] (defScope s_searched_from) := ⟨rfl, rfl, rfl, by decide +kernel, rfl, by decide +kernel, by decide +kernel⟩
theorem sc_searched : FnScope ["web", "lists"] ["web", "lists"] (defScope s_searched) := ⟨rfl, rfl, rfl, by decide +kernel, rfl, by decide +kernel, by decide +kernel⟩
theorem sc__law_cell_at : FnScope ["_law_script", "_law_k"] ["_law_script", "_law_k"] (defScope s__law_cell_at) := ⟨rfl, rfl, rfl, by decide +kernel, rfl, by decide +kernel, by decide +kernel⟩
theorem sc__law_drawn : FnScope ["_law_cell", "_law_mixed"] ["_law_cell"] (defScope s__law_drawn) := ⟨rfl, rfl, rfl, by decide +kernel, rfl, by decide +kernel, by decide +kernel⟩
theorem sc__law_tied_turns : FnScope ["_law_many", "_law_number", "_law_turns", "_law_thin", "_law_point", "_law_first", "_law_other"] ["_law_many", "_law_number"] (defScope s__law_tied_turns) := ⟨rfl, rfl, rfl, by decide +kernel, rfl, by decide +kernel, by decide +kernel⟩
theorem sc__law_listed : FnScope ["_law_many", "_law_cell", "_law_number", "_law_base", "_law_wide", "_law_found", "_law_point", "_law_row", "_law_k"] ["_law_many", "_law_cell", "_law_number"] (defScope s__law_listed) := ⟨rfl, rfl, rfl, by decide +kernel, rfl, by decide +kernel, by decide +kernel⟩
theorem sc__law_made : FnScope ["_law_script", "_law_most", "_law_number", "_law_many", "_law_turns"] ["_law_script", "_law_most"] (defScope s__law_made) := ⟨rfl, rfl, rfl, by decide +kernel, rfl, by decide +kernel, by decide +kernel⟩
theorem sc__law_web : FnScope ["_law_turns"] ["_law_turns"] (defScope s__law_web) := ⟨rfl, rfl, rfl, by decide +kernel, rfl, by decide +kernel, by decide +kernel⟩
theorem sc__law_left : FnScope ["_law_turns", "_law_lists", "_law_dyeing", "_law_point", "_law_gone"] ["_law_turns", "_law_lists", "_law_dyeing", "_law_point"] (defScope s__law_left) := ⟨rfl, rfl, rfl, by decide +kernel, rfl, by decide +kernel, by decide +kernel⟩
theorem sc__law_with : FnScope ["_law_dyeing", "_law_point", "_law_dye", "_law_found"] ["_law_dyeing", "_law_point", "_law_dye"] (defScope s__law_with) := ⟨rfl, rfl, rfl, by decide +kernel, rfl, by decide +kernel, by decide +kernel⟩
theorem sc__law_next : FnScope ["_law_turns", "_law_lists", "_law_dyeing", "_law_bare"] ["_law_turns", "_law_lists", "_law_dyeing"] (defScope s__law_next) := ⟨rfl, rfl, rfl, by decide +kernel, rfl, by decide +kernel, by decide +kernel⟩
theorem sc__law_search : FnScope ["_law_turns", "_law_lists", "_law_dyeing", "_law_point", "_law_left_here", "_law_papers", "_law_dye"] ["_law_turns", "_law_lists", "_law_dyeing"] (defScope s__law_search) := ⟨rfl, rfl, rfl, by decide +kernel, rfl, by decide +kernel, by decide +kernel⟩
theorem sc__law_dyed : FnScope ["_law_turns", "_law_lists", "_law_told", "_law_point", "_law_row"] ["_law_turns", "_law_lists", "_law_told"] (defScope s__law_dyed) := ⟨rfl, rfl, rfl, by decide +kernel, rfl, by decide +kernel, by decide +kernel⟩
theorem sc__law_plain : FnScope ["_law_paper"] ["_law_paper"] (defScope s__law_plain) := ⟨rfl, rfl, rfl, by decide +kernel, rfl, by decide +kernel, by decide +kernel⟩
theorem sc__law_right : FnScope ["_law_web_here", "_law_turns", "_law_lists", "_law_handed", "_law_found", "_law_due", "_law_kept"] ["_law_web_here", "_law_turns", "_law_lists"] (defScope s__law_right) := ⟨rfl, rfl, rfl, by decide +kernel, rfl, by decide +kernel, by decide +kernel⟩
theorem sc_law : FnScope ["_law_script", "_law_turns", "_law_lists", "_law_web_here", "_law_others"] ["_law_script"] (defScope s_law) := ⟨rfl, rfl, rfl, by decide +kernel, rfl, by decide +kernel, by decide +kernel⟩
theorem sc_Web___init__ : FnScope ["self", "turns", "rows", "fault"] ["self", "turns"] (defScope s_Web___init__) := ⟨rfl, rfl, rfl, by decide +kernel, rfl, by decide +kernel, by decide +kernel⟩
theorem sc_Web_many : FnScope ["self"] ["self"] (defScope s_Web_many) := ⟨rfl, rfl, rfl, by decide +kernel, rfl, by decide +kernel, by decide +kernel⟩
theorem sc_Web_turns : FnScope ["self"] ["self"] (defScope s_Web_turns) := ⟨rfl, rfl, rfl, by decide +kernel, rfl, by decide +kernel, by decide +kernel⟩
structure Txt (Z : DC) (mg : Str → Option Value) where
  B : BltD mg
  d_is_among : Dfn Z.K mg "is_among" s_is_among ["thing", "many"]
  d_alien_fault : Dfn Z.K mg "alien_fault" s_alien_fault ["rows"]
  d_self_fault : Dfn Z.K mg "self_fault" s_self_fault ["rows"]
  d_twice_fault : Dfn Z.K mg "twice_fault" s_twice_fault ["rows"]
  d_lone_fault : Dfn Z.K mg "lone_fault" s_lone_fault ["rows"]
  d_reached_from_first : Dfn Z.K mg "reached_from_first" s_reached_from_first ["rows"]
  d_apart_fault : Dfn Z.K mg "apart_fault" s_apart_fault ["rows"]
  d_first_fault : Dfn Z.K mg "first_fault" s_first_fault ["rows"]
  d_need_at_most : Dfn Z.K mg "need_at_most" s_need_at_most ["web", "most"]
  d_dyes_left : Dfn Z.K mg "dyes_left" s_dyes_left ["turns", "lists", "dyeing", "p"]
  d_with_dye : Dfn Z.K mg "with_dye" s_with_dye ["dyeing", "p", "dye"]
  d_chosen_point : Dfn Z.K mg "chosen_point" s_chosen_point ["turns", "lists", "dyeing"]
  d_searched_from : Dfn Z.K mg "searched_from" s_searched_from ["turns", "lists", "dyeing"]
  d_searched : Dfn Z.K mg "searched" s_searched ["web", "lists"]
  d__law_cell_at : Dfn Z.K mg "_law_cell_at" s__law_cell_at ["_law_script", "_law_k"]
  d__law_drawn : Dfn Z.K mg "_law_drawn" s__law_drawn ["_law_cell"]
  d__law_tied_turns : Dfn Z.K mg "_law_tied_turns" s__law_tied_turns ["_law_many", "_law_number"]
  d__law_listed : Dfn Z.K mg "_law_listed" s__law_listed ["_law_many", "_law_cell", "_law_number"]
  d__law_made : Dfn Z.K mg "_law_made" s__law_made ["_law_script", "_law_most"]
  d__law_web : Dfn Z.K mg "_law_web" s__law_web ["_law_turns"]
  d__law_left : Dfn Z.K mg "_law_left" s__law_left ["_law_turns", "_law_lists", "_law_dyeing", "_law_point"]
  d__law_with : Dfn Z.K mg "_law_with" s__law_with ["_law_dyeing", "_law_point", "_law_dye"]
  d__law_next : Dfn Z.K mg "_law_next" s__law_next ["_law_turns", "_law_lists", "_law_dyeing"]
  d__law_search : Dfn Z.K mg "_law_search" s__law_search ["_law_turns", "_law_lists", "_law_dyeing"]
  d__law_dyed : Dfn Z.K mg "_law_dyed" s__law_dyed ["_law_turns", "_law_lists", "_law_told"]
  d__law_plain : Dfn Z.K mg "_law_plain" s__law_plain ["_law_paper"]
  d__law_right : Dfn Z.K mg "_law_right" s__law_right ["_law_web_here", "_law_turns", "_law_lists"]
  d_law : Dfn Z.K mg "law" s_law ["_law_script"]
  W : WCls Z
  mC : mg "Web" = some (.ref Z.C)
  i_f : Addr
  i_fd : FuncData
  i_F : Fun Z.K "__init__" "Web.__init__" s_Web___init__ i_f i_fd
  mkW : Mk Z.K Z.C i_f
  m___init__b : Binds Z.K i_fd ["self", "turns"] []
  m_many : Mfn Z "many" "Web.many" s_Web_many ["self"]
  m_turns : Mfn Z "turns" "Web.turns" s_Web_turns ["self"]
  m_ties : Mfn Z "ties" "Web.ties" s_Web_ties ["self"]
  m_tied : Mfn Z "tied" "Web.tied" s_Web_tied ["self", "a", "b"]
  m_behind : Mfn Z "behind" "Web.behind" s_Web_behind ["self", "p", "q"]
  c_MOST_POINTS : ∃ tk, mg "MOST_POINTS" = some (.int 14 tk)
  c_MOST_SEARCHED : ∃ tk, mg "MOST_SEARCHED" = some (.int 8 tk)
/-! ### the web's own defs, of good webs -/
def spAmong : DSp := fun ds P => ∃ (i n : Int), ds = [.int i, .int n] ∧ P (.bl (decide (0 ≤ i ∧ i < n)))
theorem ok_is_among {P : Program} {w : World} {mg : Str → Option Value} {base : Heap} {Z : DC} (T : Txt Z mg) : FnOk P w Z.K mg base CX0 1 T.d_is_among.f T.d_is_among.fd ["thing", "many"] (liftSp Z spAmong) := by
  have nd := sc_is_among.nd
  refine fn_data T.d_is_among.F sc_is_among [0, 0] (by decide) (fun ds R h => by obtain ⟨_, _, rfl, _⟩ := h; rfl) (fun cdv A outer s H E ds R hr h => ?_)
  have hu := hr.units
  refine ⟨_, (dss_one (ds_ret (de_and (de_isI "int" (de_var 0) rfl T.B.isinstance rfl T.B.int bd_int) (de_and (de_not (de_isI "bool" (de_var 0) rfl T.B.isinstance rfl T.B.bool bd_bool)) (de_one (de_chain od_le od_lt de_int (de_var 0) (de_var 1))))))), ?_⟩
  obtain ⟨i, n, rfl, q⟩ := h
  refine ⟨_, rfl, rfl, true, rfl, iteT ⟨_, rfl, rfl, false, rfl, true, rfl, iteT ⟨_, rfl, ?_⟩⟩⟩
  refine ⟨_, rfl, ite_of (fun h0 => ⟨_, rfl, ?_⟩) (fun h0 => ?_)⟩
  · have h0 : 0 ≤ i := of_decide_eq_true h0
    show R (.bl (decide (i < n)))
    rw [show decide (i < n) = decide (0 ≤ i ∧ i < n) by simp [h0]]
    exact q
  · have h0 : ¬ 0 ≤ i := of_decide_eq_false h0
    rw [show decide (0 ≤ i ∧ i < n) = false by simp [h0]] at q
    exact q
def spNone : DSp := fun ds P => ∃ (w : W), ds = [webW w] ∧ Good w ∧ 1 ≤ w.length ∧ w.length ≤ 14 ∧ P .non
theorem web3 {w : W} {j : Nat} {d : D} (h : (enumD (w.map rowW))[j]? = some d) : j < w.length ∧ d = .tup [.int (j : Int), rowW (row w j)] := by
  obtain ⟨x, hx, rfl⟩ := enumD_get h
  obtain ⟨r, hr, rfl⟩ := map_get hx
  have hj : j < w.length := (List.getElem?_eq_some_iff.mp hr).1
  refine ⟨hj, ?_⟩
  rw [row_of hr]
theorem ok_alien_fault {P : Program} {w : World} {mg : Str → Option Value} {base : Heap} {Z : DC} (T : Txt Z mg) : FnOk P w Z.K mg base CX0 2 T.d_alien_fault.f T.d_alien_fault.fd ["rows"] (liftSp Z spNone) := by
  have g_is_among := ok_is_among (P := P) (w := w) (base := base) T
  have nd := sc_alien_fault.nd
  refine fn_data T.d_alien_fault.F sc_alien_fault [0, 0, 0, 0] (by decide) (fun ds R h => by obtain ⟨_, rfl, _⟩ := h; rfl) (fun cdv A outer s H E ds R hr h => ?_)
  have hu := hr.units
  refine ⟨_, (dss_cons (ds_for rfl PassesOwn.never (di_enum rfl T.B.enumerate (da_cons (de_var 0) da_nil)) (dt_tup 2 rfl (dts_cons (dt_name 1 nd) (dts_cons (dt_name 2 nd) dts_nil'))) (dss_one (ds_for rfl PassesOwn.never (di_list (de_var 2)) (dt_name 3 nd) (dss_one (ds_if (dt_not (dt_tru (de_call g_is_among (hr.mono (by decide)) rfl T.d_is_among.m T.d_is_among.F.kp T.d_is_among.b (da_cons (de_var 3) (da_cons (de_callB cd_len rfl T.B.len bd_len (da_cons (de_var 0) da_nil)) da_nil))))) (dss_one (ds_ret (de_tup (da_cons de_str (da_cons (de_var 1) (da_cons (de_var 3) da_nil)))))) dss_nil)))))
      (dss_one (ds_ret de_non))), ?_⟩
  obtain ⟨w', rfl, g, h1, h14, q⟩ := h
  refine ⟨_, rfl, for_inv (fun _ ρ => ∃ o1 o2 o3, ρ = [some (webW w'), o1, o2, o3]) ⟨_, _, _, rfl⟩ ?_ ?_⟩
  · rintro j d _ hd ⟨o1, o2, o3, rfl⟩ A hA
    obtain ⟨hj, rfl⟩ := web3 hd
    refine ⟨rfl, rfl, ?_⟩
    refine ⟨_, rfl, for_inv (fun _ ρ => ∃ o3, ρ = [some (webW w'), some (.int (j : Int)), some (rowW (row w' j)), o3]) ⟨_, rfl⟩ ?_ ?_⟩
    · rintro k d' _ hk ⟨o4, rfl⟩ A' hA'
      obtain ⟨x, hx, rfl⟩ := map_get hk
      refine ⟨_, rfl, _, rfl, _, _, rfl, ⟨rfl, ?_⟩⟩
      have hlt : x < w'.length := g.rng _ _ (List.mem_of_getElem? hx)
      rw [show decide ((0 : Int) ≤ (x : Int) ∧ (x : Int) < ((w'.map rowW).length : Int)) = true by simp; omega]
      exact iteF (hA' _ ⟨_, rfl⟩)
    · rintro _ ⟨o4, rfl⟩
      exact hA _ ⟨_, _, _, rfl⟩
  · rintro _ ⟨o1, o2, o3, rfl⟩
    exact q
theorem ok_self_fault {P : Program} {w : World} {mg : Str → Option Value} {base : Heap} {Z : DC} (T : Txt Z mg) : FnOk P w Z.K mg base CX0 1 T.d_self_fault.f T.d_self_fault.fd ["rows"] (liftSp Z spNone) := by
  have nd := sc_self_fault.nd
  refine fn_data T.d_self_fault.F sc_self_fault [0, 0, 0] (by decide) (fun ds R h => by obtain ⟨_, rfl, _⟩ := h; rfl) (fun cdv A outer s H E ds R hr h => ?_)
  have hu := hr.units
  refine ⟨_, (dss_cons (ds_for rfl PassesOwn.never (di_enum rfl T.B.enumerate (da_cons (de_var 0) da_nil)) (dt_tup 2 rfl (dts_cons (dt_name 1 nd) (dts_cons (dt_name 2 nd) dts_nil'))) (dss_one (ds_if (dt_cmp od_in (de_var 1) (de_var 2) (by with_unfolding_all rfl)) (dss_one (ds_ret (de_tup (da_cons de_str (da_cons (de_var 1) (da_cons (de_var 1) da_nil)))))) dss_nil)))
      (dss_one (ds_ret de_non))), ?_⟩
  obtain ⟨w', rfl, g, h1, h14, q⟩ := h
  refine ⟨_, rfl, for_inv (fun _ ρ => ∃ o1 o2, ρ = [some (webW w'), o1, o2]) ⟨_, _, rfl⟩ ?_ ?_⟩
  · rintro j d _ hd ⟨o1, o2, rfl⟩ A hA
    obtain ⟨hj, rfl⟩ := web3 hd
    refine ⟨rfl, rfl, ?_⟩
    refine ⟨_, rfl, _, rfl, rfl, flat_nat _, _, rfl, ?_⟩
    have e : inD (.int (j : Int)) ((row w' j).map natD) = false := by
      have := inD_nat (r := row w' j) (p := j)
      rw [decide_eq_false (g.irr j)] at this
      exact this
    rw [if_neg Bool.false_ne_true, e]
    exact iteF (hA _ ⟨_, _, rfl⟩)
  · rintro _ ⟨o1, o2, rfl⟩
    exact q
theorem cutD_take {α : Type} (l : List α) (k : Nat) (h : k ≤ l.length) : cutD l none (some (k : Int)) = l.take k := by
  unfold cutD
  have e1 : HT.sIx l.length 0 none = 0 := rfl
  have e2 : HT.sIx l.length l.length (some (k : Int)) = k := by
    simp only [HT.sIx]
    split <;> omega
  rw [e1, e2]
  simp
theorem ok_twice_fault {P : Program} {w : World} {mg : Str → Option Value} {base : Heap} {Z : DC} (T : Txt Z mg) : FnOk P w Z.K mg base CX0 1 T.d_twice_fault.f T.d_twice_fault.fd ["rows"] (liftSp Z spNone) := by
  have nd := sc_twice_fault.nd
  refine fn_data T.d_twice_fault.F sc_twice_fault [0, 0, 0, 0, 0] (by decide) (fun ds R h => by obtain ⟨_, rfl, _⟩ := h; rfl) (fun cdv A outer s H E ds R hr h => ?_)
  have hu := hr.units
  refine ⟨_, (dss_cons (ds_for rfl PassesOwn.never (di_enum rfl T.B.enumerate (da_cons (de_var 0) da_nil)) (dt_tup 2 rfl (dts_cons (dt_name 1 nd) (dts_cons (dt_name 2 nd) dts_nil'))) (dss_one (ds_for rfl PassesOwn.never (di_enum rfl T.B.enumerate (da_cons (de_var 2) da_nil)) (dt_tup 2 rfl (dts_cons (dt_name 3 nd) (dts_cons (dt_name 4 nd) dts_nil'))) (dss_one (ds_if (dt_cmp od_in (de_var 4) (de_slice (de_var 2) do_none (do_some (de_var 3))) (by with_unfolding_all rfl)) (dss_one (ds_ret (de_tup (da_cons de_str (da_cons (de_var 1) (da_cons (de_var 4) da_nil)))))) dss_nil)))))
      (dss_one (ds_ret de_non))), ?_⟩
  obtain ⟨w', rfl, g, h1, h14, q⟩ := h
  refine ⟨_, rfl, for_inv (fun _ ρ => ∃ o1 o2 o3 o4, ρ = [some (webW w'), o1, o2, o3, o4]) ⟨_, _, _, _, rfl⟩ ?_ ?_⟩
  · rintro j d _ hd ⟨o1, o2, o3, o4, rfl⟩ A hA
    obtain ⟨hj, rfl⟩ := web3 hd
    refine ⟨rfl, rfl, ?_⟩
    refine ⟨_, rfl, for_inv (fun _ ρ => ∃ o3 o4, ρ = [some (webW w'), some (.int (j : Int)), some (rowW (row w' j)), o3, o4]) ⟨_, _, rfl⟩ ?_ ?_⟩
    · rintro k d' _ hk ⟨o5, o6, rfl⟩ A' hA'
      obtain ⟨y, hy, rfl⟩ := enumD_get hk
      obtain ⟨x, hx, rfl⟩ := map_get hy
      have hk' : k < (row w' j).length := (List.getElem?_eq_some_iff.mp hx).1
      refine ⟨rfl, rfl, ?_⟩
      refine ⟨_, rfl, _, rfl, _, rfl, ?_⟩
      have ec : cutD ((row w' j).map natD) none (some (k : Int)) = ((row w' j).take k).map natD := by rw [cutD_take _ _ (by simp; omega), List.map_take]
      refine (?_ : dIn false (natD x) (.lst (cutD ((row w' j).map natD) none (some (k : Int)))) _)
      rw [ec]
      refine ⟨rfl, flat_nat _, _, rfl, ?_⟩
      have e : inD (natD x) (((row w' j).take k).map natD) = false := by
        rw [inD_nat, decide_eq_false]
        intro z
        obtain ⟨m, hm⟩ := List.getElem?_of_mem z
        have hm' : m < k := by
          have := (List.getElem?_eq_some_iff.mp hm).1
          rw [List.length_take] at this; omega
        rw [List.getElem?_take_of_lt hm'] at hm
        exact absurd ((List.getElem?_inj (by omega) (g.nod j)).mp (hm.trans hx.symm)) (by omega)
      rw [if_neg Bool.false_ne_true, e]
      exact iteF (hA' _ ⟨_, _, rfl⟩)
    · rintro _ ⟨o5, o6, rfl⟩
      exact hA _ ⟨_, _, _, _, rfl⟩
  · rintro _ ⟨o1, o2, o3, o4, rfl⟩
    exact q
theorem ok_lone_fault {P : Program} {w : World} {mg : Str → Option Value} {base : Heap} {Z : DC} (T : Txt Z mg) : FnOk P w Z.K mg base CX0 1 T.d_lone_fault.f T.d_lone_fault.fd ["rows"] (liftSp Z spNone) := by
  have nd := sc_lone_fault.nd
  refine fn_data T.d_lone_fault.F sc_lone_fault [0, 0, 0, 0] (by decide) (fun ds R h => by obtain ⟨_, rfl, _⟩ := h; rfl) (fun cdv A outer s H E ds R hr h => ?_)
  have hu := hr.units
  refine ⟨_, (dss_cons (ds_for rfl PassesOwn.never (di_enum rfl T.B.enumerate (da_cons (de_var 0) da_nil)) (dt_tup 2 rfl (dts_cons (dt_name 1 nd) (dts_cons (dt_name 2 nd) dts_nil'))) (dss_one (ds_for rfl PassesOwn.never (di_list (de_var 2)) (dt_name 3 nd) (dss_one (ds_if (dt_cmp od_notin (de_var 1) (de_ix (de_var 0) (de_var 3)) (by with_unfolding_all rfl)) (dss_one (ds_ret (de_tup (da_cons de_str (da_cons (de_var 1) (da_cons (de_var 3) da_nil)))))) dss_nil)))))
      (dss_one (ds_ret de_non))), ?_⟩
  obtain ⟨w', rfl, g, h1, h14, q⟩ := h
  refine ⟨_, rfl, for_inv (fun _ ρ => ∃ o1 o2 o3, ρ = [some (webW w'), o1, o2, o3]) ⟨_, _, _, rfl⟩ ?_ ?_⟩
  · rintro j d _ hd ⟨o1, o2, o3, rfl⟩ A hA
    obtain ⟨hj, rfl⟩ := web3 hd
    refine ⟨rfl, rfl, ?_⟩
    refine ⟨_, rfl, for_inv (fun _ ρ => ∃ o3, ρ = [some (webW w'), some (.int (j : Int)), some (rowW (row w' j)), o3]) ⟨_, rfl⟩ ?_ ?_⟩
    · rintro k d' _ hk ⟨o4, rfl⟩ A' hA'
      obtain ⟨x, hx, rfl⟩ := map_get hk
      have hxj := List.mem_of_getElem? hx
      have hlt : x < w'.length := g.rng _ _ hxj
      refine ⟨_, rfl, _, rfl, _, rfl, _, atI_natD (web_row hlt), rfl, flat_nat _, _, rfl, ?_⟩
      have e : inD (.int (j : Int)) ((row w' x).map natD) = true := by
        have := inD_nat (r := row w' x) (p := j)
        rw [decide_eq_true (g.sym _ _ hxj)] at this
        exact this
      rw [if_pos rfl, e]
      exact iteF (hA' _ ⟨_, rfl⟩)
    · rintro _ ⟨o4, rfl⟩
      exact hA _ ⟨_, _, _, rfl⟩
  · rintro _ ⟨o1, o2, o3, rfl⟩
    exact q
def blD (bs : List Bool) : List D := bs.map D.bl
theorem blD_get {bs : List Bool} {i : Nat} {b : Bool} (h : bs[i]? = some b) : (blD bs)[i]? = some (.bl b) := by unfold blD; rw [List.getElem?_map, h]; rfl
theorem blD_set (bs : List Bool) (i : Nat) (b : Bool) : (blD bs).set i (.bl b) = blD (bs.set i b) := by unfold blD; rw [List.map_set]
theorem blD_len (bs : List Bool) : (blD bs).length = bs.length := List.length_map _
theorem ixN_natD {n k : Nat} (h : k < n) : ixN n (k : Int) = some k := by unfold ixN; rw [if_pos (by omega), if_pos (by omega)]; simp
def spReached : DSp := fun ds P => ∃ (w : W), ds = [webW w] ∧ Good w ∧ 1 ≤ w.length ∧ w.length ≤ 14 ∧ P (.lst (blD (List.replicate w.length true)))
theorem ok_reached_from_first {P : Program} {w : World} {mg : Str → Option Value} {base : Heap} {Z : DC} (T : Txt Z mg) : FnOk P w Z.K mg base CX0 1 T.d_reached_from_first.f T.d_reached_from_first.fd ["rows"] (liftSp Z spReached) := by
  have nd := sc_reached_from_first.nd
  refine fn_data T.d_reached_from_first.F sc_reached_from_first [0, 1, 1, 0, 0] (by decide) (fun ds R h => by obtain ⟨_, rfl, _⟩ := h; rfl) (fun cdv A outer s H E ds R hr h => ?_)
  have hu := hr.units
  refine ⟨_, (dss_cons (ds_newlc 1 (NC := ["row"]) (src := [none]) rfl nd (CompOk.of (defScope s_reached_from_first) rfl rfl (by decide +kernel) (by decide +kernel) (by decide +kernel)) trivial (di_list (de_var 0)) (fun _ _ _ => (dg_name 0 (show (["row"] : List Str).Nodup from by decide +kernel))) (fun _ _ _ => dts_nil) (fun _ _ _ => de_bl))
      (dss_cons (ds_setix false 1 de_int de_bl)
      (dss_cons (ds_new 2 nd (df_lst (da_cons de_int da_nil)))
      (dss_cons (ds_while PassesOwn.never (dt_tru (de_var 2)) (dss_cons (ds_pop 3 2 nd)
      (dss_one (ds_for rfl PassesOwn.never (di_list (de_ix (de_var 0) (de_var 3))) (dt_name 4 nd) (dss_one (ds_if (dt_not (dt_tru (de_ix (de_var 1) (de_var 4)))) (dss_cons (ds_setix false 1 (de_var 4) de_bl)
      (dss_one (ds_app false 2 (de_var 4)))) dss_nil))))))
      (dss_one (ds_ret (de_var 1))))))), ?_⟩
  obtain ⟨w', rfl, g, h1, h14, q⟩ := h
  refine ⟨_, rfl, lc_all (ρ := [none]) rowW (fun _ => .bl false) w' _ (fun y hy Y h => h) rfl (small (by omega)) fun ρ' => ?_⟩
  have e0 : w'.map (fun _ => D.bl false) = blD (List.replicate w'.length false) := by unfold blD; rw [List.map_replicate, List.map_const']
  rw [e0]
  refine ⟨trivial, _, rfl, 0, 0, rfl, by rw [blD_len, List.length_replicate]; exact ixN_natD (k := 0) (by omega), ?_⟩
  rw [blD_set]
  refine ⟨by show 1 ≤ sizeLine; decide, ?_⟩
  refine while_inv (fun m ρ => ∃ (bs : List Bool) (ws : List Nat) (o3 o4 : Option D), ρ = [some (webW w'), some (.lst (blD bs)), some (.lst (ws.map natD)), o3, o4] ∧ RI w' bs ws [] m ∧ m ≤ 14 ∧ bs.count false + ws.length = m) w'.length ?_ ?_
  · refine ⟨_, [0], none, none, rfl, ⟨by simp, ?_, ?_, fun x hx => ?_, ?_⟩, h14, ?_⟩
    · rw [List.getElem?_set, if_pos rfl, if_pos (by rw [List.length_replicate]; omega)]
    · intro x hx
      have : x = 0 := by simpa using hx
      rw [this, List.getElem?_set, if_pos rfl, if_pos (by rw [List.length_replicate]; omega)]
    · by_cases e : 0 = x
      · exact .inl (by rw [← e]; simp)
      · rw [List.getElem?_set, if_neg e, List.getElem?_replicate] at hx
        split at hx <;> cases hx
    · rw [List.count_set (by rw [List.length_replicate]; omega), List.count_replicate_self, List.getElem_replicate]
      simp
      omega
    · rw [List.count_set (by rw [List.length_replicate]; omega), List.count_replicate_self, List.getElem_replicate]
      simp
      omega
  · rintro m _ ⟨bs, ws, o3, o4, rfl, ri, hc, hcn⟩
    refine ⟨_, rfl, rfl, ?_⟩
    rcases List.eq_nil_or_concat ws with rfl | ⟨ws', p, e⟩
    · refine iteF ?_
      have e := ri.all g
      rw [← e] at q
      exact ⟨_, rfl, q⟩
    · rw [List.concat_eq_append] at e
      subst e
      rw [show truD (.lst ((ws' ++ [p]).map natD)) = true by simp [truD]]
      refine iteT ?_
      rw [List.length_append] at hcn
      simp only [List.length_singleton] at hcn
      obtain ⟨c', rfl⟩ : ∃ c', m = c' + 1 := ⟨m - 1, by omega⟩
      have ri2 := ri.pop
      have hp : bs[p]? = some true := ri.wt p (by simp)
      have hpw : p < w'.length := by rw [← ri.len]; exact (List.getElem?_eq_some_iff.mp hp).1
      refine ⟨ws'.map natD, natD p, by rw [List.map_append]; rfl, ?_⟩
      refine ⟨_, rfl, _, rfl, _, atI_natD (web_row hpw), for_inv (fun j ρ => ∃ (bs1 : List Bool) (ws1 : List Nat) (o4 : Option D), ρ = [some (webW w'), some (.lst (blD bs1)), some (.lst (ws1.map natD)), some (natD p), o4] ∧ RI w' bs1 ws1 [p] c' ∧ (∀ k y, k < j → (row w' p)[k]? = some y → bs1[y]? = some true) ∧ bs1.count false + ws1.length = c') ?_ ?_ ?_⟩
      · exact ⟨bs, ws', _, rfl, ri2, (fun k n hk => by omega), by omega⟩
      · rintro j x _ hx ⟨bs1, ws1, o5, rfl, ri6, don6, cn6⟩ A hA
        obtain ⟨n, hn, rfl⟩ := map_get hx
        have hnw := g.rng _ _ (List.mem_of_getElem? hn)
        have hnb : n < bs1.length := by rw [ri6.len]; exact hnw
        have hbn : bs1[n]? = some (bs1[n]) := List.getElem?_eq_getElem hnb
        refine ⟨_, rfl, _, rfl, _, atI_natD (blD_get hbn), rfl, ?_⟩
        generalize bs1[n] = bn at hbn
        cases bn with
        | true =>
          refine iteF (hA _ ⟨bs1, ws1, _, rfl, ri6, fun k y hk hy => ?_, cn6⟩)
          by_cases e : k = j
          · rw [e, hn] at hy; cases hy; exact hbn
          · exact don6 k y (by omega) hy
        | false =>
          refine iteT ?_
          refine ⟨trivial, _, rfl, _, rfl, _, n, rfl, by rw [blD_len]; exact ixN_natD hnb, ?_⟩
          rw [blD_set]
          have ri7 := ri6.push hbn
          have cnt7 := ri7.cnt
          refine ⟨_, rfl, _, rfl, trivial, small1000 (by rw [List.length_map]; omega), ?_⟩
          have er : ws1.map natD ++ [natD n] = (ws1 ++ [n]).map natD := by rw [List.map_append]; rfl
          rw [er]
          refine hA _ ⟨bs1.set n true, ws1 ++ [n], _, rfl, ri7, fun k y hk hy => ?_, ?_⟩
          · rw [List.getElem?_set]
            by_cases e : n = y
            · rw [if_pos e, if_pos hnb]
            · rw [if_neg e]
              refine don6 k y ?_ hy
              apply Classical.byContradiction
              intro z
              have : k = j := by omega
              rw [this, hn] at hy; cases hy; exact e rfl
          · obtain ⟨hl, he⟩ := List.getElem?_eq_some_iff.mp hbn
            have : 0 < bs1.count false := List.count_pos_iff.mpr (by rw [← he]; exact List.getElem_mem hl)
            rw [List.count_set hl, he, List.length_append]
            simp
            omega
      · rintro _ ⟨bs1, ws1, o5, rfl, ri6, don6, cn6⟩
        have ri7 := ri6.close fun y hy => by
          obtain ⟨k, hk⟩ := List.getElem?_of_mem hy
          exact don6 k y (by rw [List.length_map]; exact (List.getElem?_eq_some_iff.mp hk).1) hk
        exact ⟨c', by omega, bs1, ws1, _, _, rfl, ri7, by omega, cn6⟩
theorem ok_apart_fault {P : Program} {w : World} {mg : Str → Option Value} {base : Heap} {Z : DC} (T : Txt Z mg) : FnOk P w Z.K mg base CX0 2 T.d_apart_fault.f T.d_apart_fault.fd ["rows"] (liftSp Z spNone) := by
  have g_reached_from_first := ok_reached_from_first (P := P) (w := w) (base := base) T
  have nd := sc_apart_fault.nd
  refine fn_data T.d_apart_fault.F sc_apart_fault [0, 0, 0] (by decide) (fun ds R h => by obtain ⟨_, rfl, _⟩ := h; rfl) (fun cdv A outer s H E ds R hr h => ?_)
  have hu := hr.units
  refine ⟨_, (dss_cons (ds_for rfl PassesOwn.never (di_enum rfl T.B.enumerate (da_cons (de_call g_reached_from_first (hr.mono (by decide)) rfl T.d_reached_from_first.m T.d_reached_from_first.F.kp T.d_reached_from_first.b (da_cons (de_var 0) da_nil)) da_nil)) (dt_tup 2 rfl (dts_cons (dt_name 1 nd) (dts_cons (dt_name 2 nd) dts_nil'))) (dss_one (ds_if (dt_not (dt_tru (de_var 2))) (dss_one (ds_ret (de_tup (da_cons de_str (da_cons de_int (da_cons (de_var 1) da_nil)))))) dss_nil)))
      (dss_one (ds_ret de_non))), ?_⟩
  obtain ⟨w', rfl, g, h1, h14, q⟩ := h
  refine ⟨_, rfl, w', rfl, g, h1, h14, for_inv (fun _ ρ => ∃ o1 o2, ρ = [some (webW w'), o1, o2]) ⟨_, _, rfl⟩ ?_ ?_⟩
  · rintro j d _ hd ⟨o1, o2, rfl⟩ A hA
    obtain ⟨y, hy, rfl⟩ := enumD_get hd
    have ey : y = .bl true := by
      obtain ⟨b, hb, rfl⟩ := map_get hy
      have := List.mem_of_getElem? hb
      rw [List.mem_replicate] at this
      rw [this.2]
    subst ey
    refine ⟨rfl, rfl, ?_⟩
    exact ⟨_, rfl, rfl, iteF (hA _ ⟨_, _, rfl⟩)⟩
  · rintro _ ⟨o1, o2, rfl⟩
    exact q
theorem ok_first_fault {P : Program} {w : World} {mg : Str → Option Value} {base : Heap} {Z : DC} (T : Txt Z mg) : FnOk P w Z.K mg base CX0 3 T.d_first_fault.f T.d_first_fault.fd ["rows"] (liftSp Z spNone) := by
  have g_alien_fault := ok_alien_fault (P := P) (w := w) (base := base) T
  have g_apart_fault := ok_apart_fault (P := P) (w := w) (base := base) T
  have g_lone_fault := ok_lone_fault (P := P) (w := w) (base := base) T
  have g_self_fault := ok_self_fault (P := P) (w := w) (base := base) T
  have g_twice_fault := ok_twice_fault (P := P) (w := w) (base := base) T
  have nd := sc_first_fault.nd
  refine fn_data T.d_first_fault.F sc_first_fault [0, 0] (by decide) (fun ds R h => by obtain ⟨_, rfl, _⟩ := h; rfl) (fun cdv A outer s H E ds R hr h => ?_)
  have hu := hr.units
  refine ⟨_, (dss_cons (ds_set false 1 nd (de_call g_alien_fault (hr.mono (by decide)) rfl T.d_alien_fault.m T.d_alien_fault.F.kp T.d_alien_fault.b (da_cons (de_var 0) da_nil)))
      (dss_cons (ds_if (dt_cmp od_is (de_var 1) de_non (nomark _)) (dss_one (ds_set false 1 nd (de_call g_self_fault (hr.mono (by decide)) rfl T.d_self_fault.m T.d_self_fault.F.kp T.d_self_fault.b (da_cons (de_var 0) da_nil)))) dss_nil)
      (dss_cons (ds_if (dt_cmp od_is (de_var 1) de_non (nomark _)) (dss_one (ds_set false 1 nd (de_call g_twice_fault (hr.mono (by decide)) rfl T.d_twice_fault.m T.d_twice_fault.F.kp T.d_twice_fault.b (da_cons (de_var 0) da_nil)))) dss_nil)
      (dss_cons (ds_if (dt_cmp od_is (de_var 1) de_non (nomark _)) (dss_one (ds_set false 1 nd (de_call g_lone_fault (hr.mono (by decide)) rfl T.d_lone_fault.m T.d_lone_fault.F.kp T.d_lone_fault.b (da_cons (de_var 0) da_nil)))) dss_nil)
      (dss_cons (ds_if (dt_cmp od_is (de_var 1) de_non (nomark _)) (dss_one (ds_set false 1 nd (de_call g_apart_fault (hr.mono (by decide)) rfl T.d_apart_fault.m T.d_apart_fault.F.kp T.d_apart_fault.b (da_cons (de_var 0) da_nil)))) dss_nil)
      (dss_one (ds_ret (de_var 1)))))))), ?_⟩
  obtain ⟨w', rfl, g, h1, h14, q⟩ := h
  have no : ∀ (u : DTS) (E : DEnds) (ρ : DN) (te : DTE), ρ[1]? = some (some .non) → E.nx ρ → dIfS (dTest (dOp (dIsN false) (dVar 1) (dC .non))) u dNext E ρ → True := fun _ _ _ _ _ _ _ => trivial
  refine ⟨_, rfl, w', rfl, g, h1, h14, trivial, ?_⟩
  refine ⟨_, rfl, _, rfl, iteT ⟨_, rfl, w', rfl, g, h1, h14, trivial, ?_⟩⟩
  refine ⟨_, rfl, _, rfl, iteT ⟨_, rfl, w', rfl, g, h1, h14, trivial, ?_⟩⟩
  refine ⟨_, rfl, _, rfl, iteT ⟨_, rfl, w', rfl, g, h1, h14, trivial, ?_⟩⟩
  refine ⟨_, rfl, _, rfl, iteT ⟨_, rfl, w', rfl, g, h1, h14, trivial, ?_⟩⟩
  exact ⟨_, rfl, q⟩
theorem ok_Web___init__ {P : Program} {w : World} {mg : Str → Option Value} {base : Heap} {Z : DC} (T : Txt Z mg) : FnOk P w Z.K mg base CX0 4 T.i_f T.i_fd ["self", "turns"] (spInitD Z) := by
  have g_first_fault := ok_first_fault (P := P) (w := w) (base := base) T
  have nd := sc_Web___init__.nd
  refine T.i_F.ok sc_Web___init__ (fun vs H Q E h => ?_) (fun cdv A outer s H vs Q E hr h => ?_)
  · obtain ⟨p, dx, v, G, w', rfl, _⟩ := h; rfl
  obtain ⟨p, dx, v, G, w', rfl, hp, sG, gp, dv, g, h1, h14, q⟩ := h
  have hu := hr.units
  refine ⟨_, pss_cons (t := liftS Z [0, 0, 0, 0] 0 _)
      (ds_if (dt_not (dt_chain od_le od_le de_int (de_callB cd_len rfl T.B.len bd_len (da_cons (de_var 1) da_nil)) (de_globI rfl T.c_MOST_POINTS))) (dss_one ds_never) dss_nil)
    (pss_cons (t := liftS Z [0, 0, 0, 0] 0 _)
      (ds_setlc 2 (NC := ["row"]) (src := [none]) rfl nd (CompOk.of (defScope s_Web___init__) rfl rfl (by decide +kernel) (by decide +kernel) (by decide +kernel)) trivial (di_list (de_var 1)) (fun _ _ _ => (dg_name 0 (show (["row"] : List Str).Nodup from by decide +kernel))) (fun _ _ _ => dts_nil) (fun _ _ _ => (de_callTy cd_list rfl T.B.list bd_list (da_cons (de_var 0) da_nil))))
    (pss_cons (t := liftS Z [0, 0, 0, 0] 0 _)
      (ds_set false 3 nd (de_call g_first_fault (hr.mono (by decide)) rfl T.d_first_fault.m T.d_first_fault.F.kp T.d_first_fault.b (da_cons (de_var 2) da_nil)))
    (pss_cons (t := liftS Z [0, 0, 0, 0] 0 _)
      (ds_if (dt_cmp od_isnot (de_var 3) de_non (nomark _)) (dss_one ds_never) dss_nil)
    (pss_one (ps_fld (pv 0) (pv 2) rfl))))), ?_⟩
  have lw : (w'.map rowW).length = w'.length := List.length_map _
  refine ⟨⟨G, H, G⟩, [some (.obj p), some (webW w'), none, none], { nx := fun ρ => ρ = [some (.obj p), some (webW w'), none, none], rt := fun _ => False }, ⟨G, fun _ => [], ?_⟩, ?_, ⟨?_, fun _ z => z.elim, fun _ z => z.elim, fun _ z => z.elim⟩⟩
  · refine ⟨.refl sG, .refl _, rfl, fun i d hi => ?_, fun _ => List.nodup_nil, (fun _ _ _ _ z => by cases z), (fun _ _ z => by cases z)⟩
    match i, hi with
    | 0, hi => cases hi; exact ⟨_, rfl, .obj p, rfl⟩
    | 1, hi => cases hi; exact ⟨_, rfl, dv, rfl⟩
    | 2, hi => cases hi
    | 3, hi => cases hi
    | i + 4, hi => cases hi
  · have e1 : D.bl (decide ((1 : Int) ≤ ((w'.map rowW).length : Int))) = .bl true := congrArg D.bl (decide_eq_true (by rw [lw]; omega))
    have e2 : D.bl (decide (((w'.map rowW).length : Int) ≤ 14)) = .bl true := congrArg D.bl (decide_eq_true (by rw [lw]; omega))
    exact ⟨_, rfl, true, e1, iteT ⟨true, e2, iteF rfl⟩⟩
  rintro _ rfl σ1 H1 S1
  refine ⟨⟨G, H, G⟩, _, { nx := fun ρ => ρ = [some (.obj p), some (webW w'), some (webW w'), none], rt := fun _ => False }, S1, ?_, ⟨?_, fun _ z => z.elim, fun _ z => z.elim, fun _ z => z.elim⟩⟩
  · exact ⟨_, rfl, lc_all (ρ := [none]) rowW rowW w' _ (fun y hy Y h => ⟨_, rfl, h⟩) rfl (small (by omega)) fun ρ' => ⟨trivial, rfl⟩⟩
  rintro _ rfl σ2 H2 S2
  refine ⟨⟨G, H, G⟩, _, { nx := fun ρ => ρ = [some (.obj p), some (webW w'), some (webW w'), some .non], rt := fun _ => False }, S2, ?_, ⟨?_, fun _ z => z.elim, fun _ z => z.elim, fun _ z => z.elim⟩⟩
  · exact ⟨_, rfl, w', rfl, g, h1, h14, trivial, rfl⟩
  rintro _ rfl σ3 H3 S3
  refine ⟨⟨G, H, G⟩, _, { nx := fun ρ => ρ = [some (.obj p), some (webW w'), some (webW w'), some .non], rt := fun _ => False }, S3, ?_, ⟨?_, fun _ z => z.elim, fun _ z => z.elim, fun _ z => z.elim⟩⟩
  · exact ⟨_, rfl, _, rfl, iteF rfl⟩
  rintro _ rfl σ4 H4 ⟨G4, fp, S4⟩
  obtain ⟨v0, hv0, o0⟩ := S4.at_ 0 _ rfl
  obtain ⟨v2, hv2, o2⟩ := S4.at_ 2 _ rfl
  obtain ⟨d0, _⟩ := o0
  obtain ⟨d2, _⟩ := o2
  cases d0
  have d2' := d2
  cases d2 with
  | @lst R xs ds hR e =>
    have hp4 := S4.ex.hh _ _ hp
    refine ⟨_, hv2, _, hv0, p, Z.C, dx, [], rfl, hp4, T.W.cl, T.W.nR, by decide, ?_⟩
    have g4 : G4 p = none := S4.ex.off p (by show H p ≠ none; rw [hp]; exact fun z => nomatch z) gp
    refine q R G4 _ S4.ex.gg (fun b o eb => ?_) (fun b o eb nb => ?_) S4.ex.off upd_same d2'
    · rw [upd_ne (ne_of_none eb g4)]; exact S4.ex.sub _ _ eb
    · rw [upd_ne nb]; exact S4.ex.hh _ _ eb
def spMany : DSp := fun ds P => ∃ (w : W), ds = [.web w] ∧ P (.int (w.length : Int))
theorem ok_Web_many {P : Program} {w : World} {mg : Str → Option Value} {base : Heap} {Z : DC} (T : Txt Z mg) : FnOk P w Z.K mg base CX0 1 T.m_many.f T.m_many.fd ["self"] (liftSp Z spMany) := by
  have nd := sc_Web_many.nd
  refine fn_data T.m_many.F sc_Web_many [0] (by decide) (fun ds R h => by obtain ⟨_, rfl, _⟩ := h; rfl) (fun cdv A outer s H E ds R hr h => ?_)
  have hu := hr.units
  refine ⟨_, (dss_one (ds_ret (de_callB cd_len rfl T.B.len bd_len (da_cons (de_rows T.W (de_var 0)) da_nil)))), ?_⟩
  obtain ⟨w', rfl, q⟩ := h
  refine ⟨_, rfl, w', rfl, ?_⟩
  refine (?_ : R (.int ((w'.map rowW).length : Int)))
  rw [List.length_map]
  exact q
def spTurns : DSp := fun ds P => ∃ (w : W), ds = [.web w] ∧ w.length ≤ 14 ∧ P (webW w)
theorem ok_Web_turns {P : Program} {w : World} {mg : Str → Option Value} {base : Heap} {Z : DC} (T : Txt Z mg) : FnOk P w Z.K mg base CX0 1 T.m_turns.f T.m_turns.fd ["self"] (liftSp Z spTurns) := by
  have nd := sc_Web_turns.nd
  refine fn_data T.m_turns.F sc_Web_turns [0] (by decide) (fun ds R h => by obtain ⟨_, rfl, _⟩ := h; rfl) (fun cdv A outer s H E ds R hr h => ?_)
  have hu := hr.units
  refine ⟨_, (dss_one (ds_ret (de_lc (NC := ["row"]) (src := [none]) rfl (CompOk.of (defScope s_Web_turns) rfl rfl (by decide +kernel) (by decide +kernel) (by decide +kernel)) trivial (di_list (de_rows T.W (de_var 0))) (fun _ _ _ => (dg_name 0 (show (["row"] : List Str).Nodup from by decide +kernel))) (fun _ _ _ => dts_nil) (fun _ _ _ => (de_callTy cd_list rfl T.B.list bd_list (da_cons (de_var 0) da_nil)))))), ?_⟩
  obtain ⟨w', rfl, h14, q⟩ := h
  exact ⟨_, rfl, w', rfl, lc_all (ρ := [none]) rowW rowW w' _ (fun y hy Y h => ⟨_, rfl, h⟩) rfl (small (by omega)) fun ρ' => q⟩
end K61

set_option linter.all false
/-! how many dyeings there are, by parts -/
namespace Wy
section
variable {α β : Type}
end
/-! polynomials -/
/-! parts -/
/-! dyeings -/
theorem getD_set {α : Type} (l : List α) (x d : α) (i j : Nat) : (l.set i x).getD j d = if i = j ∧ i < l.length then x else l.getD j d := by
  simp only [List.getD_eq_getElem?_getD, List.getElem?_set]
  by_cases e : i = j
  · subst e
    by_cases h : i < l.length
    · rw [if_pos rfl, if_pos h, if_pos ⟨rfl, h⟩]; rfl
    · rw [if_pos rfl, if_neg h, if_neg (fun z => h z.2), List.getElem?_eq_none (by omega)]
  · rw [if_neg e, if_neg (fun z => e z.1)]
/-! the counts -/
/-! the highest places -/
/-! how many have all parts single, or all but two points -/
/-! sizes -/
end Wy

set_option Elab.async false
set_option linter.all false
set_option maxRecDepth 100000
set_option maxHeartbeats 4000000
namespace K61
open PySem L2 Wb
open Wy
def spAtMost : DSp := fun ds P => ∃ (w : W) (m : Int), ds = [.web w, .int m] ∧ (w.length : Int) ≤ m ∧ P .non
theorem ok_need_at_most {P : Program} {w : World} {mg : Str → Option Value} {base : Heap} {Z : DC} (T : Txt Z mg) : FnOk P w Z.K mg base CX0 2 T.d_need_at_most.f T.d_need_at_most.fd ["web", "most"] (liftSp Z spAtMost) := by
  have g_Web_many := ok_Web_many (P := P) (w := w) (base := base) T
  have nd := sc_need_at_most.nd
  refine fn_data T.d_need_at_most.F sc_need_at_most [0, 0] (by decide) (fun ds R h => by obtain ⟨_, _, rfl, _⟩ := h; rfl) (fun cdv A outer s H E ds R hr h => ?_)
  have hu := hr.units
  refine ⟨_, (dss_one (ds_if (dt_cmp od_gt (de_meth0 T.W (de_var 0) T.m_many.m g_Web_many (hr.mono (by decide)) T.m_many.b) (de_var 1) (nomark _)) (dss_one ds_never) dss_nil)), ?_⟩
  obtain ⟨w', m, rfl, hm, q⟩ := h
  refine ⟨_, rfl, w', rfl, w', rfl, _, rfl, _, rfl, ?_⟩
  exact iteN (decide_eq_false (by omega)) ⟨rfl, q⟩
theorem cutD_drop {α : Type} (l : List α) (k : Nat) (h : k ≤ l.length) : cutD l (some (k : Int)) none = l.drop k := by
  unfold cutD
  have e1 : HT.sIx l.length 0 (some (k : Int)) = k := by
    simp only [HT.sIx]
    split <;> omega
  have e2 : HT.sIx l.length l.length none = l.length := rfl
  rw [e1, e2]
  exact List.take_of_length_le (by simp)
def intsD (l : List Int) : List D := l.map D.int
theorem intsD_len (l : List Int) : (intsD l).length = l.length := List.length_map _
theorem set_cut {α : Type} (l : List α) (k : Nat) (x : α) (h : k < l.length) : l.take k ++ [x] ++ l.drop (k + 1) = l.set k x := by
  rw [List.set_eq_take_append_cons_drop, if_pos h]; simp
theorem modOk (a b : Int) (h : 0 < b) : 0 ≤ a % b ∧ a % b < b := ⟨Int.emod_nonneg _ (by omega), Int.emod_lt_of_pos _ h⟩
theorem for_rng0 {g : DTG} {tb : DTS} {E : DEnds} {n : Nat} {ρ : DN} (I : Nat → DN → Prop) (h0 : I 0 ρ) (hs : ∀ (j : Nat) (ρ : DN), j < n → I j ρ → ∀ A : DN → Prop, (∀ ρ, I (j + 1) ρ → A ρ) → g (natD j) ρ fun ρ1 => tb { nx := A, ct := A, bk := E.nx, rt := E.rt } ρ1)
    (he : ∀ ρ, I n ρ → E.nx ρ) : forW g tb E (rangeD 0 n) ρ := for_rng I h0 (fun j ρ hj h A hA => by
  have := hs j ρ hj h A hA
  unfold natD at this
  rw [Int.zero_add]; exact this) he
end K61

set_option linter.all false
/-! dyeings from lists: search and papers -/
namespace Ws
open Wb
abbrev Dy := List (Option Int)
def at0 (dy : Dy) (p : Nat) : Option Int := dy.getD p none
def lst (ls : List (List Int)) (p : Nat) : List Int := ls.getD p []
def left (w : W) (ls : List (List Int)) (dy : Dy) (p : Nat) : List Int := (lst ls p).filter fun d => !decide (some d ∈ (row w p).map fun q => at0 dy q)
/-- each point that is dyed has a dye of its list, and none of its neighbours has it -/
def Ok (w : W) (ls : List (List Int)) (dy : Dy) : Prop := dy.length = w.length ∧ ∀ p d, at0 dy p = some d → d ∈ lst ls p ∧ ∀ q ∈ row w p, at0 dy q ≠ some d
def Full (w : W) (dy : Dy) : Prop := ∀ p, p < w.length → at0 dy p ≠ none
theorem at_set {dy : Dy} {p q : Nat} {d : Int} (h : p < dy.length) : at0 (dy.set p (some d)) q = if p = q then some d else at0 dy q := by
  unfold at0
  rw [Wy.getD_set]
  by_cases e : p = q
  · rw [if_pos ⟨e, h⟩, if_pos e]
  · rw [if_neg (fun z => e z.1), if_neg e]
theorem mem_left {w : W} {ls : List (List Int)} {dy : Dy} {p : Nat} {d : Int} : d ∈ left w ls dy p ↔ d ∈ lst ls p ∧ ∀ q ∈ row w p, at0 dy q ≠ some d := by
  unfold left
  rw [List.mem_filter]
  simp only [Bool.not_eq_true', decide_eq_false_iff_not, List.mem_map, not_exists, not_and]
theorem Ok.put {w : W} {ls : List (List Int)} {dy : Dy} {p : Nat} {d : Int} (g : Good w) (o : Ok w ls dy) (hp : p < w.length) (hn : at0 dy p = none) (hd : d ∈ left w ls dy p) : Ok w ls (dy.set p (some d)) := by
  obtain ⟨h1, h2⟩ := mem_left.mp hd
  have hl : p < dy.length := by rw [o.1]; exact hp
  refine ⟨by rw [List.length_set]; exact o.1, fun q e hq => ?_⟩
  rw [at_set hl] at hq
  by_cases e1 : p = q
  · rw [if_pos e1] at hq
    cases hq
    subst e1
    refine ⟨h1, fun r hr => ?_⟩
    rw [at_set hl]
    by_cases e2 : p = r
    · subst e2; exact absurd hr (g.irr p)
    · rw [if_neg e2]; exact h2 r hr
  · rw [if_neg e1] at hq
    obtain ⟨h3, h4⟩ := o.2 q e hq
    refine ⟨h3, fun r hr => ?_⟩
    rw [at_set hl]
    by_cases e2 : p = r
    · subst e2
      rw [if_pos rfl]
      intro z
      cases z
      exact h2 q (g.sym _ _ hr) hq
    · rw [if_neg e2]; exact h4 r hr
def und (dy : Dy) : Nat := dy.countP fun o => o.isNone
theorem und_set {dy : Dy} {p : Nat} {d : Int} (hp : p < dy.length) (hn : at0 dy p = none) : und (dy.set p (some d)) + 1 = und dy := by
  unfold at0 at hn
  unfold und
  rw [List.getD_eq_getElem?_getD, List.getElem?_eq_getElem hp] at hn
  have hn : dy[p] = none := hn
  rw [List.countP_set hp, hn]
  have : 0 < dy.countP fun o => o.isNone := List.countP_pos_iff.mpr ⟨dy[p], List.getElem_mem hp, by rw [hn]; rfl⟩
  simp
  omega
theorem und_zero {w : W} {dy : Dy} (hl : dy.length = w.length) (h : ∀ p, p < w.length → at0 dy p ≠ none) : und dy = 0 := by
  unfold und
  rw [List.countP_eq_zero]
  intro o ho
  obtain ⟨i, hi⟩ := List.getElem?_of_mem ho
  have hlt := (List.getElem?_eq_some_iff.mp hi).1
  have := h i (by omega)
  unfold at0 at this
  rw [List.getD_eq_getElem?_getD, hi] at this
  cases o with
  | none => exact absurd rfl this
  | some _ => simp
/-- papers -/
inductive Pap where
  | full (p : Nat)
  | cho (p : Nat) (ps : List (Option Pap))
end Ws

set_option Elab.async false
set_option linter.all false
set_option maxRecDepth 100000
set_option maxHeartbeats 4000000
namespace L2
open PySem PySem.Spec PyProof.Rows
/-! ### min of a list of tuples of ints -/
section
variable {pr : Program} {wd : World} {A : Around} {R : Result → Shared → Prop} {It0 : Addr} {fps wrs : List Addr} {n : Nat} {Pv : Nat → Value → Prop} {Sv : Nat → Heap → Prop}
/-- two things are compared in a heap of which T holds -/
def CmpIn (pr : Program) (wd : World) (A : Around) (T : Heap → Prop) (Pv : Nat → Value → Prop) (bt : Nat → Nat → Bool) : Prop :=
  ∀ i j u v (s : Shared) (Q : Value → Shared → Prop) (E : Value → Shared → Prop), T s.heap → Pv i u → Pv j v → Q (.bool (bt i j)) s → wpAny (model pr wd) A (richCompare .Lt u v) Q E s
theorem min_turns (wk : Walks pr wd A.in1 It0 fps wrs n Pv Sv) (bt : Nat → Nat → Bool) (T : Heap → Prop) (cmp : CmpIn pr wd A.in1 T Pv bt) (L : Addr) (nL : L ∉ fps)
    (kT : ∀ h h' : Heap, T h → (∀ b o, b ∉ wrs → b ≠ L → h.get? b = some o → h'.get? b = some o) → T h') :
    ∀ (d j : Nat) (s : Shared) (best : Value) (c : Nat), n - (j + 1) = d → j + 1 ≤ n → Sv (j + 1) s.heap → T s.heap → Pv (argBest bt j) best →
    s.heap.get? L = some { cls := .type "list", dict := none, data := .seq #[best, best] c, slots := #[] } →
    (∀ v h' t, Pv (argBest bt (n - 1)) v → (∀ b o, b ∉ wrs → b ≠ L → s.heap.get? b = some o → h'.get? b = some o) → R (.ok (.ret v)) { s with heap := h', toks := t }) →
    codeAny (model pr wd) A (.builtin "min.loop" ⟨[.ref It0, .none, .ref L], []⟩) R s := by
  have nW : L ∉ wrs := fun h => nL (wk.sub _ h)
  have nm : (toString "min" ++ toString ".loop" : String) = "min.loop" := by decide
  intro d
  induction d with
  | zero =>
    intro j s best c hd hj q0 t0 pb hL fin
    have en : j + 1 = n := by omega
    refine codeAny_builtin PySem.F.entry_min_loop ?_
    rw [Around.under_plainId PySem.F.plain_min_loop _]
    refine wpAny_bind (wpAny_seqItems hL rfl ?_)
    refine wpAny_bind (wpAny_tryCatch (wk.done s _ _ (en ▸ q0) fun h1 t1 k1 => ?_))
    show wpAny _ A.in1 ((updateSeq L (fun _ => #[])) >>= _) _ _ _
    refine wpAny_bind ?_
    refine wpAny_updateSeq (k1 L _ nW hL) rfl (wpAny_bind (wpAny_letGo (wpAny_pure ?_)))
    exact fin best _ t1 (by rw [← en]; exact pb) fun b o nb nl e => (Heap.get?_update_other _ _ (Ne.symm nl)).trans (k1 b o nb e)
  | succ d ih =>
    intro j s best c hd hj q0 t0 pb hL fin
    have lt : j + 1 < n := by omega
    refine codeAny_builtin PySem.F.entry_min_loop ?_
    rw [Around.under_plainId PySem.F.plain_min_loop _]
    refine wpAny_bind (wpAny_seqItems hL rfl ?_)
    refine wpAny_bind (wpAny_tryCatch (wk.item (j + 1) s _ _ lt q0 fun v h1 t1 pv q1 k1 => ?_))
    have hL1 := k1 L _ nW hL
    have tt1 : T h1 := kT _ _ t0 fun b o nb _ e => k1 b o nb e
    show wpAny _ A.in1 ((tryCatch (holding [v, v] (richCompare .Lt v best >>= _)) _) >>= _) _ _ _
    refine wpAny_bind (wpAny_tryCatch (wpAny_holding (wpAny_bind (cmp (j + 1) (argBest bt j) v best _ _ _ tt1 pv pb ?_))))
    refine wpAny_bind (wpAny_holding (wpAny_truthy_bool ?_))
    refine wpAny_bind (wpAny_letGo (wpAny_pure ?_))
    cases eb : bt (j + 1) (argBest bt j) with
    | true =>
      simp only [if_true]
      refine wpAny_bind ?_
      refine wpAny_updateSeq hL1 rfl (wpAny_bind (wpAny_letGo ?_))
      rw [nm]
      refine wpAny_pure ⟨plainId_quiet PySem.F.plain_min_loop _, ih (j + 1) _ v _ (by omega) lt (wk.frame _ _ _ q1 fun b hb o e => ?_) (kT _ _ tt1 fun b o _ nl e => ?_) ?_ (Heap.get?_update_self _ hL1 rfl) fun v2 h2 t2 p2 k2 => ?_⟩
      · exact (Heap.get?_update_other _ _ (fun z : L = b => nL (z ▸ hb))).trans e
      · exact (Heap.get?_update_other _ _ (Ne.symm nl)).trans e
      · simp only [argBest, eb, if_true]; exact pv
      · exact fin v2 h2 t2 p2 fun b o nb nl e => k2 b o nb nl ((Heap.get?_update_other _ _ (Ne.symm nl)).trans (k1 b o nb e))
    | false =>
      simp only [Bool.false_eq_true, if_false]
      refine wpAny_bind (wpAny_letGo ?_)
      rw [nm]
      refine wpAny_pure ⟨plainId_quiet PySem.F.plain_min_loop _, ih (j + 1) _ best c (by omega) lt q1 tt1 ?_ hL1 fun v2 h2 t2 p2 k2 => ?_⟩
      · simp only [argBest, eb, Bool.false_eq_true, if_false]; exact pb
      · exact fin v2 h2 t2 p2 fun b o nb nl e => k2 b o nb nl (k1 b o nb e)
theorem min_first (wk : Walks pr wd A.in1 It0 fps wrs n Pv Sv) (bt : Nat → Nat → Bool) (T : Heap → Prop) (cmp : CmpIn pr wd A.in1 T Pv bt) (L : Addr) (nL : L ∉ fps)
    (kT : ∀ h h' : Heap, T h → (∀ b o, b ∉ wrs → b ≠ L → h.get? b = some o → h'.get? b = some o) → T h') (hn : 0 < n) {s : Shared} {c : Nat} (q0 : Sv 0 s.heap) (t0 : T s.heap)
    (hL : s.heap.get? L = some { cls := .type "list", dict := none, data := .seq #[] c, slots := #[] })
    (fin : ∀ v h' t, Pv (argBest bt (n - 1)) v → (∀ b o, b ∉ wrs → b ≠ L → s.heap.get? b = some o → h'.get? b = some o) → R (.ok (.ret v)) { s with heap := h', toks := t }) :
    codeAny (model pr wd) A (.builtin "min.loop" ⟨[.ref It0, .none, .ref L], []⟩) R s := by
  have nW : L ∉ wrs := fun h => nL (wk.sub _ h)
  have nm : (toString "min" ++ toString ".loop" : String) = "min.loop" := by decide
  refine codeAny_builtin PySem.F.entry_min_loop ?_
  rw [Around.under_plainId PySem.F.plain_min_loop _]
  refine wpAny_bind (wpAny_seqItems hL rfl ?_)
  refine wpAny_bind (wpAny_tryCatch (wk.item 0 s _ _ hn q0 fun v h1 t1 pv q1 k1 => ?_))
  have hL1 := k1 L _ nW hL
  have tt1 : T h1 := kT _ _ t0 fun b o nb _ e => k1 b o nb e
  show wpAny _ A.in1 (updateSeq L (fun _ => #[v, v]) >>= _) _ _ _
  refine wpAny_bind ?_
  refine wpAny_updateSeq hL1 rfl ?_
  rw [nm]
  refine wpAny_pure ⟨plainId_quiet PySem.F.plain_min_loop _, min_turns wk bt T cmp L nL kT _ 0 _ v _ rfl hn (wk.frame _ _ _ q1 fun b hb o e => ?_) (kT _ _ tt1 fun b o _ nl e => ?_) pv (Heap.get?_update_self _ hL1 rfl) fun v2 h2 t2 p2 k2 => ?_⟩
  · exact (Heap.get?_update_other _ _ (fun z : L = b => nL (z ▸ hb))).trans e
  · exact (Heap.get?_update_other _ _ (Ne.symm nl)).trans e
  · exact fin v2 h2 t2 p2 fun b o nb nl e => k2 b o nb nl ((Heap.get?_update_other _ _ (Ne.symm nl)).trans (k1 b o nb e))
end
end L2

set_option Elab.async false
set_option linter.all false
set_option maxRecDepth 100000
set_option maxHeartbeats 4000000
namespace L2
open PySem PySem.Spec PyProof.Rows
/-! ### min(xs) of a list of tuples of ints, over the layer -/
section
variable {pr : Program} {wd : World} {A : Around} {E : Value → Shared → Prop} {s : Shared}
theorem min_call {x : Value} {Q : Value → Shared → Prop} (T : Heap → Prop)
    (h : wpAny (model pr wd) A.in1 (pyIter x) (fun it s2 => ∃ It0 fps wrs n Pv Sv bt, it = .ref It0 ∧ Walks pr wd A.in1 It0 fps wrs n Pv Sv ∧ Sv 0 s2.heap ∧ (∀ b ∈ fps, b < s2.heap.objs.size) ∧ 0 < n ∧ CmpIn pr wd A.in1 T Pv bt ∧ T s2.heap ∧
      (∀ h h' : Heap, T h → (∀ b o, b ∉ wrs → b ≠ s2.heap.objs.size → h.get? b = some o → h'.get? b = some o) → T h') ∧
      ∀ v h' tk, Pv (argBest bt (n - 1)) v → (∀ b o, b ∉ wrs → s2.heap.get? b = some o → h'.get? b = some o) → Q v { s2 with heap := h', toks := tk }) E s) :
    wpAny (model pr wd) A (call (.builtin "min") [x]) Q E s := by
  have nm : (toString "min" ++ toString ".loop" : String) = "min.loop" := by decide
  refine call_function_tree PySem.F.kind_min PySem.F.plain_min PySem.F.entry_min (PySem.F.args_min1 _) ?_
  show wpAny _ A.in1 (Builtin.Builtins.bindParams "min" ["key", "default"] 0 ⟨[], []⟩ >>= _) _ _ s
  refine wpAny_bind (wpAny_of_eq (rfl : Builtin.Builtins.bindParams "min" ["key", "default"] 0 ⟨[], []⟩ = pure [none, none]) ?_)
  refine wpAny_bind (wpAny_pure ?_)
  refine wpAny_bind (wpAny_mono h (fun it s2 h2 => ?_) fun _ _ e => e)
  obtain ⟨It0, fps, wrs, n, Pv, Sv, bt, rfl, wk, q0, hf, hn, cmp, t0, kT, hQ⟩ := h2
  refine wpAny_bind (wpAny_newObj_type ?_)
  have nL : s2.heap.objs.size ∉ fps := fun hm => Nat.lt_irrefl _ (hf _ hm)
  rw [nm]
  refine wpAny_pure ⟨plainId_quiet PySem.F.plain_min_loop _, min_first wk bt T cmp s2.heap.objs.size nL kT hn (wk.frame _ _ _ q0 fun b _ o e => Heap.get?_push_of_some _ e) (kT _ _ t0 fun b o _ _ e => Heap.get?_push_of_some _ e) (Heap.get?_push_size _ rfl) fun v h' tk hP hk => ?_⟩
  exact hQ v h' tk hP fun b o hbw e => hk b o hbw (Nat.ne_of_lt (Heap.lt_size e)) (Heap.get?_push_of_some _ e)
end
theorem argBest_le (bt : Nat → Nat → Bool) : ∀ k, argBest bt k ≤ k
  | 0 => Nat.le_refl _
  | k + 1 => by
    unfold argBest
    split
    · exact Nat.le_refl _
    · exact Nat.le_succ_of_le (argBest_le bt k)
theorem argBest_min {f : Nat → List Int} : ∀ k i, i ≤ k → HT.lexLt (f i) (f (argBest (fun i j => HT.lexLt (f i) (f j)) k)) = false
  | 0, i, h => by
    obtain rfl : i = 0 := by omega
    exact lex_irr _
  | k + 1, i, h => by
    have ih := argBest_min (f := f) k
    unfold argBest
    by_cases c : HT.lexLt (f (k + 1)) (f (argBest (fun i j => HT.lexLt (f i) (f j)) k)) = true
    · rw [if_pos c]
      by_cases z : i = k + 1
      · subst z; exact lex_irr _
      · have := ih i (by omega)
        cases e : HT.lexLt (f i) (f (k + 1)) with
        | false => rfl
        | true => rw [lex_tr _ _ _ e c] at this; cases this
    · rw [if_neg c]
      by_cases z : i = k + 1
      · subst z; exact Bool.eq_false_iff.mpr c
      · exact ih i (by omega)
section
variable {X : Cx} {Z : DC}
theorem call_min1 (hc : X.calm = true) (hu : X.A.units + 64 < cLine) : CallR X (.builtin "min") (fun xs H Q => ∃ (p : Addr) (L : List (Addr × List Int)), xs = [.ref p] ∧ H p = some (.lst (L.map fun e => V.ref e.1)) ∧ (∀ e ∈ L, H e.1 = some (.tup (e.2.map V.int))) ∧ L ≠ [] ∧
    ∀ e ∈ L, (∀ f ∈ L, HT.lexLt f.2 e.2 = false) → Q (.ref e.1) H) := by
  intro pins s σ H xs us Q I rv h
  obtain ⟨p, L, rfl, hp, hL, hne0, q⟩ := h
  obtain ⟨u, rfl, ru⟩ := rv.one
  cases ru
  obtain ⟨its, r, pl, hz⟩ := I.list (SqL.of hp)
  have hl := r.length
  rw [List.length_map] at hl
  have hpos : 0 < L.length := List.length_pos_iff.mpr hne0
  have itv : ∀ i : Nat, (hi : i < L.length) → its[i]? = some (.ref L[i].1) := fun i hi => by
    obtain ⟨w, hw, rw'⟩ := r.get (i := i) (x := .ref L[i].1) (by rw [List.getElem?_map, List.getElem?_eq_getElem hi]; rfl)
    cases rw'
    exact hw
  refine min_call (fun h => ∀ b o, s.heap.get? b = some o → h.get? b = some o) (wpAny_pyIter_list pl.isList ?_)
  have hne : p ≠ s.heap.objs.size := by
    obtain ⟨o, ho, _⟩ := pl.isList
    exact Nat.ne_of_lt (Heap.lt_size ho)
  let f : Nat → List Int := fun i => (L.getD i (0, [])).2
  refine ⟨_, _, _, its.toArray.size, _, _, fun i j => HT.lexLt (f i) (f j), rfl, Walks.list (show X.A.in1.handled = none from I.ok.hd hc) s.heap.objs.size p hne its.toArray, ⟨⟨_, Heap.get?_push_size _ rfl, rfl, rfl⟩, pl.isList.push _⟩, ?_, ?_, ?_, fun b o e => Heap.get?_push_of_some _ e, ?_, ?_⟩
  · intro b hb
    have : b = s.heap.objs.size ∨ b = p := by simpa using hb
    obtain ⟨o, ho, _⟩ := pl.isList
    have lt := Heap.lt_size ho
    have e : (s.heap.push { cls := .type "list_iterator", data := .fields #[.ref p, .int 0 0] }).objs.size = s.heap.objs.size + 1 := by simp [Heap.push]
    rcases this with rfl | rfl
    · exact Nat.lt_of_lt_of_eq (Nat.lt_succ_self _) e.symm
    · exact Nat.lt_of_lt_of_eq (Nat.lt_succ_of_lt lt) e.symm
  · rw [List.size_toArray]; omega
  · intro i j u v s' Q' E' hT hu' hv' hq
    have hu2 : its[i]? = some u := by simpa using hu'
    have hv2 : its[j]? = some v := by simpa using hv'
    have hi : i < L.length := by have := (List.getElem?_eq_some_iff.mp hu2).1; omega
    have hj : j < L.length := by have := (List.getElem?_eq_some_iff.mp hv2).1; omega
    rw [itv i hi] at hu2
    rw [itv j hj] at hv2
    cases hu2
    cases hv2
    obtain ⟨t1, r1, p1, _⟩ := I.tuple (SqT.of (hL L[i] (List.getElem_mem hi)))
    obtain ⟨t2, r2, p2, _⟩ := I.tuple (SqT.of (hL L[j] (List.getElem_mem hj)))
    obtain ⟨o1, g1, c1⟩ := p1
    obtain ⟨o2, g2, c2⟩ := p2
    have i1 : IntsAre t1.toArray.toList L[i].2 := intsAre_of r1
    have i2 : IntsAre t2.toArray.toList L[j].2 := intsAre_of r2
    have ef : ∀ k, (hk : k < L.length) → f k = L[k].2 := fun k hk => by
      show (L.getD k (0, [])).2 = _
      rw [List.getD_eq_getElem?_getD, List.getElem?_eq_getElem hk]; rfl
    have hq' : Q' (.bool (HT.lexLt L[i].2 L[j].2)) s' := by rw [← ef i hi, ← ef j hj]; exact hq
    exact HT.lt_tupInts (A := X.A.in1) ⟨o1, hT _ _ g1, c1⟩ ⟨o2, hT _ _ g2, c2⟩ i1 i2 (by simp only [Around.in1_units]; omega) hq'
  · intro h h' hT hk b o e
    have lt := Heap.lt_size e
    refine hk b o ?_ ?_ (hT b o e)
    · intro hm
      have : b = s.heap.objs.size := by simpa using hm
      exact Nat.ne_of_lt lt this
    · simp only [Heap.push, Array.size_push]
      exact Nat.ne_of_lt (Nat.lt_succ_of_lt lt)
  · intro v h' tk hP kk
    have kept : ∀ b o, s.heap.get? b = some o → h'.get? b = some o := fun b o e => kk b o (by simp; exact Nat.ne_of_lt (Heap.lt_size e)) (Heap.get?_push_of_some _ e)
    have hk := argBest_le (fun i j => HT.lexLt (f i) (f j)) (its.toArray.size - 1)
    generalize hb : argBest (fun i j => HT.lexLt (f i) (f j)) (its.toArray.size - 1) = k at hP hk
    rw [List.size_toArray] at hk
    have hkl : k < L.length := by omega
    have hv2 : its[k]? = some v := by simpa using hP
    rw [itv k hkl] at hv2
    cases hv2
    refine ⟨.ref L[k].1, H, I.kept kept, rfl, q L[k] (List.getElem_mem hkl) fun e he => ?_⟩
    obtain ⟨i, hi, rfl⟩ := List.mem_iff_getElem.mp he
    have := argBest_min (f := f) (its.toArray.size - 1) i (by rw [List.size_toArray]; omega)
    rw [hb] at this
    have ef : ∀ k, (hk : k < L.length) → f k = L[k].2 := fun k hk => by
      show (L.getD k (0, [])).2 = _
      rw [List.getD_eq_getElem?_getD, List.getElem?_eq_getElem hk]; rfl
    rw [ef i hi, ef k hkl] at this
    exact this
def tupI (l : List Int) : D := .tup (l.map D.int)
def bMin1 : DSp := fun ds P => ∃ ls : List (List Int), ds = [.lst (ls.map tupI)] ∧ ls ≠ [] ∧ ∀ m ∈ ls, (∀ n ∈ ls, HT.lexLt n m = false) → P (tupI m)
theorem dv_tupIs {G : Hp} : ∀ {vs : List V} {ns : List (List Int)}, DvAll Z G vs (ns.map tupI) → ∃ L : List (Addr × List Int), vs = L.map (fun e => V.ref e.1) ∧ L.map (·.2) = ns ∧ ∀ e ∈ L, G e.1 = some (.tup (e.2.map V.int))
  | vs, [], h => by rw [h.ofNil]; exact ⟨[], rfl, rfl, fun p hp => by cases hp⟩
  | vs, n :: ns, h => by
    obtain ⟨v, us, rfl, a, as⟩ := h.ofCons
    obtain ⟨L, rfl, h2, h3⟩ := dv_tupIs as
    obtain ⟨p, xs, rfl, hp, e⟩ := a.ofTup
    rw [dv_ints e] at hp
    refine ⟨(p, n) :: L, rfl, by rw [← h2]; rfl, fun q hq => ?_⟩
    rcases List.mem_cons.mp hq with rfl | hq
    · exact hp
    · exact h3 q hq
theorem cd_min1 (hc : X.calm = true) (hu : X.A.units + 64 < cLine) : CallR X (.builtin "min") (liftC Z bMin1) := by
  refine (call_min1 hc hu).imp ?_
  rintro xs H Q ⟨G, ds, P, s, dv, ⟨ls, rfl, hne, hp⟩, q⟩
  obtain ⟨v, rfl, a⟩ := dv.ofOne
  obtain ⟨p, vs, rfl, h, e⟩ := a.ofLst
  obtain ⟨L, rfl, rfl, h3⟩ := dv_tupIs e
  refine ⟨p, L, rfl, s _ _ h, fun x hx => s _ _ (h3 x hx), fun z => hne (by rw [z]; rfl), fun x hx hm => ?_⟩
  exact q _ (hp x.2 (List.mem_map_of_mem hx) fun n hn => by
    obtain ⟨y, hy, rfl⟩ := List.mem_map.mp hn
    exact hm y hy) _ G H (.refl s) (.tup (h3 x hx) (.ints _))
end
end L2

set_option Elab.async false
set_option linter.all false
set_option maxRecDepth 100000
set_option maxHeartbeats 1000000
namespace HT
open PySem PyProof.Rows
open PySem.SeqAt
open PySem.AutoSeq1 (wpAny_loadPart')
open PySem.MeetsSeq PySem.MeetsSeq2 PySem.MeetsSeq3
section
variable {prog : Program} {w : World} {A : Around} {E : Value → Shared → Prop} {s : Shared}
end
end HT
namespace L2
open PySem PySem.Spec PyProof.Rows
section
variable {Z : DC} {X : Cx} {e : Expr} {te : DTE} {pos p2 : Pos} {lo hi : Option Expr} {tl th : DTO}
theorem fn_false {P : Program} {w : World} {K : PySem.W.Frag} {mg : Str → Option Value} {base : Heap} {f : Addr} {fd : FuncData} {ps : List Str} : FnOk P w K mg base CX0 0 f fd ps (liftSp Z (fun _ _ => False)) :=
  ⟨fun vs H Q E h => let ⟨_, _, _, _, _, z, _⟩ := h; z.elim, fun A outer s H args us vs Q E _ _ _ _ h => let ⟨_, _, _, _, _, z, _⟩ := h; z.elim⟩
end
end L2





set_option linter.all false
/-! the search, to the letter -/
namespace Ws
open Wb
def IsNext (w : W) (ls : List (List Int)) (dy : Dy) (p : Nat) : Prop := p < w.length ∧ at0 dy p = none ∧ ∀ q, q < w.length → at0 dy q = none → (left w ls dy p).length < (left w ls dy q).length ∨ ((left w ls dy p).length = (left w ls dy q).length ∧ p ≤ q)
theorem IsNext.uniq {w : W} {ls : List (List Int)} {dy : Dy} {p q : Nat} (a : IsNext w ls dy p) (b : IsNext w ls dy q) : p = q := by
  have h1 := a.2.2 q b.1 b.2.1
  have h2 := b.2.2 p a.1 a.2.1
  omega
abbrev Res := Dy ⊕ Pap
def Walk (S : Dy → Res → Prop) (w : W) (ls : List (List Int)) (dy : Dy) (p : Nat) : List Int → List (Option Pap) → Res → Prop
  | [], acc, r => r = .inr (.cho p acc)
  | d :: ds, acc, r => (d ∈ left w ls dy p ∧ ((∃ dz, S (dy.set p (some d)) (.inl dz) ∧ r = .inl dz) ∨ (∃ q, S (dy.set p (some d)) (.inr q) ∧ Walk S w ls dy p ds (acc ++ [some q]) r))) ∨ (d ∉ left w ls dy p ∧ Walk S w ls dy p ds (acc ++ [none]) r)
def Srch (w : W) (ls : List (List Int)) : Nat → Dy → Res → Prop
  | 0, dy, r => r = .inl dy
  | m + 1, dy, r => ∃ p, IsNext w ls dy p ∧ ((left w ls dy p = [] ∧ r = .inr (.full p)) ∨ (left w ls dy p ≠ [] ∧ Walk (Srch w ls m) w ls dy p (lst ls p) [] r))
theorem Walk.det {S : Dy → Res → Prop} {w : W} {ls : List (List Int)} {dy : Dy} {p : Nat} (hS : ∀ dz r r', S dz r → S dz r' → r = r') : ∀ {ds : List Int} {acc : List (Option Pap)} {r r' : Res}, Walk S w ls dy p ds acc r → Walk S w ls dy p ds acc r' → r = r'
  | [], acc, r, r', h, h' => by
    have h : r = _ := h
    have h' : r' = _ := h'
    rw [h, h']
  | d :: ds, acc, r, r', h, h' => by
    rcases h with ⟨hd, h⟩ | ⟨hd, h⟩
    · rcases h' with ⟨_, h'⟩ | ⟨hd', _⟩
      · rcases h with ⟨dz, s, rfl⟩ | ⟨q, s, h⟩
        · rcases h' with ⟨dz', s', rfl⟩ | ⟨q', s', h'⟩
          · exact hS _ _ _ s s'
          · cases hS _ _ _ s s'
        · rcases h' with ⟨dz', s', rfl⟩ | ⟨q', s', h'⟩
          · cases hS _ _ _ s s'
          · cases hS _ _ _ s s'
            exact Walk.det hS h h'
      · exact absurd hd hd'
    · rcases h' with ⟨hd', _⟩ | ⟨_, h'⟩
      · exact absurd hd' hd
      · exact Walk.det hS h h'
theorem Srch.det {w : W} {ls : List (List Int)} : ∀ (m : Nat) {dy : Dy} {r r' : Res}, Srch w ls m dy r → Srch w ls m dy r' → r = r'
  | 0, dy, r, r', h, h' => by
    have h : r = _ := h
    have h' : r' = _ := h'
    rw [h, h']
  | m + 1, dy, r, r', ⟨p, hp, h⟩, ⟨p', hp', h'⟩ => by
    have := hp.uniq hp'
    subst this
    rcases h with ⟨e, h⟩ | ⟨e, h⟩
    · rcases h' with ⟨_, h'⟩ | ⟨e', _⟩
      · rw [h, h']
      · exact absurd e e'
    · rcases h' with ⟨e', _⟩ | ⟨_, h'⟩
      · exact absurd e' e
      · exact Walk.det (S := Srch w ls m) (fun dz r r' a b => Srch.det m a b) h h'
/-- what is told as dyed is a whole dyeing -/
theorem Srch.dyed {w : W} {ls : List (List Int)} (g : Good w) : ∀ (m : Nat) {dy dz : Dy}, und dy = m → Ok w ls dy → Srch w ls m dy (.inl dz) → Ok w ls dz ∧ Full w dz
  | 0, dy, dz, hu, ok, h => by
    have h : (Sum.inl dz : Res) = .inl dy := h
    cases h
    refine ⟨ok, fun p hp hn => ?_⟩
    have := und_set (d := 0) (p := p) (by rw [ok.1]; exact hp) hn
    omega
  | m + 1, dy, dz, hu, ok, ⟨p, hp, h⟩ => by
    rcases h with ⟨_, h⟩ | ⟨_, h⟩
    · cases h
    have key : ∀ (ds : List Int) (acc : List (Option Pap)), Walk (Srch w ls m) w ls dy p ds acc (.inl dz) → Ok w ls dz ∧ Full w dz := by
      intro ds
      induction ds with
      | nil => intro acc h; cases (show (Sum.inl dz : Res) = .inr _ from h)
      | cons d ds ih =>
        intro acc h
        rcases h with ⟨hd, ⟨dz', s, e⟩ | ⟨q, s, h⟩⟩ | ⟨hd, h⟩
        · cases e
          have := und_set (d := d) (p := p) (by rw [ok.1]; exact hp.1) hp.2.1
          exact Srch.dyed g m (by omega) (ok.put g hp.1 hp.2.1 hd) s
        · exact ih _ h
        · exact ih _ h
    exact key _ _ h
/-- papers no deeper than k, no wider than 100 -/
def PD : Nat → Pap → Prop
  | 0, _ => False
  | _ + 1, .full _ => True
  | k + 1, .cho _ ps => ps.length ≤ 100 ∧ ∀ q, some q ∈ ps → PD k q
theorem Srch.deep {w : W} {ls : List (List Int)} (lr : ∀ p, (lst ls p).length ≤ 100) : ∀ (m : Nat) {dy : Dy} {q : Pap}, Srch w ls m dy (.inr q) → PD m q
  | 0, dy, q, h => by cases (show (Sum.inr q : Res) = .inl _ from h)
  | m + 1, dy, q, ⟨p, hp, h⟩ => by
    rcases h with ⟨_, h⟩ | ⟨_, h⟩
    · cases h; trivial
    have key : ∀ (ds : List Int) (acc : List (Option Pap)), acc.length + ds.length ≤ 100 → (∀ q, some q ∈ acc → PD m q) → Walk (Srch w ls m) w ls dy p ds acc (.inr q) → PD (m + 1) q := by
      intro ds
      induction ds with
      | nil =>
        intro acc hl ha h
        cases (show (Sum.inr q : Res) = .inr _ from h)
        exact ⟨by simpa using hl, ha⟩
      | cons d ds ih =>
        intro acc hl ha h
        rw [List.length_cons] at hl
        rcases h with ⟨hd, ⟨dz', s, e⟩ | ⟨q', s, h⟩⟩ | ⟨hd, h⟩
        · cases e
        · refine ih _ (by rw [List.length_append]; simp; omega) (fun q2 h2 => ?_) h
          rcases List.mem_append.mp h2 with h2 | h2
          · exact ha q2 h2
          · cases List.mem_singleton.mp h2
            exact Srch.deep lr m s
        · refine ih _ (by rw [List.length_append]; simp; omega) (fun q2 h2 => ?_) h
          rcases List.mem_append.mp h2 with h2 | h2
          · exact ha q2 h2
          · cases List.mem_singleton.mp h2
    exact key _ [] (by simpa using lr p) (fun q h => by cases h) h
end Ws




set_option Elab.async false
set_option linter.all false
set_option maxRecDepth 100000
set_option maxHeartbeats 4000000
namespace L2
open PySem PySem.Spec PyProof.Rows
/-! ### new lists of plain things, read off owned ones, put into an owned list -/
section
variable {Z : DC} {X : Cx} {md : List Nat} {rn : Nat} {a b e k : Expr} {pos : Pos} {ta tb te tk : DTE} {t : DTF}
def fAdd (ta tb : DTE) : DTF := fun ρ P => ta ρ fun d1 => ∃ l1, d1 = .lst l1 ∧ tb ρ fun d2 => ∃ l2, d2 = .lst l2 ∧ l1.length + l2.length ≤ sizeLine ∧ P (l1 ++ l2)
theorem df_add (ha : DE Z X a ta) (hb : DE Z X b tb) : DF Z X 1 (.BinOp a .Add b pos) (fAdd ta tb) := by
  refine (pe_op op_cat ha hb).imp ?_
  rintro σ H Q ⟨G, ρ, P, s, e, h, q⟩
  refine ⟨G, ρ, _, s, e, h, ?_⟩
  rintro _ ⟨l1, rfl, h⟩ v1 G1 H1 x1 dv1
  refine ⟨G1, ρ, _, x1.sub, e.mono x1.gg, h, ?_⟩
  rintro _ ⟨l2, rfl, hz, hp⟩ v2 G2 H2 x2 dv2
  obtain ⟨p1, xs1, rfl, h1, e1⟩ := dv1.ofLst
  obtain ⟨p2, xs2, rfl, h2, e2⟩ := dv2.ofLst
  have e1' := e1.mono x2.gg
  have x := x1.trans x2
  refine ⟨_, _, _, _, rfl, rfl, x2.hh _ _ (x1.sub _ _ h1), x2.sub _ _ h2, by rw [e1.length, e2.length]; exact hz, fun p hp' => ?_⟩
  obtain ⟨o1, o2, o3⟩ := own_new x hp' (e1'.append e2)
  exact q _ hp _ _ _ _ (x.side hp') o1 o2 o3
variable {tg iter elt : Expr} {ifs : List Expr} {scope : Scope} {NC : List Str} {src : List (Option Nat)} {wi : DTI} {g : DTG} {tt : DTT}
theorem df_lc (hc : X.calm = true) (c : CompOk X scope) (hsrc : SrcOk scope X.N src NC) (hi : DI Z X tg iter wi)
    (hg : ∀ ex s H, DG Z (cxC X scope NC ex s H) tg g) (ht : ∀ ex s H, DTs Z (cxC X scope NC ex s H) ifs tt) (he : ∀ ex s H, DE Z (cxC X scope NC ex s H) elt te)
    (hs : ∀ x, foldedSetIterable iter X.env x = pure x := by intro _; rfl) : DF Z X 1 (.ListComp elt [⟨tg, iter, ifs, 0⟩] scope pos) (fLC wi g tt te src) := (pe_lc hc c hsrc hi hg ht he hs).imp liftFLC
variable {B : Bs} {ρ : DN} {σ : St} {H G : Hp} {fp : Nat → List Addr}
end
end L2

set_option Elab.async false
set_option linter.all false
set_option maxRecDepth 100000
set_option maxHeartbeats 4000000
namespace L2
open PySem PySem.Spec PyProof.Rows
/-! ### a slice as a new list; a new list told: the asker's own -/
section
variable {Z : DC} {X : Cx} {md : List Nat} {rn : Nat} {e : Expr} {pos p2 : Pos} {te : DTE} {t : DTF} {lo hi : Option Expr} {tl th : DTO}
def dRetF (t : DTF) : DTS := fun E ρ => t ρ fun ds => E.rt (.lst ds)
theorem ds_retF (he : DF Z X rn e t) : DSt Z X md rn (.Return (some e) pos) (dRetF t) := (ps_ret he).imp fun D σ H ⟨B, ρ, E, ⟨G, fp, S⟩, h, M⟩ => by
  let F : Addr → Prop := fun b => ∃ i, b ∈ fp i
  have s := S.ex.sub
  have x0 : Ext B.G₀ B.H₀ (plus G H F) H := ⟨S.ex.gg.trans (plus_sup s), plus_sub s, S.ex.hh, fun b hb hg => by
    rw [plus_out (fun ⟨i, hi⟩ => hb (S.nw i b hi).1)]; exact S.ex.off b hb hg⟩
  refine ⟨plus G H F, ρ, _, plus_sub s, ⟨S.len, fun i d h => ?_⟩, h, fun ds hd v f G' H' x o nd nw => M.rt _ hd v f G' H' (x0.trans x) o nd fun b hb => ⟨S.ex.hh.free (nw b hb).1, (nw b hb).2⟩⟩
  obtain ⟨v, hv, o⟩ := S.at_ i d h
  exact ⟨v, hv, o.dv (plus_sup s) fun b hb u e => by rw [plus_in ⟨i, hb⟩]; exact e⟩
end
end L2



set_option Elab.async false
set_option linter.all false
set_option maxRecDepth 100000
set_option maxHeartbeats 4000000
namespace L2
open PySem PySem.Spec PyProof.Rows
/-! ### x[::-1] of a list -/
section
variable {X : Cx} {e k : Expr} {te tk : TE} {pos p2 : Pos}
end
section
variable {Z : DC} {X : Cx} {md : List Nat} {rn : Nat} {e e2 k : Expr} {es : List Expr} {pos p2 apos cpos : Pos} {te tk tp : DTE} {t u : DTF}
/-! ### a tuple of two new lists, told: the asker's own -/
/-! ### x = f(..), what is told the asker's own, a tuple too -/
def dNewC (md : List Nat) (i : Nat) (sd : DSp) (t : DTA) : DTS := fun E ρ => t (pureN md ρ) fun as => sd as fun d => E.nx (ρ.set i (some d))
theorem ds_newC (i : Nat) {n : Nat} {x : Str} {pos' : Pos} {sd : DSp} {t : DTA} {k : Nat} {f : Addr} {fd : FuncData} {ps : List Str} {y : Str} {p : Pos} (hN : X.N.Nodup) (F : FnOk X.prog X.w X.K X.mg X.base CX0 k f fd ps (liftSpF Z n sd)) (hr : Room k X.A) (hg : Gl X y) (hmg : X.mg y = some (.ref f)) (hk : PySem.W.keepIn X.K (.ref f) = true) (hb : Binds X.K fd ps [])
    (ha : DA Z X (e :: es) t) (hdb : (y == ("__debug__" : Str)) = false := by decide) (he : starEach (e :: es) X.env = (false, eval e X.env) :: starEach es X.env := by rfl) (hpl : (backTo p2 (starEach es X.env)).any (·.1) = false := by rfl)
    (hm : md.getD i 0 = n := by rfl) (hi : X.N[i]? = some x := by rfl) (hx : Loc X.env.scope x := by first | exact Or.inl rfl | exact Or.inr rfl) (hs : swapsWith (.Call (.Name y p) (e :: es) [] p2) (some (.Name x pos')) pos.line X.env = pure false := by rfl)
    (hf : X.fn x = true ∨ X.env.scope.names.lookup x = some .local := by first | exact .inl rfl | exact .inr rfl | assumption) : DSt Z X md rn (.Assign [.Name x pos'] (.Call (.Name y p) (e :: es) [] p2) pos) (dNewC md i sd t) := by
  refine (ps_set hN hi hx (pe_call F hr hg hmg hk hb .nil pass0 ha hdb he hpl) hs hf).imp ?_
  rintro D σ H ⟨B, ρ, E, ⟨G, fp, S⟩, h, M⟩
  refine ⟨G, _, _, S.ex.sub, S.envP, h, fun ds hd vs G1 H1 x1 dvs => ?_⟩
  show liftSpF Z n sd (vs ++ []) H1 _ E0
  rw [List.append_nil]
  refine ⟨G1, ds, _, x1.sub, dvs, hd, fun d hd v f G2 H2 x2 o nd nw => ?_⟩
  have x := x1.trans x2
  have nw' : ∀ b ∈ f, H b = none ∧ H2 b ≠ none ∧ G2 b = none := fun b hb => ⟨x1.hh.free (nw b hb).1, (nw b hb).2⟩
  exact M.nx _ hd _ _ ⟨G2, _, (S.grow x).setO hm o nd (fun b hb => ⟨S.ex.hh.free (nw' b hb).1, (nw' b hb).2⟩) fun b hb j _ hj => (S.nw j b hj).2.1 (nw' b hb).1⟩
/-! ### x[p].append(e), x[p].clear(), x a tuple of owned lists -/
theorem OwnL.at1T {G H : Hp} : ∀ {ys : List V} {dss : List D} {fps : List Addr} (p : Nat) {ds : List D}, OwnL (fun v d f => (isL d = true ∧ Own Z G H 1 v d f) ∨ (isL d = false ∧ Dv Z G v d ∧ f = [])) ys dss fps → fps.Nodup → dss[p]? = some (.lst ds) → ∃ l xs, ys[p]? = some (.ref l) ∧ H l = some (.lst xs) ∧ DvAll Z G xs ds ∧ l ∈ fps ∧
    ∀ xs' ds', DvAll Z G xs' ds' → OwnL (fun v d f => (isL d = true ∧ Own Z G (upd H l (.lst xs')) 1 v d f) ∨ (isL d = false ∧ Dv Z G v d ∧ f = [])) ys (dss.set p (.lst ds')) fps
  | _, _, _, _, _, .nil, _, h => by simp at h
  | _, _, _, 0, dp, .cons (f := f) (fs := fs) a as, nd, h => by
    simp at h; subst h
    rcases a with ⟨_, a⟩ | ⟨e, _⟩
    · obtain ⟨l, xs, ds, fps, rfl, e, hl, hf, ol⟩ := a.one
      cases e
      obtain ⟨dv, rfl⟩ := ol.flat
      subst hf
      refine ⟨l, xs, rfl, hl, dv, by simp, fun xs' ds' dv' => .cons (.inl ⟨rfl, .inl ⟨l, xs', ds', [], rfl, rfl, upd_same, rfl, dv'.own⟩⟩) (as.imp fun v d f hf r => r.imp (fun r => ⟨r.1, r.2.keep (.refl _) fun b hb => upd_ne fun z => ?_⟩) id)⟩
      have := (List.nodup_cons.mp nd).1
      exact this (by subst z; exact hf _ hb)
    · cases e
  | _, _, _, p + 1, dp, .cons (f := f) (fs := fs) a as, nd, h => by
    obtain ⟨nd1, nd2, nd3⟩ := List.nodup_append.mp nd
    obtain ⟨l, xs, e2, e3, e4, e5, e6⟩ := OwnL.at1T p (ds := dp) as nd2 (by simpa using h)
    refine ⟨l, xs, by simpa using e2, e3, e4, List.mem_append_right _ e5, fun xs' ds' dv' => ?_⟩
    refine .cons (a.imp (fun r => ⟨r.1, r.2.keep (.refl _) fun b hb => upd_ne fun z => nd3 b hb l e5 z⟩) id) (e6 xs' ds' dv')
theorem SIx.twoT {B : Bs} {ρ : DN} {σ : St} {H G : Hp} {fp : Nat → List Addr} {i p : Nat} {dss : List D} {ds0 : List D} (S : SIx Z B md ρ σ H G fp) (hm : md.getD i 0 = 2) (h : ρ[i]? = some (some (.tup dss))) (hp : dss[p]? = some (.lst ds0)) : ∃ T ys l xs ds, D.lst ds0 = .lst ds ∧ σ[i]? = some (some (.ref T)) ∧ H T = some (.tup ys) ∧ ys.length = dss.length ∧ ys[p]? = some (.ref l) ∧ H l = some (.lst xs) ∧ DvAll Z G xs ds ∧
    ∀ xs' ds', DvAll Z G xs' ds' → SIx Z B md (ρ.set i (some (.tup (dss.set p (.lst ds'))))) σ (upd H l (.lst xs')) G fp := by
  obtain ⟨v, hv, o⟩ := S.at_ i _ h
  rw [hm] at o
  obtain ⟨T, ys, rfl, hT, ol⟩ := o.tup
  obtain ⟨l, xs, e2, e3, e4, e5, e6⟩ := OwnL.at1T p ol (S.nd i) hp
  refine ⟨T, ys, l, xs, ds0, rfl, hv, S.ex.sub _ _ hT, ol.length, e2, e3, e4, fun xs' ds' dv' => S.mut hv e5 ?_⟩
  rw [hm]
  exact .inr ⟨by decide, T, ys, _, rfl, rfl, hT, e6 xs' ds' dv'⟩
def dClear2T (i : Nat) (tp : DTE) : DTS := fun E ρ => ∃ dss, ρ[i]? = some (some (.tup dss)) ∧ tp ρ fun pp => ∃ p j ds, pp = .int p ∧ ixN dss.length p = some j ∧ dss[j]? = some (.lst ds) ∧ E.nx (ρ.set i (some (.tup (dss.set j (.lst [])))))
theorem ds_clear2T (i : Nat) {x : Str} {px ps : Pos} (hp : DE Z X k tp) (hm : md.getD i 0 = 2 := by rfl) (hpx : PlainIx k := by exact fun _ _ => rfl)
    (hi : X.N[i]? = some x := by rfl) (hv : Vis X.env.scope x := by first | exact Or.inl rfl | exact Or.inr (Or.inl rfl) | exact Or.inr (Or.inr rfl)) (hd : (x == ("__debug__" : Str)) = false := by decide) (hcd : (x == ("__classdict__" : Str)) = false := by decide)
    (hbase : attributeBase (.Subscript (.Name x px) k ps) "clear" X.env (eval (.Subscript (.Name x px) k ps) X.env) = eval (.Subscript (.Name x px) k ps) X.env := by rfl) (hline : (apos.endLine == cpos.line) = true := by rfl)
    (hsw : swapsWith (.Call (.Attribute (.Subscript (.Name x px) k ps) "clear" apos) [] [] cpos) none pos.line X.env = pure false := by rfl) : DSt Z X md rn (.Expr (.Call (.Attribute (.Subscript (.Name x px) k ps) "clear" apos) [] [] cpos) pos) (dClear2T i tp) := by
  refine (ps_expr (pe_bm0 PySem.F.plainAttrs_list PySem.F.slot_list_clear PySem.F.type_list_clear mt_clear (pe_ix ix_tup (pv i hi hv hd hcd) hp hpx) hbase hline) hsw).imp ?_
  rintro D σ H ⟨B, ρ, E, ⟨G, fp, S⟩, ⟨dss, h1, h⟩, M⟩
  obtain ⟨v0, hv0, o⟩ := S.at_ i _ h1
  refine ⟨_, hv0, S.ev true h ?_⟩
  rintro _ ⟨p, j, ds, rfl, hj, hd, h⟩
  refine ⟨rfl, fun v1 G1 H1 S1 x1 dv1 => ?_⟩
  cases dv1
  obtain ⟨T, ys, l, xs, ds', e1, e2, e3, e4, e5, e6, dvs, put⟩ := S1.twoT hm h1 hd
  cases e1
  rw [e2] at hv0
  cases hv0
  exact ⟨T, ys, p, .ref l, rfl, rfl, SqT.of e3, atI_of e4 hj e5, ty_list e6, l, xs, rfl, rfl, e6, M.nx _ h _ _ ⟨G1, fp, put [] [] .nil⟩⟩
end
end L2

set_option Elab.async false
set_option linter.all false
set_option maxRecDepth 100000
set_option maxHeartbeats 4000000
namespace L2
open PySem PySem.Spec PyProof.Rows
/-! ### a list given away to a def, which may hand it on in a told tuple -/
open Classical in
noncomputable def less1 (H : Hp) (a : Addr) : Hp := fun b => if b = a then none else H b
theorem less1_ne {H : Hp} {a b : Addr} (h : b ≠ a) : less1 H a b = H b := if_neg h
theorem less1_eq {H : Hp} {a : Addr} : less1 H a a = none := if_pos rfl
theorem less1_same {H : Hp} {a : Addr} : Same (less1 H a) H := fun b o e => by
  by_cases z : b = a
  · subst z; rw [less1_eq] at e; cases e
  · rw [less1_ne z] at e; exact e
def liftSpG (Z : DC) (n : Nat) (sd : DSp) : Sp := fun vs H Q _ => ∃ (G : Hp) (us : List V) (a : Addr) (xs : List V) (ds l : List D) (P : D → Prop), vs = us ++ [.ref a] ∧ Same G H ∧ DvAll Z G us ds ∧ H a = some (.lst xs) ∧ G a = none ∧ DvAll Z G xs l ∧ sd (ds ++ [.lst l]) P ∧
  ∀ d, P d → ∀ v f G' H', Ext G (less1 H a) G' H' → Own Z G' H' n v d f → f.Nodup → (∀ b ∈ f, less1 H a b = none ∧ H' b ≠ none ∧ G' b = none) → Q v H'
section
variable {P : Program} {w : World} {K : PySem.W.Frag} {mg : Str → Option Value} {base : Heap} {Z : DC}
theorem fn_dataG (rn : Nat) {x qual : Str} {st : Stmt} {f : Addr} {fd : FuncData} {N ps : List Str} {k : Nat} {sd : DSp} (F : Fun K x qual st f fd) (S : FnScope N ps (defScope st)) (md : List Nat) (hmd : ∀ i, i < ps.length - 1 → md.getD i 0 = 0) (hmj : md.getD (ps.length - 1) 0 = 1) (len : ∀ ds P, sd ds P → ds.length = ps.length)
    (hbody : ∀ (cdv : Value) (A : Around) (outer : List Env) (s : Shared) (H : Hp) (E : XK) (ds : List D) (R : D → Prop), Room k (A.deeper (envOfC qual (defScope st) s.heap.objs.size f cdv)) → sd ds R →
      ∃ t, DSs Z (cxOf CX0 P w K mg base N qual (defScope st) f cdv A outer s H E).nox md rn (defBody st) t ∧ t { nx := fun _ => rn = 0 ∧ R .non, rt := R } (startD N ds)) : FnOk P w K mg base CX0 (k + 1) f fd ps (liftSpG Z rn sd) := by
  refine F.ok S (fun vs H Q E h => ?_) (fun cdv A outer s H vs Q E hr h => ?_)
  · obtain ⟨G, us, a, xs, ds, l, R, rfl, s, dv, _, _, _, h, q⟩ := h
    have := len _ _ h
    rw [List.length_append] at this ⊢
    rw [dv.length]; exact this
  obtain ⟨G, us, a, xs, ds, l, R, rfl, s0, dv, ha, ga, dvl, h, q⟩ := h
  have hret := q
  obtain ⟨t, ht, hq⟩ := hbody cdv A outer s H E _ R hr h
  have hl := len _ _ h
  have ld : ds.length + 1 = ps.length := by rw [← hl, List.length_append]; rfl
  have lu : us.length = ds.length := dv.length
  refine ⟨_, ht, ⟨G, less1 H a, G⟩, _, _, ⟨G, fun i => if i = ps.length - 1 then [a] else [], ?_⟩, hq, ⟨fun ρ hρ σ' H' ⟨G', fp, S'⟩ => q _ hρ.2 _ [] G' H' S'.ex (by rw [hρ.1]; exact ⟨.non, rfl⟩) List.nodup_nil (fun b hb => by cases hb), hret, fun _ z => z.elim, fun _ z => z.elim⟩⟩
  refine ⟨⟨.refl _, s0, less1_same, fun _ _ h => h⟩, .refl _, by unfold startD start; simp [dv.length], fun i d hi => ?_, fun i => ?_, (fun i j b ne hi hj => ?_), (fun i b hb => ?_)⟩
  · unfold startD at hi
    have hi2 : i < (ds ++ [D.lst l]).length := by
      apply Classical.byContradiction
      intro z
      rw [List.getElem?_append_right (by simpa using Nat.le_of_not_lt z), List.getElem?_replicate] at hi
      split at hi <;> cases hi
    rw [List.getElem?_append_left (by simpa using hi2), List.getElem?_map] at hi
    have hd' : (ds ++ [D.lst l])[i]? = some d := by
      cases z : (ds ++ [D.lst l])[i]? with
      | none => rw [z] at hi; cases hi
      | some d' => rw [z] at hi; cases hi; rfl
    have st : ∀ u, (us ++ [V.ref a])[i]? = some u → (start N (us ++ [V.ref a]))[i]? = some (some u) := fun u hu => by
      unfold start
      have hiu : i < (us ++ [V.ref a]).length := (List.getElem?_eq_some_iff.mp hu).1
      rw [List.getElem?_append_left (by simpa using hiu), List.getElem?_map, hu]; rfl
    by_cases c : i < ds.length
    · rw [List.getElem?_append_left c] at hd'
      obtain ⟨v, hv, dv'⟩ := dv.get hd'
      refine ⟨v, st v (by rw [List.getElem?_append_left (by omega)]; exact hv), ?_⟩
      rw [hmd i (by omega), if_neg (by omega)]
      exact ⟨dv', rfl⟩
    · have hi3 : i = ds.length := by rw [List.length_append] at hi2; have : i < ds.length + 1 := hi2; omega
      subst hi3
      rw [List.getElem?_append_right (Nat.le_refl _), Nat.sub_self] at hd'
      have hd' : d = .lst l := (Option.some.inj hd').symm
      subst hd'
      refine ⟨.ref a, st _ (by rw [List.getElem?_append_right (by omega), lu, Nat.sub_self]; rfl), ?_⟩
      rw [show ds.length = ps.length - 1 by omega, hmj, if_pos rfl]
      exact .inl ⟨a, xs, l, [], rfl, rfl, ha, rfl, dvl.own⟩
  · split <;> simp
  · split at hi
    · split at hj
      · omega
      · cases hj
    · cases hi
  · split at hb
    · have : b = a := by simpa using hb
      subst this
      exact ⟨less1_eq, (by rw [ha]; exact fun z => nomatch z), ga⟩
    · cases hb
end
section
variable {Z : DC} {X : Cx} {md : List Nat} {rn : Nat} {e e1 e2 e3 k : Expr} {pos p2 : Pos} {te t1 t2 : DTE} {t3 : DTF}
/-! ### return ('word', x), x an owned list -/
def dRetTO (s : Str) (i : Nat) : DTS := fun E ρ => ∃ l, ρ[i]? = some (some (.lst l)) ∧ E.rt (.tup [.str s, .lst l])
theorem ds_retTO (i : Nat) {x1} {s x : Str} {j px p1} (hok : PyData.strOk s = true := by decide +kernel) (hm : md.getD i 0 = 1 := by rfl) (hi : X.N[i]? = some x := by rfl) (hv : Vis X.env.scope x := by first | exact Or.inl rfl | exact Or.inr (Or.inl rfl) | exact Or.inr (Or.inr rfl)) (hd : (x == ("__debug__" : Str)) = false := by decide) (hcd : (x == ("__classdict__" : Str)) = false := by decide)
    (hs : starEach [.Constant (.str s) j p1, .Name x px] X.env = (false, eval (.Constant (.str s) j p1) X.env) :: starEach [.Name x px] X.env := by rfl) (hs2 : starEach [.Name x px] X.env = (false, eval (.Name x px) X.env) :: starEach [] X.env := by rfl) :
    DSt Z X md 2 (.Return (some (.Tuple [.Constant (.str s) j p1, .Name x px] x1 p2)) pos) (dRetTO s i) := (ps_ret (pe_tup (pa_cons pe_str (pa_cons (pv i hi hv hd hcd) pa_nil hs2) hs))).imp fun D σ H ⟨B, ρ, E, ⟨G, fp, S⟩, ⟨l, h1, h⟩, M⟩ => by
  obtain ⟨v, hv, o⟩ := S.at_ i _ h1
  rw [hm] at o
  refine ⟨v, hv, by show 2 ≤ sizeLine; decide, fun p hp => ?_⟩
  have x3 : Ext G H (upd G p (.tup [.str s, v])) (upd H p (.tup [.str s, v])) := .new S.ex.sub hp
  have k1 : ∀ c ∈ fp i, upd H p (.tup [.str s, v]) c = H c := fun c hc => by
    cases e : H c with
    | none => exact absurd e (S.nw i c hc).2.1
    | some o => exact x3.hh _ _ e
  refine M.rt _ h _ (fp i) _ _ (S.ex.trans x3) (.inr ⟨by decide, p, [.str s, v], _, rfl, rfl, upd_same, ?_⟩) (S.nd i) fun c hc => ?_
  · have := OwnL.cons (R := fun v' d f => (isL d = true ∧ Own Z (upd G p (.tup [.str s, v])) (upd H p (.tup [.str s, v])) 1 v' d f) ∨ (isL d = false ∧ Dv Z (upd G p (.tup [.str s, v])) v' d ∧ f = [])) (f := []) (.inr ⟨rfl, .str s hok, rfl⟩) (OwnL.cons (d := .lst l) (f := fp i) (.inl ⟨rfl, o.keep x3.gg k1⟩) OwnL.nil)
    rw [List.append_nil] at this
    exact this
  · obtain ⟨q1, q2, q3⟩ := S.nw i c hc
    exact ⟨q1, by rw [k1 c hc]; exact q2, x3.off c q2 q3⟩
/-! ### return of a tuple of plain things, where a tuple of the asker's own is told -/
def dRetP2 (te : DTE) : DTS := fun E ρ => te ρ fun d => ∃ ds, d = .tup ds ∧ ds.all (fun x => !isL x) = true ∧ E.rt (.tup ds)
theorem own_plain {G H : Hp} : ∀ {xs : List V} {ds : List D}, DvAll Z G xs ds → ds.all (fun x => !isL x) = true → OwnL (fun v d f => (isL d = true ∧ Own Z G H 1 v d f) ∨ (isL d = false ∧ Dv Z G v d ∧ f = [])) xs ds []
  | _, _, .nil, _ => .nil
  | _, _, .cons a as, h => by
    rw [List.all_cons, Bool.and_eq_true] at h
    exact .cons (f := []) (fs := []) (.inr ⟨by simpa using h.1, a, rfl⟩) (own_plain as h.2)
theorem ds_retP2 (he : DE Z X e te) : DSt Z X md 2 (.Return (some e) pos) (dRetP2 te) := (ps_ret he).imp fun D σ H ⟨B, ρ, E, ⟨G, fp, S⟩, h, M⟩ => by
  let F : Addr → Prop := fun b => ∃ i, b ∈ fp i
  have s := S.ex.sub
  have x0 : Ext B.G₀ B.H₀ (plus G H F) H := ⟨S.ex.gg.trans (plus_sup s), plus_sub s, S.ex.hh, fun b hb hg => by
    rw [plus_out (fun ⟨i, hi⟩ => hb (S.nw i b hi).1)]; exact S.ex.off b hb hg⟩
  refine ⟨plus G H F, ρ, _, plus_sub s, ⟨S.len, fun i d h => ?_⟩, h, ?_⟩
  · obtain ⟨v, hv, o⟩ := S.at_ i d h
    exact ⟨v, hv, o.dv (plus_sup s) fun b hb u e => by rw [plus_in ⟨i, hb⟩]; exact e⟩
  · rintro _ ⟨ds, rfl, hall, hd⟩ v G' H' x dv
    obtain ⟨a, xs, rfl, ha, dvs⟩ := dv.ofTup
    exact M.rt _ hd _ [] G' H' (x0.trans x) (.inr ⟨by decide, a, xs, ds, rfl, rfl, ha, own_plain dvs hall⟩) List.nodup_nil fun b hb => by cases hb
/-! ### x = f(e1, e2, a new list): the list is given away -/
def okItem : D → Bool
  | .lst l => l.all flatD
  | d => noL d
def okTup : D → Bool
  | .tup ds => ds.all okItem
  | _ => false
theorem Ext.give {G H G1 H1 G2 H2 : Hp} {a : Addr} (x : Ext G H G1 H1) (ha : H a = none) (y : Ext G1 (less1 H1 a) G2 H2) : Ext G H G2 H2 :=
  have ne : ∀ b o, H b = some o → b ≠ a := fun b o e z => by rw [z, ha] at e; cases e
  ⟨x.gg.trans y.gg, y.sub, fun b o e => y.hh b o (by rw [less1_ne (ne b o e)]; exact x.hh b o e), fun b hb hg => by
    cases e : H b with
    | none => exact absurd e hb
    | some o => exact y.off b (by rw [less1_ne (ne b o e), x.hh b o e]; exact fun z => nomatch z) (x.off b hb hg)⟩
theorem own_items {G' G2 H' : Hp} (k : ∀ b xs, G' b = some (.tup xs) → G2 b = some (.tup xs)) : ∀ {xs : List V} {ds : List D} {f : List Addr}, OwnL (fun v d f => (isL d = true ∧ Own Z G' H' 1 v d f) ∨ (isL d = false ∧ Dv Z G' v d ∧ f = [])) xs ds f → ds.all okItem = true → OwnL (fun v d f => (isL d = true ∧ Own Z G2 H' 1 v d f) ∨ (isL d = false ∧ Dv Z G2 v d ∧ f = [])) xs ds f
  | _, _, _, .nil, _ => .nil
  | _, _, _, .cons (d := d) a as, h => by
    rw [List.all_cons, Bool.and_eq_true] at h
    refine .cons ?_ (own_items k as h.2)
    rcases a with ⟨e, o⟩ | ⟨e, dv, hf⟩
    · obtain ⟨l, xs, ds, fps, hv, hd, hl, hf, ol⟩ := o.one
      obtain ⟨dv, rfl⟩ := ol.flat
      subst hd
      exact .inl ⟨e, .inl ⟨l, xs, ds, [], hv, rfl, hl, hf, (DvAll.flat dv h.1).own⟩⟩
    · refine .inr ⟨e, dv.noL k ?_, hf⟩
      have h1 := h.1
      cases d <;> first | exact h1 | cases e
def dNewG (i : Nat) (sd : DSp) (t1 t2 : DTE) (t3 : DTF) : DTS := fun E ρ => t1 ρ fun d1 => t2 ρ fun d2 => t3 ρ fun l3 => sd [d1, d2, .lst l3] fun d => okTup d = true ∧ E.nx (ρ.set i (some d))
theorem ds_newG (i : Nat) {x : Str} {pos' : Pos} {sd : DSp} {k : Nat} {f : Addr} {fd : FuncData} {ps : List Str} {y : Str} {p : Pos} (hN : X.N.Nodup) (F : FnOk X.prog X.w X.K X.mg X.base CX0 k f fd ps (liftSpG Z 2 sd)) (hr : Room k X.A) (hg : Gl X y) (hmg : X.mg y = some (.ref f)) (hk : PySem.W.keepIn X.K (.ref f) = true) (hb : Binds X.K fd ps [])
    (h1 : DE Z X e1 t1) (h2 : DE Z X e2 t2) (h3 : DF Z X 1 e3 t3) (hdb : (y == ("__debug__" : Str)) = false := by decide) (he : starEach [e1, e2, e3] X.env = (false, eval e1 X.env) :: starEach [e2, e3] X.env := by rfl) (he2 : starEach [e2, e3] X.env = (false, eval e2 X.env) :: starEach [e3] X.env := by rfl) (he3 : starEach [e3] X.env = (false, eval e3 X.env) :: starEach [] X.env := by rfl) (hpl : (backTo p2 (starEach [e2, e3] X.env)).any (·.1) = false := by rfl)
    (hm : md.getD i 0 = 2 := by rfl) (hi : X.N[i]? = some x := by rfl) (hx : Loc X.env.scope x := by first | exact Or.inl rfl | exact Or.inr rfl) (hs : swapsWith (.Call (.Name y p) [e1, e2, e3] [] p2) (some (.Name x pos')) pos.line X.env = pure false := by rfl)
    (hf : X.fn x = true ∨ X.env.scope.names.lookup x = some .local := by first | exact .inl rfl | exact .inr rfl | assumption) : DSt Z X md rn (.Assign [.Name x pos'] (.Call (.Name y p) [e1, e2, e3] [] p2) pos) (dNewG i sd t1 t2 t3) := by
  refine (ps_set hN hi hx (pe_call F hr hg hmg hk hb .nil pass0 (pa_cons h1 (pa_cons h2 (pa_cons h3 pa_nil he3) he2) he) hdb he hpl) hs hf).imp ?_
  rintro D σ H ⟨B, ρ, E, ⟨G, fp, S⟩, h, M⟩
  obtain ⟨s1, s2, en⟩ := S.envO
  refine ⟨withO G H fp, ρ, _, s2, en, h, fun d1 hd1 v1 Ga Ha xa dva => ⟨Ga, ρ, _, xa.sub, en.mono xa.gg, hd1, fun d2 hd2 v2 Gb Hb xb dvb => ⟨Gb, ρ, _, xb.sub, (en.mono xa.gg).mono xb.gg, hd2, fun l3 hd3 v3 f3 Gc Hc xc o3 nd3 nw3 => ?_⟩⟩⟩
  obtain ⟨a, xs, l', fps, rfl, el, ha, hf3, ol⟩ := o3.one
  cases el
  obtain ⟨dv3, rfl⟩ := ol.flat
  obtain ⟨n1, n2, n3⟩ := nw3 a (by rw [hf3]; simp)
  have xab := xa.trans xb
  have haH : H a = none := xab.hh.free n1
  show liftSpG Z 2 sd ([v1, v2, .ref a] ++ []) Hc _ E0
  rw [List.append_nil]
  refine ⟨Gc, [v1, v2], a, xs, [d1, d2], l3, _, rfl, xc.sub, .cons ((dva.mono xb.gg).mono xc.gg) (.cons (dvb.mono xc.gg) .nil), ha, n3, dv3, hd3, ?_⟩
  rintro d ⟨hok, hd⟩ v f G' H' x4 o nd nw
  have x : Ext (withO G H fp) H G' H' := (xab.trans xc).give haH x4
  obtain ⟨x', kk⟩ := S.offO x
  have nw' : ∀ b ∈ f, H b = none ∧ H' b ≠ none ∧ G' b = none := fun b hb => by
    obtain ⟨q1, q2, q3⟩ := nw b hb
    refine ⟨?_, q2, q3⟩
    by_cases z : b = a
    · rw [z]; exact haH
    · rw [less1_ne z] at q1
      exact (xab.trans xc).hh.free q1
  cases d <;> first | exact absurd hok Bool.false_ne_true | skip
  rename_i ds
  obtain ⟨t, ys, rfl, ht, ol⟩ := o.tup
  have o' : Own Z (lessO G' fp) H' 2 (.ref t) (.tup ds) f := .inr ⟨by decide, t, ys, ds, rfl, rfl, kk _ _ ht, own_items kk ol hok⟩
  refine M.nx _ hd _ _ ⟨lessO G' fp, _, (S.grow x').setO hm o' nd (fun b hb => ⟨S.ex.hh.free (nw' b hb).1, (nw' b hb).2.1, ?_⟩) fun b hb j _ hj => (S.nw j b hj).2.1 (nw' b hb).1⟩
  unfold lessO
  split
  · rfl
  · exact (nw' b hb).2.2
/-! ### return f(e1, e2, a new list) -/
def dRetG (sd : DSp) (t1 t2 : DTE) (t3 : DTF) : DTS := fun E ρ => t1 ρ fun d1 => t2 ρ fun d2 => t3 ρ fun l3 => sd [d1, d2, .lst l3] fun d => E.rt d
theorem ds_retG {sd : DSp} {k : Nat} {f : Addr} {fd : FuncData} {ps : List Str} {y : Str} {p : Pos} (F : FnOk X.prog X.w X.K X.mg X.base CX0 k f fd ps (liftSpG Z 2 sd)) (hr : Room k X.A) (hg : Gl X y) (hmg : X.mg y = some (.ref f)) (hk : PySem.W.keepIn X.K (.ref f) = true) (hb : Binds X.K fd ps [])
    (h1 : DE Z X e1 t1) (h2 : DE Z X e2 t2) (h3 : DF Z X 1 e3 t3) (hdb : (y == ("__debug__" : Str)) = false := by decide) (he : starEach [e1, e2, e3] X.env = (false, eval e1 X.env) :: starEach [e2, e3] X.env := by rfl) (he2 : starEach [e2, e3] X.env = (false, eval e2 X.env) :: starEach [e3] X.env := by rfl) (he3 : starEach [e3] X.env = (false, eval e3 X.env) :: starEach [] X.env := by rfl) (hpl : (backTo p2 (starEach [e2, e3] X.env)).any (·.1) = false := by rfl) :
    DSt Z X md 2 (.Return (some (.Call (.Name y p) [e1, e2, e3] [] p2)) pos) (dRetG sd t1 t2 t3) := (ps_ret (pe_call F hr hg hmg hk hb .nil pass0 (pa_cons h1 (pa_cons h2 (pa_cons h3 pa_nil he3) he2) he) hdb he hpl)).imp fun D σ H ⟨B, ρ, E, ⟨G, fp, S⟩, h, M⟩ => by
  let F : Addr → Prop := fun b => ∃ i, b ∈ fp i
  have s := S.ex.sub
  have x0 : Ext B.G₀ B.H₀ (plus G H F) H := ⟨S.ex.gg.trans (plus_sup s), plus_sub s, S.ex.hh, fun b hb hg => by
    rw [plus_out (fun ⟨i, hi⟩ => hb (S.nw i b hi).1)]; exact S.ex.off b hb hg⟩
  have en : EnvD Z (plus G H F) σ ρ := ⟨S.len, fun i d h => by
    obtain ⟨v, hv, o⟩ := S.at_ i d h
    exact ⟨v, hv, o.dv (plus_sup s) fun b hb u e => by rw [plus_in ⟨i, hb⟩]; exact e⟩⟩
  refine ⟨plus G H F, ρ, _, plus_sub s, en, h, fun d1 hd1 v1 Ga Ha xa dva => ⟨Ga, ρ, _, xa.sub, en.mono xa.gg, hd1, fun d2 hd2 v2 Gb Hb xb dvb => ⟨Gb, ρ, _, xb.sub, (en.mono xa.gg).mono xb.gg, hd2, fun l3 hd3 v3 f3 Gc Hc xc o3 nd3 nw3 => ?_⟩⟩⟩
  obtain ⟨a, xs, l', fps, rfl, el, ha, hf3, ol⟩ := o3.one
  cases el
  obtain ⟨dv3, rfl⟩ := ol.flat
  obtain ⟨n1, n2, n3⟩ := nw3 a (by rw [hf3]; simp)
  have xab := xa.trans xb
  have haH : H a = none := xab.hh.free n1
  show liftSpG Z 2 sd ([v1, v2, .ref a] ++ []) Hc _ E0
  rw [List.append_nil]
  refine ⟨Gc, [v1, v2], a, xs, [d1, d2], l3, _, rfl, xc.sub, .cons ((dva.mono xb.gg).mono xc.gg) (.cons (dvb.mono xc.gg) .nil), ha, n3, dv3, hd3, ?_⟩
  intro d hd v f G' H' x4 o nd nw
  refine M.rt _ hd v f G' H' (x0.trans ((xab.trans xc).give haH x4)) o nd fun b hb => ?_
  obtain ⟨q1, q2, q3⟩ := nw b hb
  refine ⟨?_, q2, q3⟩
  by_cases z : b = a
  · rw [z]; exact S.ex.hh.free haH
  · rw [less1_ne z] at q1
    exact S.ex.hh.free ((xab.trans xc).hh.free q1)
end
end L2

set_option Elab.async false
set_option linter.all false
set_option maxRecDepth 100000
set_option maxHeartbeats 4000000
namespace K61
open PySem L2 Wb
open Wy Ws
/-! ### search -/
def optD : Option Int → D
  | none => .non
  | some d => .int d
def dyW (dy : Dy) : D := .lst (dy.map optD)
def lsW (ls : List (List Int)) : D := .lst (ls.map fun l => .lst (intsD l))
mutual
def papD : Pap → D
  | .full p => .tup [.str "full", natD p]
  | .cho p ps => .tup [.str "choose", natD p, .tup (papsD ps)]
def papsD : List (Option Pap) → List D
  | [] => []
  | o :: os => papO o :: papsD os
def papO : Option Pap → D
  | none => .non
  | some q => papD q
end
theorem papsD_map : ∀ ps : List (Option Pap), papsD ps = ps.map papO
  | [] => by rw [papsD]; rfl
  | o :: os => by rw [papsD, papsD_map os]; rfl
structure Sz (w : W) (ls : List (List Int)) (dy : Dy) : Prop where
  g : Good w
  n1 : 1 ≤ w.length
  n8 : w.length ≤ 8
  ll : ls.length = w.length
  ld : dy.length = w.length
  lr : ∀ p, (lst ls p).length ≤ 100
  rl : ∀ p, (row w p).length ≤ 100
theorem ls_get {ls : List (List Int)} {p : Nat} (h : p < ls.length) : (ls.map fun l => D.lst (intsD l))[p]? = some (.lst (intsD (lst ls p))) := by
  unfold lst
  rw [List.getElem?_map, List.getElem?_eq_getElem h, List.getD_eq_getElem?_getD, List.getElem?_eq_getElem h]; rfl
theorem dy_get {dy : Dy} {p : Nat} (h : p < dy.length) : (dy.map optD)[p]? = some (optD (at0 dy p)) := by
  unfold at0
  rw [List.getElem?_map, List.getElem?_eq_getElem h, List.getD_eq_getElem?_getD, List.getElem?_eq_getElem h]; rfl
theorem flat_opt (l : List (Option Int)) : (l.map optD).all flatD = true := by
  rw [List.all_map, List.all_eq_true]
  intro o _
  cases o <;> rfl
theorem inD_opt {l : List (Option Int)} {d : Int} : inD (.int d) (l.map optD) = decide (some d ∈ l) := by
  unfold inD
  rw [List.any_map]
  have : ((fun y => eqFD y (.int d)) ∘ optD) = fun o : Option Int => decide (o = some d) := by
    funext o
    cases o with
    | none => simp [optD, eqFD, Function.comp]
    | some e =>
      simp [optD, eqFD, Function.comp]
      by_cases h : e = d <;> simp [h]
  rw [this]
  rw [Bool.eq_iff_iff]
  simp
theorem inD_int {l : List Int} {d : Int} : inD (.int d) (intsD l) = decide (d ∈ l) := by
  unfold inD intsD
  rw [List.any_map]
  have : ((fun y => eqFD y (.int d)) ∘ D.int) = fun o : Int => decide (o = d) := by
    funext o
    simp [eqFD, Function.comp]
    by_cases h : o = d <;> simp [h]
  rw [this, Bool.eq_iff_iff]
  simp
theorem flat_intsS (l : List Int) : (intsD l).all flatD = true := by simp [intsD, flatD]
def spLeft : DSp := fun ds P => ∃ (w : W) (ls : List (List Int)) (dy : Dy) (p : Nat), ds = [webW w, lsW ls, dyW dy, natD p] ∧ Sz w ls dy ∧ p < w.length ∧ P (.lst (intsD (left w ls dy p)))
theorem okF_dyes_left {P : Program} {w : World} {mg : Str → Option Value} {base : Heap} {Z : DC} (T : Txt Z mg) : FnOk P w Z.K mg base CX0 1 T.d_dyes_left.f T.d_dyes_left.fd ["turns", "lists", "dyeing", "p"] (liftSpF Z 1 spLeft) := by
  have nd := sc_dyes_left.nd
  refine fn_dataF 1 T.d_dyes_left.F sc_dyes_left [0, 0, 0, 0, 0] (by decide) (fun ds R h => by obtain ⟨_, _, _, _, rfl, _⟩ := h; rfl) (fun cdv A outer s H E ds R hr h => ?_)
  have hu := hr.units
  refine ⟨_, (dss_cons (ds_set false 4 nd (de_lc (NC := ["q", "dyeing"]) (src := [none, some 2]) rfl (CompOk.of (defScope s_dyes_left) rfl rfl (by decide +kernel) (by decide +kernel) (by decide +kernel)) ⟨rfl, rfl, trivial⟩ (di_list (de_ix (de_var 0) (de_var 3))) (fun _ _ _ => (dg_name 0 (show (["q", "dyeing"] : List Str).Nodup from by decide +kernel))) (fun _ _ _ => dts_nil) (fun _ _ _ => (de_ix (de_var 1) (de_var 0)))))
      (dss_one (ds_retF (df_lc (NC := ["dye", "taken"]) (src := [none, some 4]) rfl (CompOk.of (defScope s_dyes_left) rfl rfl (by decide +kernel) (by decide +kernel) (by decide +kernel)) ⟨rfl, rfl, trivial⟩ (di_list (de_ix (de_var 1) (de_var 3))) (fun _ _ _ => (dg_name 0 (show (["dye", "taken"] : List Str).Nodup from by decide +kernel))) (fun _ _ _ => (dts_one (dt_cmp od_notin (de_var 0) (de_var 1) (by with_unfolding_all rfl)))) (fun _ _ _ => (de_var 0)))))), ?_⟩
  obtain ⟨w', ls, dy, p, rfl, z, hp, q⟩ := h
  refine ⟨_, rfl, _, rfl, _, atI_natD (web_row hp), lc_all (ρ := [none, some (dyW dy)]) natD (fun q => optD (at0 dy q)) (row w' p) _ (fun y hy Y h => ?_) rfl (small (by have := z.rl p; omega)) fun ρ' => ⟨trivial, ?_⟩⟩
  · exact ⟨_, rfl, _, rfl, _, atI_natD (dy_get (by rw [z.ld]; exact z.g.rng _ _ hy)), h⟩
  have e0 : (row w' p).map (fun q => optD (at0 dy q)) = ((row w' p).map fun q => at0 dy q).map optD := by rw [List.map_map]; rfl
  rw [e0]
  refine ⟨_, rfl, _, rfl, _, atI_natD (ls_get (by rw [z.ll]; exact hp)), lc_name (ρ := [none, some (.lst (((row w' p).map fun q => at0 dy q).map optD))]) D.int (fun d => !decide (some d ∈ (row w' p).map fun q => at0 dy q)) D.int (lst ls p) _ [] _ (fun y hy Y Nn t1 t2 => ?_) ⟨none, rfl⟩ (by have := z.lr p; simp; exact small (by omega)) fun ρ' => ?_⟩
  · refine ⟨_, rfl, _, rfl, rfl, flat_opt _, _, rfl, ?_⟩
    rw [if_pos rfl, inD_opt]
    exact ite_of (fun e => ⟨_, rfl, t1 e⟩) (fun e => t2 e)
  · rw [List.nil_append]
    exact q
def spWithDye : DSp := fun ds P => ∃ (dy : Dy) (p : Nat) (d : Int), ds = [dyW dy, natD p, .int d] ∧ p < dy.length ∧ dy.length ≤ 8 ∧ P (dyW (dy.set p (some d)))
theorem okF_with_dye {P : Program} {w : World} {mg : Str → Option Value} {base : Heap} {Z : DC} (T : Txt Z mg) : FnOk P w Z.K mg base CX0 1 T.d_with_dye.f T.d_with_dye.fd ["dyeing", "p", "dye"] (liftSpF Z 1 spWithDye) := by
  have nd := sc_with_dye.nd
  refine fn_dataF 1 T.d_with_dye.F sc_with_dye [0, 0, 0] (by decide) (fun ds R h => by obtain ⟨_, _, _, rfl, _⟩ := h; rfl) (fun cdv A outer s H E ds R hr h => ?_)
  have hu := hr.units
  refine ⟨_, (dss_one (ds_retF (df_add (de_op od_add (de_slice (de_var 0) do_none (do_some (de_var 1))) (de_lst (da_cons (de_var 2) da_nil))) (de_slice (de_var 0) (do_some (de_op od_add (de_var 1) de_int)) do_none)))), ?_⟩
  obtain ⟨dy, p, d, rfl, hp, h8, q⟩ := h
  have ec1 : cutD (dy.map optD) none (some (p : Int)) = (dy.take p).map optD := by rw [cutD_take _ _ (by simp; omega), List.map_take]
  have ec2 : cutD (dy.map optD) (some ((p : Int) + 1)) none = (dy.drop (p + 1)).map optD := by
    have := cutD_drop (dy.map optD) (p + 1) (by simp; omega)
    rw [List.map_drop, ← this]; rfl
  have l1 : (dy.take p).length ≤ 8 := by rw [List.length_take]; omega
  have l2 : (dy.drop (p + 1)).length ≤ 8 := by rw [List.length_drop]; omega
  have s1 : (cutD (dy.map optD) none (some (p : Int))).length + 1 ≤ sizeLine := by rw [ec1, List.length_map]; exact small (by omega)
  have s2 : (cutD (dy.map optD) none (some (p : Int)) ++ [D.int d]).length + (cutD (dy.map optD) (some ((p : Int) + 1)) none).length ≤ sizeLine := by
    rw [ec1, ec2, List.length_append, List.length_map, List.length_map]; exact small (by show _ + 1 + _ ≤ 1000; omega)
  have er : (.lst (cutD (dy.map optD) none (some (p : Int)) ++ [.int d] ++ cutD (dy.map optD) (some ((p : Int) + 1)) none) : D) = dyW (dy.set p (some d)) := by
    rw [ec1, ec2]
    unfold dyW
    rw [← set_cut dy p (some d) hp, List.map_append, List.map_append]; rfl
  rw [← er] at q
  exact ⟨_, rfl, _, rfl, _, rfl, by show 1 ≤ sizeLine; decide, s1, _, rfl, _, rfl, _, rfl, _, rfl, s2, q⟩
theorem enum_dy (dy : Dy) : enumD (dy.map optD) = (List.range dy.length).map fun (p : Nat) => D.tup [.int (p : Int), optD (at0 dy p)] := by
  refine List.ext_getElem? fun i => ?_
  rw [List.getElem?_map]
  by_cases h : i < dy.length
  · rw [List.getElem?_range h]
    have hl : i < (enumD (dy.map optD)).length := by rw [enumD_len, List.length_map]; exact h
    rw [List.getElem?_eq_getElem hl]
    obtain ⟨x, hx, e⟩ := enumD_get (List.getElem?_eq_getElem hl)
    rw [dy_get h] at hx
    cases hx
    rw [e]; rfl
  · rw [List.getElem?_eq_none (by rw [enumD_len, List.length_map]; omega), List.getElem?_eq_none (by simpa using Nat.le_of_not_lt h)]; rfl
theorem least_pair {a b p q : Nat} (h : HT.lexLt [(b : Int), (q : Int)] [(a : Int), (p : Int)] = false) : a < b ∨ (a = b ∧ p ≤ q) := by
  rw [HT.lexLt_cons, HT.lexLt_cons, HT.lexLt_nil_nil] at h
  by_cases c : (b : Int) = (a : Int)
  · rw [if_pos c] at h
    by_cases d : (q : Int) = (p : Int)
    · right; omega
    · rw [if_neg d] at h
      have := of_decide_eq_false h
      right; omega
  · rw [if_neg c] at h
    have := of_decide_eq_false h
    left; omega
def spChosen : DSp := fun ds P => ∃ (w : W) (ls : List (List Int)) (dy : Dy), ds = [webW w, lsW ls, dyW dy] ∧ Sz w ls dy ∧ ((∀ p, p < w.length → at0 dy p ≠ none) → P .non) ∧ ∀ p, IsNext w ls dy p → P (natD p)
theorem ok_chosen_point {P : Program} {w : World} {mg : Str → Option Value} {base : Heap} {Z : DC} (T : Txt Z mg) : FnOk P w Z.K mg base CX0 2 T.d_chosen_point.f T.d_chosen_point.fd ["turns", "lists", "dyeing"] (liftSp Z spChosen) := by
  have g_dyes_left := (okF_dyes_left (P := P) (w := w) (base := base) T).imp spF
  have nd := sc_chosen_point.nd
  refine fn_data T.d_chosen_point.F sc_chosen_point [0, 0, 0, 0] (by decide) (fun ds R h => by obtain ⟨_, _, _, rfl, _⟩ := h; rfl) (fun cdv A outer s H E ds R hr h => ?_)
  have hu := hr.units
  refine ⟨_, (dss_cons (ds_setlc 3 (NC := ["p", "dye", "turns", "lists", "dyeing"]) (src := [none, none, some 0, some 1, some 2]) rfl nd (CompOk.of (defScope s_chosen_point) rfl rfl (by decide +kernel) (by decide +kernel) (by decide +kernel)) ⟨rfl, rfl, rfl, rfl, rfl, rfl, trivial⟩ (di_enum rfl T.B.enumerate (da_cons (de_var 2) da_nil)) (fun _ _ _ => (dg_tup 2 rfl (dgs_cons (dg_name 0 (show (["p", "dye", "turns", "lists", "dyeing"] : List Str).Nodup from by decide +kernel)) (dgs_cons (dg_name 1 (show (["p", "dye", "turns", "lists", "dyeing"] : List Str).Nodup from by decide +kernel)) dgs_nil)))) (fun _ _ _ => (dts_one (dt_cmp od_is (de_var 1) de_non (nomark _)))) (fun _ _ _ => (de_tup (da_cons (de_callB cd_len rfl T.B.len bd_len (da_cons (de_call g_dyes_left (hr.mono (by decide)) rfl T.d_dyes_left.m T.d_dyes_left.F.kp T.d_dyes_left.b (da_cons (de_var 2) (da_cons (de_var 3) (da_cons (de_var 4) (da_cons (de_var 0) da_nil))))) da_nil)) (da_cons (de_var 0) da_nil)))))
      (dss_one (ds_ret (de_if (dt_tru (de_var 3)) (de_ix (de_callB (cd_min1 rfl hu) rfl T.B.min bd_min (da_cons (de_var 3) da_nil)) de_int) de_non)))), ?_⟩
  obtain ⟨w', ls, dy, rfl, z, q1, q2⟩ := h
  refine ⟨_, rfl, ?_⟩
  refine (?_ : lcW _ _ _ (enumD (dy.map optD)) _ _ _)
  rw [enum_dy]
  refine lc_inv (fun ρ => ∃ o0 o1, ρ = [o0, o1, some (webW w'), some (lsW ls), some (dyW dy)]) (fun (p : Nat) => D.tup [.int (p : Int), optD (at0 dy p)]) (fun p => (at0 dy p).isNone) (fun p => tupI [((left w' ls dy p).length : Int), (p : Int)]) _ _ [] _ ?_ ⟨_, _, rfl⟩ (by have := z.ld; have := z.n8; simp; exact small (by omega)) ?_
  · rintro p hp _ ⟨o0, o1, rfl⟩ Y Nn hY hN
    have hp' : p < w'.length := by rw [← z.ld]; simpa using hp
    refine ⟨rfl, rfl, ?_⟩
    refine ⟨_, rfl, _, rfl, ?_⟩
    have en : isNon (optD (at0 dy p)) = (at0 dy p).isNone := by cases at0 dy p <;> rfl
    rw [if_neg Bool.false_ne_true, en]
    refine ite_of (fun e => ?_) (fun e => hN _ ⟨_, _, rfl⟩ e)
    refine ⟨_, rfl, _, rfl, _, rfl, _, rfl, w', ls, dy, p, rfl, z, hp', ?_⟩
    refine ⟨_, rfl, by show 2 ≤ sizeLine; decide, ?_⟩
    have : (D.tup [.int ((intsD (left w' ls dy p)).length : Int), .int (p : Int)]) = tupI [((left w' ls dy p).length : Int), (p : Int)] := by rw [intsD_len]; rfl
    refine (?_ : Y _ (D.tup [.int ((intsD (left w' ls dy p)).length : Int), .int (p : Int)]))
    rw [this]
    exact hY _ ⟨_, _, rfl⟩ e
  · rintro _ ⟨o0, o1, rfl⟩
    refine ⟨trivial, ?_⟩
    rw [List.nil_append]
    generalize hf : (List.range dy.length).filter (fun p => (at0 dy p).isNone) = fs
    have mf : ∀ p, p ∈ fs → p < w'.length ∧ at0 dy p = none := fun p hp => by
      rw [← hf, List.mem_filter, List.mem_range, z.ld] at hp
      exact ⟨hp.1, by cases h : at0 dy p with | none => rfl | some _ => rw [h] at hp; cases hp.2⟩
    refine ⟨_, rfl, ?_⟩
    cases fs with
    | nil =>
      refine ⟨rfl, iteF (q1 fun p hp hn => ?_)⟩
      have : p ∈ (List.range dy.length).filter (fun p => (at0 dy p).isNone) := by
        rw [List.mem_filter, List.mem_range, z.ld]
        exact ⟨hp, by rw [hn]; rfl⟩
      rw [hf] at this; cases this
    | cons f fs =>
      refine ⟨rfl, iteT ⟨_, rfl, (f :: fs).map (fun p => [((left w' ls dy p).length : Int), (p : Int)]), by rw [List.map_map]; rfl, by simp, fun m hm least => ?_⟩⟩
      obtain ⟨p, hp, rfl⟩ := List.mem_map.mp hm
      obtain ⟨a, b⟩ := mf p hp
      refine ⟨.int (p : Int), rfl, q2 p ⟨a, b, fun r hr hn => ?_⟩⟩
      have hr2 : r ∈ f :: fs := by
        rw [← hf, List.mem_filter, List.mem_range, z.ld]
        exact ⟨hr, by rw [hn]; rfl⟩
      have := least _ (List.mem_map_of_mem hr2)
      exact least_pair this


def resD : Res → D
  | .inl dz => .tup [.str "dyed", dyW dz]
  | .inr q => .tup [.str "none", papD q]
def spS (m : Nat) : DSp := fun ds P => ∃ (w : W) (ls : List (List Int)) (dy : Dy), ds = [webW w, lsW ls, dyW dy] ∧ Sz w ls dy ∧ und dy < m ∧ ∀ r, Srch w ls (und dy) dy r → P (resD r)
def spS1 (m : Nat) : DSp := spS (m + 1)
theorem dEq_str {a b : Str} {P : D → Prop} (h : P (.bl (decide (a = b)))) : dEq (.str a) (.str b) P := ⟨.str a, .str b, rfl, rfl, by simp [PyData.depth], by
  have : PyData.eqv (.str a) (.str b) = decide (a = b) := by
    rw [PyData.eqv]
    by_cases z : a = b <;> simp [z]
  rw [if_neg Bool.false_ne_true, this]; exact h⟩
theorem Sz.put {w : W} {ls : List (List Int)} {dy : Dy} (z : Sz w ls dy) (p : Nat) (d : Int) : Sz w ls (dy.set p (some d)) := ⟨z.g, z.n1, z.n8, z.ll, by rw [List.length_set]; exact z.ld, z.lr, z.rl⟩
theorem eqC {i j : Int} {P : D → Prop} {ρ : DN} (h : P (.bl (decide (i = j)))) : dC (.int j) ρ (fun b => dEq (.int i) b P) := dEq_int h
theorem eqS {i j : Str} {P : D → Prop} {ρ : DN} (h : P (.bl (decide (i = j)))) : dC (.str j) ρ (fun b => dEq (.str i) b P) := dEq_str h
theorem tru_ints {l : List Int} : truD (.lst (intsD l)) = !l.isEmpty := by cases l <;> rfl
mutual
theorem noL_pap : ∀ q : Pap, noL (papD q) = true
  | .full p => by rw [papD]; rfl
  | .cho p ps => by
    have := noL_paps ps
    rw [papD]
    simp [noL, noLs, this, natD]
theorem noL_paps : ∀ ps : List (Option Pap), noLs (papsD ps) = true
  | [] => by rw [papsD]; rfl
  | o :: os => by
    have h1 := noL_papO o
    have h2 := noL_paps os
    rw [papsD]
    simp [noLs, h1, h2]
theorem noL_papO : ∀ o : Option Pap, noL (papO o) = true
  | none => by rw [papO]; rfl
  | some q => by rw [papO]; exact noL_pap q
end
theorem papD_notL (q : Pap) : isL (papD q) = false := by cases q <;> rw [papD] <;> rfl
theorem ok_res (r : Res) : okTup (resD r) = true := by
  cases r with
  | inl dz =>
    unfold resD okTup
    simp only [List.all_cons, List.all_nil, Bool.and_true]
    have : okItem (dyW dz) = true := flat_opt dz
    rw [this]; rfl
  | inr q =>
    unfold resD okTup
    simp only [List.all_cons, List.all_nil, Bool.and_true]
    have : okItem (papD q) = true := by
      have h := noL_pap q
      have h2 := papD_notL q
      cases e : papD q <;> rw [e] at h h2 <;> first | exact h | cases h2
    rw [this]; rfl
theorem st_searched_from {P : Program} {w : World} {mg : Str → Option Value} {base : Heap} {Z : DC} (T : Txt Z mg) (m k : Nat) (hk : 2 ≤ k) (g_searched_from : FnOk P w Z.K mg base CX0 k T.d_searched_from.f T.d_searched_from.fd ["turns", "lists", "dyeing"] (liftSpG Z 2 (spS m))) : FnOk P w Z.K mg base CX0 (k + 1) T.d_searched_from.f T.d_searched_from.fd ["turns", "lists", "dyeing"] (liftSpG Z 2 (spS1 m)) := by
  have gF_dyes_left := okF_dyes_left (P := P) (w := w) (base := base) T
  have gF_with_dye := okF_with_dye (P := P) (w := w) (base := base) T
  have g_chosen_point := ok_chosen_point (P := P) (w := w) (base := base) T
  have nd := sc_searched_from.nd
  refine fn_dataG 2 T.d_searched_from.F sc_searched_from [0, 0, 1, 0, 1, 1, 0, 2] (by decide) rfl (fun ds R h => by obtain ⟨_, _, _, rfl, _⟩ := h; rfl) (fun cdv A outer s H E ds R hr h => ?_)
  have hu := hr.units
  refine ⟨_, (dss_cons (ds_set true 3 nd (de_call g_chosen_point (hr.mono (by omega)) rfl T.d_chosen_point.m T.d_chosen_point.F.kp T.d_chosen_point.b (da_cons (de_var 0) (da_cons (de_var 1) (da_cons (de_var 2) da_nil)))))
      (dss_cons (ds_if (dt_cmp od_is (de_var 3) de_non (nomark _)) (dss_one (ds_retTO 2)) dss_nil)
      (dss_cons (ds_newS 4 nd (df_call gF_dyes_left (hr.mono (by omega)) rfl T.d_dyes_left.m T.d_dyes_left.F.kp T.d_dyes_left.b (da_cons (de_var 0) (da_cons (de_var 1) (da_cons (de_var 2) (da_cons (de_var 3) da_nil))))))
      (dss_cons (ds_if (dt_not (dt_tru (de_var 4))) (dss_one (ds_retP2 (de_tup (da_cons de_str (da_cons (de_tup (da_cons de_str (da_cons (de_var 3) da_nil))) da_nil))))) dss_nil)
      (dss_cons (ds_new 5 nd (df_lst da_nil))
      (dss_cons (ds_for rfl PassesOwn.never (di_list (de_ix (de_var 1) (de_var 3))) (dt_name 6 nd) (dss_one (ds_if (dt_cmp od_in (de_var 6) (de_var 4) (by with_unfolding_all rfl)) (dss_cons (ds_newG 7 nd g_searched_from (hr.mono (by omega)) rfl T.d_searched_from.m T.d_searched_from.F.kp T.d_searched_from.b (de_var 0) (de_var 1) (df_call gF_with_dye (hr.mono (by omega)) rfl T.d_with_dye.m T.d_with_dye.F.kp T.d_with_dye.b (da_cons (de_var 2) (da_cons (de_var 3) (da_cons (de_var 6) da_nil)))))
      (dss_cons (ds_if (dt_cmp (od_eq hu) (de_ix (de_var 7) de_int) de_str (nomark _)) (dss_one (ds_retO 7)) dss_nil)
      (dss_one (ds_app true 5 (de_ix (de_var 7) de_int))))) (dss_one (ds_app false 5 de_non)))))
      (dss_one (ds_retP2 (de_tup (da_cons de_str (da_cons (de_tup (da_cons de_str (da_cons (de_var 3) (da_cons (de_callTy cd_tuple rfl T.B.tuple bd_tuple (da_cons (de_var 5) da_nil)) da_nil)))) da_nil))))))))))), ?_⟩
  obtain ⟨w', ls, dy, rfl, z, hu0, q⟩ := h
  refine ⟨_, rfl, _, rfl, _, rfl, w', ls, dy, rfl, z, fun all => ⟨rfl, ?_⟩, fun p hp => ⟨rfl, ?_⟩⟩
  · refine ⟨_, rfl, _, rfl, iteT ?_⟩
    rw [und_zero z.ld all] at q
    exact ⟨_, rfl, q (.inl dy) rfl⟩
  · refine ⟨_, rfl, _, rfl, iteF ?_⟩
    obtain ⟨hpw, hn, hleast⟩ := id hp
    have hpd : p < dy.length := by rw [z.ld]; exact hpw
    obtain ⟨m', hm'⟩ : ∃ m', und dy = m' + 1 := ⟨und (dy.set p (some 0)), (und_set hpd hn).symm⟩
    rw [hm'] at q
    refine ⟨_, rfl, _, rfl, _, rfl, _, rfl, w', ls, dy, p, rfl, z, hpw, _, rfl, flat_intsS _, ?_⟩
    refine ⟨_, rfl, rfl, ite_of (fun e => ?_) (fun e => ?_)⟩
    · have hl : left w' ls dy p = [] := by
        rw [tru_ints] at e
        simpa using e
      exact ⟨_, rfl, by show 2 ≤ sizeLine; decide, by show 2 ≤ sizeLine; decide, _, rfl, rfl, q (.inr (.full p)) ⟨p, hp, .inl ⟨hl, rfl⟩⟩⟩
    · have hne : left w' ls dy p ≠ [] := by
        rw [tru_ints] at e
        intro h0
        rw [h0] at e
        cases e
      refine ⟨by show 0 ≤ sizeLine; decide, ?_⟩
      have zl := z.lr p
      refine ⟨_, rfl, _, rfl, _, atI_natD (ls_get (by rw [z.ll]; exact hpw)), for_inv (fun j ρ => ∃ (ps : List (Option Pap)) (o6 o7 : Option D), ρ = [some (webW w'), some (lsW ls), some (dyW dy), some (natD p), some (.lst (intsD (left w' ls dy p))), some (.lst (ps.map papO)), o6, o7] ∧ ps.length = j ∧ ∀ r, Walk (Srch w' ls m') w' ls dy p ((lst ls p).drop j) ps r → Walk (Srch w' ls m') w' ls dy p (lst ls p) [] r) ⟨[], _, _, rfl, rfl, fun r h => h⟩ ?_ ?_⟩
      · rintro j x _ hx ⟨ps, o6, o7, rfl, lp, up⟩ A' hA
        obtain ⟨d, hd, rfl⟩ := map_get hx
        have hj : j < (lst ls p).length := (List.getElem?_eq_some_iff.mp hd).1
        have edr : (lst ls p).drop j = d :: (lst ls p).drop (j + 1) := by
          rw [List.drop_eq_getElem_cons hj]
          congr 1
          exact Option.some.inj ((List.getElem?_eq_getElem hj).symm.trans hd)
        rw [edr] at up
        have sm : (ps.map papO).length < sizeLine := small1000 (by rw [List.length_map]; omega)
        refine ⟨_, rfl, _, rfl, rfl, flat_intsS _, _, rfl, ?_⟩
        rw [if_neg Bool.false_ne_true, inD_int]
        refine ite_of (fun e => ?_) (fun e => ?_)
        · have hdl : d ∈ left w' ls dy p := of_decide_eq_true e
          have us := und_set (d := d) hpd hn
          refine ⟨_, rfl, _, rfl, _, rfl, _, rfl, _, rfl, dy, p, d, rfl, hpd, by rw [z.ld]; exact z.n8, _, rfl, w', ls, dy.set p (some d), rfl, z.put p d, by omega, fun r hr => ⟨ok_res r, ?_⟩⟩
          rw [show und (dy.set p (some d)) = m' by omega] at hr
          cases r with
          | inl dz =>
            refine ⟨_, rfl, _, rfl, eqS ⟨true, congrArg D.bl (decide_eq_true rfl), iteT ?_⟩⟩
            exact ⟨_, rfl, q (.inl dz) ⟨p, hp, .inr ⟨hne, up _ (.inl ⟨hdl, .inl ⟨dz, hr, rfl⟩⟩)⟩⟩⟩
          | inr q2 =>
            refine ⟨_, rfl, _, rfl, eqS ⟨false, congrArg D.bl (by decide +kernel), iteF ?_⟩⟩
            refine ⟨_, rfl, _, rfl, _, rfl, noL_pap q2, sm, hA _ ⟨ps ++ [some q2], some (.int d), some (resD (.inr q2)), ?_, by rw [List.length_append, lp]; rfl, fun r h => up r (.inl ⟨hdl, .inr ⟨q2, hr, h⟩⟩)⟩⟩
            rw [List.map_append]; rfl
        · have hdl : d ∉ left w' ls dy p := of_decide_eq_false e
          refine ⟨_, rfl, trivial, sm, hA _ ⟨ps ++ [none], some (.int d), o7, ?_, by rw [List.length_append, lp]; rfl, fun r h => up r (.inr ⟨hdl, h⟩)⟩⟩
          rw [List.map_append]; rfl
      · rintro _ ⟨ps, o6, o7, rfl, lp, up⟩
        rw [intsD_len] at lp
        rw [intsD_len, List.drop_length] at up
        refine ⟨_, rfl, _, rfl, by show 3 ≤ sizeLine; decide, by show 2 ≤ sizeLine; decide, _, rfl, rfl, ?_⟩
        have := q (.inr (.cho p ps)) ⟨p, hp, .inr ⟨hne, up _ rfl⟩⟩
        rw [resD, papD, papsD_map] at this
        exact this
theorem ok_searched_from {P : Program} {w : World} {mg : Str → Option Value} {base : Heap} {Z : DC} (T : Txt Z mg) : FnOk P w Z.K mg base CX0 11 T.d_searched_from.f T.d_searched_from.fd ["turns", "lists", "dyeing"] (liftSpG Z 2 (spS 9)) := by
  have all : ∀ m, FnOk P w Z.K mg base CX0 (2 + m) T.d_searched_from.f T.d_searched_from.fd ["turns", "lists", "dyeing"] (liftSpG Z 2 (spS m)) := by
    intro m
    induction m with
    | zero =>
      refine ((fn_false (Z := Z)).imp ?_).mono (Nat.zero_le _)
      rintro vs H Q E ⟨G, us, a, xs, ds, l, R, _, _, _, _, _, _, ⟨w, ls, dy, _, _, h, _⟩, _⟩
      exact absurd h (Nat.not_lt_zero _)
    | succ m ih => exact st_searched_from T m (2 + m) (by omega) ih
  exact all 9
def spSearched : DSp := fun ds P => ∃ (w : W) (ls : List (List Int)), ds = [.web w, lsW ls] ∧ Sz w ls (List.replicate w.length none) ∧ ∀ r, Srch w ls w.length (List.replicate w.length none) r → P (resD r)
theorem at_rep {n p : Nat} : at0 (List.replicate n none) p = none := by
  unfold at0
  rw [List.getD_eq_getElem?_getD, List.getElem?_replicate]
  split <;> rfl
theorem ok_rep {w : W} {ls : List (List Int)} : Ok w ls (List.replicate w.length none) := ⟨by simp, fun p d h => by rw [at_rep] at h; cases h⟩
theorem und_rep (n : Nat) : und (List.replicate n none) = n := by
  unfold und
  rw [List.countP_replicate]; rfl
theorem rep_dyW (n : Nat) : (rangeD 0 n).map (fun _ => D.non) = (List.replicate n none).map optD := by
  unfold rangeD
  rw [List.map_map, List.map_replicate]
  refine List.ext_getElem? fun i => ?_
  rw [List.getElem?_map, List.getElem?_replicate]
  by_cases h : i < n
  · rw [List.getElem?_range h, if_pos h]; rfl
  · rw [List.getElem?_eq_none (by simpa using Nat.le_of_not_lt h), if_neg h]; rfl
theorem lc_none {te : DTE} {n : Nat} {N : DN → List D → Prop} (ht : te = dC .non) (hz : n ≤ sizeLine) (h : ∀ ρ', N ρ' ((List.replicate n none).map optD)) : lcW (dgName 0) dYes te (rangeD 0 n) [none] [] N := by
  subst ht
  have := lc_all (i := 0) (ρ := [none]) (fun d : D => d) (fun _ => D.non) (rangeD 0 n) N (fun y hy Y h => h) rfl (by unfold rangeD; simpa using hz) (fun ρ' => by rw [rep_dyW]; exact h ρ') (te := dC .non)
  simpa using this
theorem okF_searched {P : Program} {w : World} {mg : Str → Option Value} {base : Heap} {Z : DC} (T : Txt Z mg) : FnOk P w Z.K mg base CX0 12 T.d_searched.f T.d_searched.fd ["web", "lists"] (liftSpF Z 2 spSearched) := by
  have g_Web_many := ok_Web_many (P := P) (w := w) (base := base) T
  have g_Web_turns := ok_Web_turns (P := P) (w := w) (base := base) T
  have g_need_at_most := ok_need_at_most (P := P) (w := w) (base := base) T
  have g_searched_from := ok_searched_from (P := P) (w := w) (base := base) T
  have nd := sc_searched.nd
  refine fn_dataF 2 T.d_searched.F sc_searched [0, 0] (by decide) (fun ds R h => by obtain ⟨_, _, rfl, _⟩ := h; rfl) (fun cdv A outer s H E ds R hr h => ?_)
  have hu := hr.units
  refine ⟨_, (dss_cons (ds_drop (de_call g_need_at_most (hr.mono (by decide)) rfl T.d_need_at_most.m T.d_need_at_most.F.kp T.d_need_at_most.b (da_cons (de_var 0) (da_cons (de_globI rfl T.c_MOST_SEARCHED) da_nil))))
      (dss_one (ds_retG g_searched_from (hr.mono (by decide)) rfl T.d_searched_from.m T.d_searched_from.F.kp T.d_searched_from.b (de_meth0 T.W (de_var 0) T.m_turns.m g_Web_turns (hr.mono (by decide)) T.m_turns.b) (de_var 1) (df_lc (NC := ["p"]) (src := [none]) rfl (CompOk.of (defScope s_searched) rfl rfl (by decide +kernel) (by decide +kernel) (by decide +kernel)) trivial (di_range1 rfl T.B.range (da_cons (de_meth0 T.W (de_var 0) T.m_many.m g_Web_many (hr.mono (by decide)) T.m_many.b) da_nil)) (fun _ _ _ => (dg_name 0 (show (["p"] : List Str).Nodup from by decide +kernel))) (fun _ _ _ => dts_nil) (fun _ _ _ => de_non))))), ?_⟩
  obtain ⟨w', ls, rfl, z, q⟩ := h
  have n8 := z.n8
  refine ⟨_, rfl, w', 8, rfl, by omega, ?_⟩
  refine ⟨_, rfl, w', rfl, w', rfl, by omega, _, rfl, _, rfl, w', rfl, w', rfl, ⟨by omega, by omega⟩, ?_⟩
  rw [show ((w'.length : Int)).toNat = w'.length by omega]
  refine lc_none rfl (small (by omega)) fun ρ' => ?_
  exact ⟨w', ls, List.replicate w'.length none, rfl, z, by rw [und_rep]; omega, by rw [und_rep]; exact q⟩
end K61

set_option linter.all false
/-! webs grown point by point, within lists that are there already -/
namespace Wb
theorem row_app {u : W} {k o : Nat} (h : o < u.length) : row (u ++ List.replicate k []) o = row u o := by
  unfold row
  rw [List.getD_eq_getElem?_getD, List.getElem?_append_left h, ← List.getD_eq_getElem?_getD]
theorem row_app' {u : W} {k o : Nat} (h : u.length ≤ o) : row (u ++ List.replicate k []) o = [] := by
  unfold row
  rw [List.getD_eq_getElem?_getD, List.getElem?_append_right h, List.getElem?_replicate]
  split <;> rfl
theorem ext_rows {u v : W} (hl : u.length = v.length) (h : ∀ x, x < u.length → row u x = row v x) : u = v := by
  refine List.ext_getElem? fun i => ?_
  by_cases c : i < u.length
  · rw [row_get c, row_get (by omega), h i c]
  · rw [List.getElem?_eq_none (by omega), List.getElem?_eq_none (by omega)]
theorem tie_leaf {u : W} {k o q : Nat} (h : o < u.length) : tie (u ++ List.replicate (k + 1) []) o q u.length 0 = leaf u o q ++ List.replicate k [] := by
  have l1 : (u ++ List.replicate (k + 1) ([] : List Nat)).length = u.length + (k + 1) := by simp
  refine ext_rows (by rw [tie_len, l1, List.length_append, leaf_len, List.length_replicate]; omega) fun x hx => ?_
  rw [tie_len, l1] at hx
  rw [row_tie (by omega) (by omega)]
  by_cases c : u.length = x
  · rw [if_pos c, row_app' (Nat.le_refl _), row_app (u := leaf u o q) (by rw [leaf_len]; omega), row_leaf h, if_pos c.symm]
    unfold ins; simp
  · rw [if_neg c]
    by_cases d : o = x
    · rw [if_pos d, row_app h, row_app (u := leaf u o q) (by rw [leaf_len]; omega), row_leaf h, if_neg (by omega), if_pos d]
    · rw [if_neg d]
      by_cases e : x < u.length
      · rw [row_app e, row_app (u := leaf u o q) (by rw [leaf_len]; omega), row_leaf h, if_neg (by omega), if_neg d]
      · rw [row_app' (by omega), row_app' (by rw [leaf_len]; omega)]
theorem tie_app {u : W} {k o q p : Nat} (h : o < u.length) (hp : p < u.length) : tie (u ++ List.replicate k []) o q p 0 = tie u o q p 0 ++ List.replicate k [] := by
  have l1 : (u ++ List.replicate k ([] : List Nat)).length = u.length + k := by simp
  refine ext_rows (by rw [tie_len, l1, List.length_append, tie_len, List.length_replicate]) fun x hx => ?_
  rw [tie_len, l1] at hx
  rw [row_tie (by omega) (by omega)]
  by_cases e : x < u.length
  · rw [row_app (u := tie u o q p 0) (by rw [tie_len]; exact e), row_tie h hp, row_app h, row_app hp, row_app e]
  · rw [if_neg (by omega), if_neg (by omega), row_app' (by omega), row_app' (by rw [tie_len]; omega)]
end Wb

set_option Elab.async false
set_option linter.all false
set_option maxRecDepth 100000
set_option maxHeartbeats 4000000
namespace K61
open PySem L2 Wb
open Wy Ws
/-! ### the law's own defs -/
def spCellAt : DSp := fun ds P => ∃ (ns : List Int) (k : Nat), ds = [.scr ns, natD k] ∧ ∀ v : Int, P (.int v)
theorem ok__law_cell_at {P : Program} {w : World} {mg : Str → Option Value} {base : Heap} {Z : DC} (T : Txt Z mg) : FnOk P w Z.K mg base CX0 1 T.d__law_cell_at.f T.d__law_cell_at.fd ["_law_script", "_law_k"] (liftSp Z spCellAt) := by
  have nd := sc__law_cell_at.nd
  refine fn_data T.d__law_cell_at.F sc__law_cell_at [0, 0] (by decide) (fun ds R h => by obtain ⟨_, _, rfl, _⟩ := h; rfl) (fun cdv A outer s H E ds R hr h => ?_)
  have hu := hr.units
  refine ⟨_, (dss_cons (ds_if (dt_cmp od_lt (de_var 1) (de_callB cd_len rfl T.B.len bd_len (da_cons (de_var 0) da_nil)) (nomark _)) (dss_one (ds_ret (de_ix (de_var 0) (de_var 1)))) dss_nil)
      (dss_one (ds_ret de_int))), ?_⟩
  obtain ⟨ns, k, rfl, q⟩ := h
  refine ⟨_, rfl, _, rfl, ?_⟩
  refine ⟨_, rfl, ite_of (fun e => ?_) (fun e => ?_)⟩
  · have hk : k < ns.length := by
      have := of_decide_eq_true e
      omega
    exact ⟨_, rfl, _, rfl, _, atI_nat (List.getElem?_eq_getElem hk), q _⟩
  · exact q 0
def spDrawn : DSp := fun ds P => ∃ (c : Int), ds = [.int c] ∧ ∀ v : Int, P (.int v)
theorem ok__law_drawn {P : Program} {w : World} {mg : Str → Option Value} {base : Heap} {Z : DC} (T : Txt Z mg) : FnOk P w Z.K mg base CX0 1 T.d__law_drawn.f T.d__law_drawn.fd ["_law_cell"] (liftSp Z spDrawn) := by
  have nd := sc__law_drawn.nd
  refine fn_data T.d__law_drawn.F sc__law_drawn [0, 0] (by decide) (fun ds R h => by obtain ⟨_, rfl, _⟩ := h; rfl) (fun cdv A outer s H E ds R hr h => ?_)
  have hu := hr.units
  refine ⟨_, (dss_cons (ds_if (DW.dt (dw_or (dt_cmp (od_eq hu) (de_var 0) de_int (nomark _)) (dw_or1 (DW.dt (dw_and (dt_cmp (od_eq hu) (de_op od_mod (de_var 0) de_int) de_int (nomark _)) (dw_and1 (dt_cmp od_gt (de_var 0) (de_op od_pow de_int de_int) (nomark _)))))))) (dss_one (ds_ret (de_op od_div (de_var 0) de_int))) dss_nil)
      (dss_cons (ds_set false 1 nd (de_op od_mod (de_op od_add (de_op od_mul (de_op od_mod (de_var 0) de_int) de_int) de_int) de_int))
      (dss_cons (ds_set false 1 nd (de_op od_mod (de_op od_add (de_op od_mul (de_var 1) (de_var 1)) de_int) de_int))
      (dss_one (ds_ret (de_op od_div (de_op od_pow (de_op od_add (de_var 1) de_int) de_int) de_int)))))), ?_⟩
  obtain ⟨c, rfl, q⟩ := h
  have m1 := modOk (c % 2147483629 * 48271 + 7919) 2147483647 (by decide)
  have m2 := modOk ((c % 2147483629 * 48271 + 7919) % 2147483647 * ((c % 2147483629 * 48271 + 7919) % 2147483647) + 104729) 2147483629 (by decide)
  have fin : ∀ v : Int, R (.int v) := q
  refine ⟨_, rfl, eqC ⟨_, rfl, ite_of (fun _ => iteT ⟨_, rfl, ⟨by decide, by decide⟩, q _⟩) (fun _ => ?_)⟩⟩
  refine ⟨_, rfl, (by show (0 : Int) < 2; decide), eqC ⟨_, rfl, ite_of (fun _ => ⟨_, rfl, ⟨by decide, by decide, by decide⟩, _, rfl, ite_of (fun _ => ⟨_, rfl, ⟨by decide, by decide⟩, q _⟩) (fun _ => ?_)⟩) (fun _ => iteF ?_)⟩⟩
  · refine ⟨_, rfl, (by show (0 : Int) < 2147483629; decide), .inr ⟨by decide, by decide⟩, (by show (0 : Int) < 2147483647; decide), trivial, ?_⟩
    refine ⟨_, rfl, _, rfl, .inl ⟨by dsimp only; omega, by dsimp only; omega⟩, (by show (0 : Int) < 2147483629; decide), trivial, ?_⟩
    exact ⟨_, rfl, ⟨by decide, by decide, by dsimp only; omega⟩, ⟨by decide, by decide⟩, q _⟩
  · refine ⟨_, rfl, (by show (0 : Int) < 2147483629; decide), .inr ⟨by decide, by decide⟩, (by show (0 : Int) < 2147483647; decide), trivial, ?_⟩
    refine ⟨_, rfl, _, rfl, .inl ⟨by dsimp only; omega, by dsimp only; omega⟩, (by show (0 : Int) < 2147483629; decide), trivial, ?_⟩
    exact ⟨_, rfl, ⟨by decide, by decide, by dsimp only; omega⟩, ⟨by decide, by decide⟩, q _⟩
theorem lcF_nil {i : Nat} : ∀ (items : List D) (ρ : DN) (acc : List D) (N : List D → Prop), acc.length + items.length ≤ sizeLine → N (acc ++ List.replicate items.length (.lst [])) → lcF (dgName i) (fLst dNil) items ρ acc N
  | [], ρ, acc, N, _, h => by
    show N acc
    simpa using h
  | x :: xs, ρ, acc, N, hz, h => by
    rw [List.length_cons] at hz
    refine ⟨by show 0 ≤ sizeLine; decide, by omega, ?_⟩
    refine lcF_nil xs _ (acc ++ [.lst []]) N (by simp; omega) ?_
    rw [List.append_assoc]
    exact h
theorem webW_set (w : W) (i : Nat) (r : List Nat) : (w.map rowW).set i (rowW r) = (w.set i r).map rowW := by rw [List.map_set]
theorem ins_natD (r : List Nat) (i x : Nat) : ins (r.map natD) i (natD x) = (ins r i x).map natD := by
  unfold ins
  simp [List.map_take, List.map_drop]
def spTiedT : DSp := fun ds P => ∃ (n : Nat) (m : Int), ds = [natD n, .int m] ∧ 1 ≤ n ∧ n ≤ 8 ∧ ∀ w, Good w → w.length = n → P (webW w)
theorem ok__law_tied_turns {P : Program} {w : World} {mg : Str → Option Value} {base : Heap} {Z : DC} (T : Txt Z mg) : FnOk P w Z.K mg base CX0 1 T.d__law_tied_turns.f T.d__law_tied_turns.fd ["_law_many", "_law_number"] (liftSp Z spTiedT) := by
  have nd := sc__law_tied_turns.nd
  refine fn_data T.d__law_tied_turns.F sc__law_tied_turns [0, 0, 2, 0, 0, 0, 0] (by decide) (fun ds R h => by obtain ⟨_, _, rfl, _⟩ := h; rfl) (fun cdv A outer s H E ds R hr h => ?_)
  have hu := hr.units
  refine ⟨_, (dss_cons (ds_newlcF 2 (NC := ["_law_k"]) (src := [none]) rfl nd (CompOk.of (defScope s__law_tied_turns) rfl rfl (by decide +kernel) (by decide +kernel) (by decide +kernel)) trivial (di_range1 rfl T.B.range (da_cons (de_var 0) da_nil)) (fun _ _ _ => (dg_name 0 (show (["_law_k"] : List Str).Nodup from by decide +kernel))) (fun _ _ _ => (df_lst da_nil)))
      (dss_cons (ds_set false 3 nd (de_op od_add de_int (de_op od_mod (de_var 1) de_int)))
      (dss_cons (ds_set false 1 nd (de_op od_div (de_var 1) de_int))
      (dss_cons (ds_forR rfl PassesOwn.never (dr_range2 rfl T.B.range (da_cons de_int (da_cons (de_var 0) da_nil))) (dt_name 4 nd) (dss_cons (ds_set false 5 nd (de_op od_mod (de_var 1) (de_var 4)))
      (dss_cons (ds_set false 1 nd (de_op od_div (de_var 1) (de_var 4)))
      (dss_one (ds_forR rfl PassesOwn.never (dr_range1 rfl T.B.range (da_cons (de_var 4) da_nil)) (dt_name 6 nd) (dss_cons (ds_if (DW.dt (dw_or (dt_cmp (od_eq hu) (de_var 6) (de_var 5) (nomark _)) (dw_or1 (dt_cmp (od_eq hu) (de_op od_mod (de_var 1) (de_var 3)) de_int (nomark _))))) (dss_cons (ds_ins2 false 2 (de_var 6) (de_op od_mod (de_op od_div (de_var 1) (de_var 3)) (de_op od_add (de_callB cd_len rfl T.B.len bd_len (da_cons (de_ix (de_var 2) (de_var 6)) da_nil)) de_int)) (de_var 4))
      (dss_one (ds_ins2 false 2 (de_var 4) de_int (de_var 6)))) dss_nil)
      (dss_one (ds_set true 1 nd (de_op od_div (de_op od_div (de_var 1) (de_var 3)) (de_op od_add (de_callB cd_len rfl T.B.len bd_len (da_cons (de_ix (de_var 2) (de_var 6)) da_nil)) de_int))))))))))
      (dss_one (ds_ret (de_var 2))))))), ?_⟩
  obtain ⟨n, m, rfl, h1, h8, q⟩ := h
  refine ⟨_, rfl, ⟨by show -(2 ^ 62) ≤ (n : Int); omega, by show (n : Int) < 2 ^ 62; omega⟩, ?_⟩
  have lr : (rangeD 0 n).length = n := by unfold rangeD; simp
  refine lcF_nil _ _ [] _ (by show 0 + (rangeD 0 n).length ≤ _; rw [lr]; exact small (by omega)) ?_
  have e0 : D.lst ([] ++ List.replicate (rangeD 0 ((n : Int)).toNat).length (.lst [])) = webW (List.replicate n []) := by
    unfold webW
    rw [show ((n : Int)).toNat = n by omega, lr, List.map_replicate]; rfl
  rw [e0]
  have tk := modOk m 4 (by decide)
  refine ⟨_, rfl, (by show (0 : Int) < 4; decide), trivial, ?_⟩
  refine ⟨_, rfl, ⟨by decide, by decide⟩, trivial, ?_⟩
  refine ⟨_, rfl, ⟨by decide, by decide, by show -(2 ^ 62) ≤ (n : Int); omega, by show (n : Int) < 2 ^ 62; omega⟩, ?_⟩
  rw [show ((n : Int) - 1).toNat = n - 1 by omega]
  generalize hth : 1 + m % 4 = th
  have th1 : 0 < th ∧ th < 1073741824 := by omega
  refine for_rng (fun j ρ => ∃ (x : Int) (v : W) (o4 o5 o6 : Option D), ρ = [some (natD n), some (.int x), some (webW (v ++ List.replicate (n - j - 1) [])), some (.int th), o4, o5, o6] ∧ Good v ∧ v.length = j + 1) ?_ ?_ ?_
  · refine ⟨m / 4, [[]], none, none, none, ?_, good_one, rfl⟩
    have : List.replicate n ([] : List Nat) = [[]] ++ List.replicate (n - 0 - 1) [] := by
      obtain ⟨k, rfl⟩ : ∃ k, n = k + 1 := ⟨n - 1, by omega⟩
      rfl
    rw [this]
    rfl
  · rintro j _ hj ⟨x, v, o4, o5, o6, rfl, gv, lv⟩ A hA
    have hq0 : (0 : Int) < 1 + (j : Int) := by omega
    have fi := modOk x (1 + (j : Int)) hq0
    refine ⟨_, rfl, _, rfl, hq0, trivial, ?_⟩
    refine ⟨_, rfl, _, rfl, ⟨hq0, by show 1 + (j : Int) < 1073741824; omega⟩, trivial, ?_⟩
    refine ⟨_, rfl, ⟨by show -(2 ^ 62) ≤ 1 + (j : Int); omega, by show 1 + (j : Int) < 2 ^ 62; omega⟩, ?_⟩
    rw [show ((1 : Int) + (j : Int)).toNat = j + 1 by omega]
    obtain ⟨fs, hfs⟩ : ∃ fs, fs = x % (1 + (j : Int)) := ⟨_, rfl⟩
    rw [← hfs] at fi
    refine for_rng0 (fun o ρ => ∃ (y : Int) (u : W) (o6 : Option D) (k : Nat), ρ = [some (natD n), some (.int y), some (webW (u ++ List.replicate k [])), some (.int th), some (.int (1 + (j : Int))), some (.int fs), o6] ∧ Good u ∧ u.length + k = n ∧ ((u.length = j + 1 ∧ ¬ fs < o) ∨ (u.length = j + 2 ∧ ∀ a ∈ row u (j + 1), a < o))) ?_ ?_ ?_
    · exact ⟨x / (1 + (j : Int)), v, o6, n - j - 1, by rw [hfs]; rfl, gv, by omega, .inl ⟨lv, by omega⟩⟩
    · rintro o _ ho ⟨y, u, o6, k, rfl, gu, lu, hs⟩ A' hA'
      have lo : o < u.length := by omega
      have rl : ∀ x, (row u x).length ≤ 8 := fun x => by have := row_len gu x; omega
      have fin : ∀ (E' : DEnds) (u' : W) (k' : Nat), E'.nx = A' → Good u' → u'.length + k' = n → ((u'.length = j + 1 ∧ ¬ fs < ((o + 1 : Nat) : Int)) ∨ (u'.length = j + 2 ∧ ∀ a ∈ row u' (j + 1), a < o + 1)) →
          dSet [0, 0, 2, 0, 0, 0, 0] true 1 (dOp dDiv (dOp dDiv (dVar 1) (dVar 3)) (dOp dAdd (dCall bLen (dCons (dOp dIx (dVar 2) (dVar 6)) dNil)) (dC (D.int 1)))) E' [some (natD n), some (.int y), some (webW (u' ++ List.replicate k' [])), some (.int th), some (.int (1 + (j : Int))), some (.int fs), some (natD o)] := by
        intro E' u' k' hE gu' lu' hs'
        have lo' : o < u'.length := by omega
        have rl' : (row u' o).length ≤ 8 := by have := row_len gu' o; omega
        have e1 : atI ((u' ++ List.replicate k' []).map rowW) ((o : Nat) : Int) = some (rowW (row u' o)) := by
          have := atI_natD (web_row (w := u' ++ List.replicate k' []) (p := o) (by rw [List.length_append]; omega))
          rw [row_app lo'] at this
          exact this
        refine ⟨_, rfl, _, rfl, th1, _, rfl, _, rfl, _, e1, ?_⟩
        dsimp only [dNil, bLen, rowW]
        refine ⟨⟨by show (0 : Int) < (((row u' o).map natD).length : Int) + 1; omega, by show (((row u' o).map natD).length : Int) + 1 < 1073741824; rw [List.length_map]; omega⟩, rfl, ?_⟩
        rw [hE]
        exact hA' _ ⟨_, u', _, k', rfl, gu', lu', hs'⟩
      have l1 : (u ++ List.replicate k ([] : List Nat)).length = n := by rw [List.length_append, List.length_replicate]; exact lu
      have lm : ∀ v : W, (v.map rowW).length = v.length := fun v => List.length_map _
      have put : ∀ (E' : DEnds), E'.nx = A' → dSeq (dIns2 [0, 0, 2, 0, 0, 0, 0] false 2 (dVar 6) (dOp dMod (dOp dDiv (dVar 1) (dVar 3)) (dOp dAdd (dCall bLen (dCons (dOp dIx (dVar 2) (dVar 6)) dNil)) (dC (D.int 1)))) (dVar 4)) (dIns2 [0, 0, 2, 0, 0, 0, 0] false 2 (dVar 4) (dC (D.int 0)) (dVar 6))
          { E' with nx := dSet [0, 0, 2, 0, 0, 0, 0] true 1 (dOp dDiv (dOp dDiv (dVar 1) (dVar 3)) (dOp dAdd (dCall bLen (dCons (dOp dIx (dVar 2) (dVar 6)) dNil)) (dC (D.int 1)))) E' } [some (natD n), some (.int y), some (webW (u ++ List.replicate k [])), some (.int th), some (.int (1 + (j : Int))), some (.int fs), some (natD o)] := by
        intro E' hE
        have e1 : atI ((u ++ List.replicate k []).map rowW) ((o : Nat) : Int) = some (rowW (row u o)) := by
          have := atI_natD (web_row (w := u ++ List.replicate k []) (p := o) (by omega))
          rw [row_app lo] at this
          exact this
        have e2 : ((u ++ List.replicate k []).map rowW)[o]? = some (.lst ((row u o).map natD)) := by
          have := web_row (w := u ++ List.replicate k []) (p := o) (by omega)
          rw [row_app lo] at this
          exact this
        refine ⟨_, rfl, _, rfl, _, o, _, rfl, by rw [lm, l1]; exact ixN_natD (by omega), e2, _, rfl, _, rfl, th1, _, rfl, _, rfl, _, e1, ?_⟩
        dsimp only [dNil, bLen, rowW]
        have rlo := rl o
        have lq : (((row u o).map natD).length : Int) = ((row u o).length : Int) := by rw [List.length_map]
        have mq := modOk (y / th) (((row u o).length : Int) + 1) (by omega)
        refine ⟨by show (0 : Int) < (((row u o).map natD).length : Int) + 1; omega, _, rfl, _, rfl, trivial, ⟨?_, ?_, small1000 (by rw [List.length_map]; omega)⟩, ?_⟩
        · rw [lq]; exact mq.1
        · rw [lq]; show y / th % (((row u o).length : Int) + 1) ≤ _; omega
        generalize (((fun i j => i % j) (y / th) (((row u o).map natD).length + 1 : Int)).toNat) = iq
        have l2 : ((u ++ List.replicate k ([] : List Nat)).set o (ins (row u o) iq (j + 1))).length = n := by rw [List.length_set, l1]
        have es : ((u ++ List.replicate k []).map rowW).set o (.lst (ins ((row u o).map natD) iq (.int (1 + (j : Int))))) = ((u ++ List.replicate k []).set o (ins (row u o) iq (j + 1))).map rowW := by
          rw [← webW_set]
          congr 1
          unfold rowW
          rw [← ins_natD]
          unfold natD
          rw [show ((j + 1 : Nat) : Int) = 1 + (j : Int) by omega]
        have er : row ((u ++ List.replicate k []).set o (ins (row u o) iq (j + 1))) (j + 1) = row (u ++ List.replicate k []) (j + 1) := by
          rw [row_set (by omega), if_neg (by omega)]
        have rlj : (row (u ++ List.replicate k []) (j + 1)).length ≤ 8 := by
          by_cases c : j + 1 < u.length
          · rw [row_app c]; exact rl _
          · rw [row_app' (by omega)]; exact Nat.zero_le _
        refine ⟨((u ++ List.replicate k []).set o (ins (row u o) iq (j + 1))).map rowW, by rw [← es]; rfl, _, rfl, 1 + (j : Int), j + 1, (row (u ++ List.replicate k []) (j + 1)).map natD, rfl, ?_, ?_, 0, rfl, _, rfl, trivial, ⟨by decide, by omega, small1000 (by rw [List.length_map]; omega)⟩, ?_⟩
        · rw [lm, l2, show 1 + (j : Int) = ((j + 1 : Nat) : Int) by omega]; exact ixN_natD (by omega)
        · have := web_row (w := (u ++ List.replicate k []).set o (ins (row u o) iq (j + 1))) (p := j + 1) (by omega)
          rw [er] at this
          exact this
        have e3 : D.lst ((((u ++ List.replicate k []).set o (ins (row u o) iq (j + 1))).map rowW).set (j + 1) (.lst (ins ((row (u ++ List.replicate k []) (j + 1)).map natD) (0 : Int).toNat (natD o)))) = webW (tie (u ++ List.replicate k []) o iq (j + 1) 0) := by
          have e5 := webW_set ((u ++ List.replicate k []).set o (ins (row u o) iq (j + 1))) (j + 1) (ins (row (u ++ List.replicate k []) (j + 1)) 0 o)
          have e4 : rowW (ins (row (u ++ List.replicate k []) (j + 1)) 0 o) = .lst (ins ((row (u ++ List.replicate k []) (j + 1)).map natD) 0 (natD o)) := by
            unfold rowW
            rw [← ins_natD]
          rw [e4] at e5
          unfold tie webW
          rw [row_app lo, ← e5]
          rfl
        obtain ⟨u', k', eT, gu', lu', hs'⟩ : ∃ u' k', tie (u ++ List.replicate k []) o iq (j + 1) 0 = u' ++ List.replicate k' [] ∧ Good u' ∧ u'.length + k' = n ∧ ((u'.length = j + 1 ∧ ¬ fs < ((o + 1 : Nat) : Int)) ∨ (u'.length = j + 2 ∧ ∀ a ∈ row u' (j + 1), a < o + 1)) := by
          rcases hs with ⟨h, hf⟩ | ⟨h, ha⟩
          · obtain ⟨k', rfl⟩ : ∃ k', k = k' + 1 := ⟨k - 1, by omega⟩
            refine ⟨leaf u o iq, k', ?_, good_leaf gu lo, by rw [leaf_len]; omega, .inr ⟨by rw [leaf_len]; omega, fun a ha => ?_⟩⟩
            · have := tie_leaf (k := k') (q := iq) lo
              rw [h] at this
              exact this
            · rw [row_leaf lo, if_pos h.symm] at ha
              have : a = o := by simpa using ha
              omega
          · have nt : j + 1 ∉ row u o := fun z => absurd (ha o (gu.sym _ _ z)) (Nat.lt_irrefl _)
            refine ⟨tie u o iq (j + 1) 0, k, tie_app lo (by omega), good_tie gu lo (by omega) (by omega) nt, by rw [tie_len]; exact lu, .inr ⟨by rw [tie_len]; exact h, fun a hm => ?_⟩⟩
            rw [row_tie lo (by omega), if_pos rfl, mem_ins] at hm
            rcases hm with hm | hm
            · omega
            · have := ha a hm; omega
        have := fin E' u' k' hE gu' lu' hs'
        rw [← eT, ← e3] at this
        exact this
      have skp : ∀ (E' : DEnds), E'.nx = A' → ¬ (o : Int) = fs → dSet [0, 0, 2, 0, 0, 0, 0] true 1 (dOp dDiv (dOp dDiv (dVar 1) (dVar 3)) (dOp dAdd (dCall bLen (dCons (dOp dIx (dVar 2) (dVar 6)) dNil)) (dC (D.int 1)))) E' [some (natD n), some (.int y), some (webW (u ++ List.replicate k [])), some (.int th), some (.int (1 + (j : Int))), some (.int fs), some (natD o)] := fun E' hE ne =>
        fin E' u k hE gu lu (by
          rcases hs with ⟨h, hf⟩ | ⟨h, ha⟩
          · exact .inl ⟨h, by omega⟩
          · exact .inr ⟨h, fun a hm => by have := ha a hm; omega⟩)
      refine ⟨_, rfl, _, rfl, dEq_int ⟨_, rfl, ite_of (fun _ => iteT (put _ rfl)) (fun e => ?_)⟩⟩
      have ne : ¬ (o : Int) = fs := of_decide_eq_false e
      exact ⟨_, rfl, _, rfl, th1.1, eqC ⟨_, rfl, ite_of (fun _ => put _ rfl) (fun _ => skp _ rfl ne)⟩⟩
    · rintro _ ⟨y, u, o6, k, rfl, gu, lu, hs⟩
      have : u.length = j + 2 := by
        rcases hs with h | h
        · exact absurd (show fs < ((j + 1 : Nat) : Int) by omega) h.2
        · exact h.1
      refine hA _ ⟨y, u, some (.int (1 + (j : Int))), some (.int fs), o6, ?_, gu, by omega⟩
      rw [show n - (j + 1) - 1 = k by omega]
  · rintro _ ⟨x, v, o4, o5, o6, rfl, gv, lv⟩
    refine ⟨_, rfl, ?_⟩
    rw [show n - (n - 1) - 1 = 0 by omega, List.replicate_zero, List.append_nil]
    exact q v gv (by omega)
end K61

set_option Elab.async false
set_option linter.all false
set_option maxRecDepth 100000
set_option maxHeartbeats 4000000
namespace K61
open PySem L2 Wb
open Wy Ws
theorem ins_intD (r : List Int) (i : Nat) (x : Int) : ins (intsD r) i (.int x) = intsD (ins r i x) := by
  unfold ins intsD
  simp [List.map_take, List.map_drop]
def spWebL : DSp := fun ds P => ∃ (w : W), ds = [webW w] ∧ Good w ∧ 1 ≤ w.length ∧ w.length ≤ 14 ∧ P (.web w)
theorem ok__law_web {P : Program} {w : World} {mg : Str → Option Value} {base : Heap} {Z : DC} (T : Txt Z mg) : FnOk P w Z.K mg base CX0 6 T.d__law_web.f T.d__law_web.fd ["_law_turns"] (liftSp Z spWebL) := by
  have g_Web___init__ := ok_Web___init__ (P := P) (w := w) (base := base) T
  have nd := sc__law_web.nd
  refine fn_data T.d__law_web.F sc__law_web [0] (by decide) (fun ds R h => by obtain ⟨_, rfl, _⟩ := h; rfl) (fun cdv A outer s H E ds R hr h => ?_)
  have hu := hr.units
  refine ⟨_, (dss_one (ds_ret (de_make T.mkW g_Web___init__ (hr.mono (by decide)) rfl T.mC T.m___init__b (da_cons (de_lc (NC := ["_law_row"]) (src := [none]) rfl (CompOk.of (defScope s__law_web) rfl rfl (by decide +kernel) (by decide +kernel) (by decide +kernel)) trivial (di_list (de_var 0)) (fun _ _ _ => (dg_name 0 (show (["_law_row"] : List Str).Nodup from by decide +kernel))) (fun _ _ _ => dts_nil) (fun _ _ _ => (de_callTy cd_list rfl T.B.list bd_list (da_cons (de_var 0) da_nil)))) da_nil)))), ?_⟩
  obtain ⟨w', rfl, g, h1, h14, q⟩ := h
  exact ⟨_, rfl, lc_all (ρ := [none]) rowW rowW w' _ (fun y hy Y h => ⟨_, rfl, h⟩) rfl (small (by omega)) fun ρ' => ⟨w', rfl, g, h1, h14, q⟩⟩
theorem as_of {t : DTS} {E : DEnds} {ρ : DN} (ρ' : DN) (e : ρ = ρ') (h : t E ρ') : t E ρ := by rw [e]; exact h
theorem two_at {x : Int} {a b : D} (h : x = 0 ∨ x = 1) : atI [a, b] x = some a ∨ atI [a, b] x = some b := by
  rcases h with e | e
  · left; rw [e]; rfl
  · right; rw [e]; rfl
theorem gtC {i j : Int} {P : D → Prop} {ρ : DN} (h : P (.bl (decide (j < i)))) : dC (.int j) ρ (fun b => dGt (.int i) b P) := h
theorem ltC {i j : Int} {P : D → Prop} {ρ : DN} (h : P (.bl (decide (i < j)))) : dC (.int j) ρ (fun b => dLt (.int i) b P) := h
def spListed : DSp := fun ds P => ∃ (n : Nat) (c v : Int), ds = [natD n, .int c, .int v] ∧ n ≤ 14 ∧ ∀ ls : List (List Int), ls.length = n → (∀ l ∈ ls, l.length ≤ 4) → P (lsW ls)
theorem ok__law_listed {P : Program} {w : World} {mg : Str → Option Value} {base : Heap} {Z : DC} (T : Txt Z mg) : FnOk P w Z.K mg base CX0 1 T.d__law_listed.f T.d__law_listed.fd ["_law_many", "_law_cell", "_law_number"] (liftSp Z spListed) := by
  have nd := sc__law_listed.nd
  refine fn_data T.d__law_listed.F sc__law_listed [0, 0, 0, 0, 0, 1, 0, 1, 0] (by decide) (fun ds R h => by obtain ⟨_, _, _, rfl, _⟩ := h; rfl) (fun cdv A outer s H E ds R hr h => ?_)
  have hu := hr.units
  refine ⟨_, (dss_cons (ds_set false 3 nd (de_ix (de_lst (da_cons de_int (da_cons (de_op od_sub (de_op od_mod (de_var 1) (de_op od_sub (de_op od_pow de_int de_int) de_int)) de_int) da_nil))) (de_op od_div (de_op od_mod (de_var 1) de_int) de_int)))
      (dss_cons (ds_set false 4 nd (de_op od_add de_int (de_op od_mod (de_var 2) de_int)))
      (dss_cons (ds_set false 2 nd (de_op od_div (de_var 2) de_int))
      (dss_cons (ds_new 5 nd (df_lst da_nil))
      (dss_cons (ds_forR rfl PassesOwn.never (dr_range1 rfl T.B.range (da_cons (de_var 0) da_nil)) (dt_name 6 nd) (dss_cons (ds_new 7 nd (df_lst da_nil))
      (dss_cons (ds_forR rfl PassesOwn.never (dr_range1 rfl T.B.range (da_cons (de_var 4) da_nil)) (dt_name 8 nd) (dss_cons (ds_if (DW.dt (dw_and (dt_cmp od_gt (de_op od_mod (de_var 2) de_int) de_int (nomark _)) (dw_and1 (dt_cmp od_lt (de_callB cd_len rfl T.B.len bd_len (da_cons (de_var 7) da_nil)) de_int (nomark _))))) (dss_cons (ds_ins false 7 (de_op od_mod (de_op od_div (de_var 2) de_int) (de_op od_add (de_callB cd_len rfl T.B.len bd_len (da_cons (de_var 7) da_nil)) de_int)) (de_op od_add (de_var 3) (de_var 8)))
      (dss_one (ds_set true 2 nd (de_op od_div (de_var 2) (de_callB cd_len rfl T.B.len bd_len (da_cons (de_var 7) da_nil)))))) dss_nil)
      (dss_one (ds_set false 2 nd (de_op od_div (de_var 2) de_int)))))
      (dss_one (ds_appM 5 7)))))
      (dss_one (ds_ret (de_var 5)))))))), ?_⟩
  obtain ⟨n, c, v, rfl, h14, q⟩ := h
  have m3 := modOk c 3 (by decide)
  have m5 := modOk v 5 (by decide)
  obtain ⟨base, hbase⟩ : ∃ b : Int, atI [D.int 0, .int (c % (10 ^ 60 - 10) - 9)] (c % 3 / 2) = some (.int b) := by
    rcases two_at (x := c % 3 / 2) (a := D.int 0) (b := .int (c % (10 ^ 60 - 10) - 9)) (by omega) with e | e
    · exact ⟨_, e⟩
    · exact ⟨_, e⟩
  refine ⟨_, rfl, ⟨by decide, by decide, by decide⟩, (by show (0 : Int) < 10 ^ 60 - 10; decide), by show 2 ≤ sizeLine; decide, _, rfl, (by show (0 : Int) < 3; decide), ⟨by decide, by decide⟩, _, hbase, trivial, ?_⟩
  refine ⟨_, rfl, (by show (0 : Int) < 5; decide), trivial, ?_⟩
  obtain ⟨k, hk, k5⟩ : ∃ k : Nat, (1 : Int) + v % 5 = (k : Int) ∧ k ≤ 5 := ⟨(1 + v % 5).toNat, by omega, by omega⟩
  have e1 : D.int (1 + v % 5) = natD k := by unfold natD; rw [hk]
  dsimp only
  rw [e1]
  refine ⟨_, rfl, ⟨by decide, by decide⟩, trivial, ?_⟩
  refine ⟨by show 0 ≤ sizeLine; decide, ?_⟩
  refine ⟨_, rfl, ⟨by show -(2 ^ 62) ≤ (n : Int); omega, by show (n : Int) < 2 ^ 62; omega⟩, ?_⟩
  rw [show ((n : Int)).toNat = n by omega]
  refine for_rng0 (fun j ρ => ∃ (x : Int) (ls : List (List Int)) (o6 o7 o8 : Option D), ρ = [some (natD n), some (.int c), some (.int x), some (.int base), some (natD k), some (lsW ls), o6, o7, o8] ∧ ls.length = j ∧ ∀ l ∈ ls, l.length ≤ 4) ?_ ?_ ?_
  · exact ⟨v / 5, [], _, _, _, rfl, rfl, fun l hl => by cases hl⟩
  · rintro j _ hj ⟨x, ls, o6, o7, o8, rfl, L, ll⟩ A hA
    refine ⟨by show 0 ≤ sizeLine; decide, ?_⟩
    refine ⟨_, rfl, ⟨by show -(2 ^ 62) ≤ (k : Int); omega, by show (k : Int) < 2 ^ 62; omega⟩, ?_⟩
    rw [show ((k : Int)).toNat = k by omega]
    refine for_rng0 (fun i ρ => ∃ (y : Int) (l : List Int) (o8 : Option D), ρ = [some (natD n), some (.int c), some (.int y), some (.int base), some (natD k), some (lsW ls), some (natD j), some (.lst (intsD l)), o8] ∧ l.length ≤ 4) ?_ ?_ ?_
    · exact ⟨x, [], _, rfl, by decide⟩
    · rintro i _ hi ⟨y, l, o8, rfl, hl⟩ A' hA'
      have fin : ∀ (E' : DEnds) (y' : Int) (l' : List Int), E'.nx = A' → l'.length ≤ 4 → dSet [0, 0, 0, 0, 0, 1, 0, 1, 0] false 2 (dOp dDiv (dVar 2) (dC (D.int 4))) E' [some (natD n), some (.int c), some (.int y'), some (.int base), some (natD k), some (lsW ls), some (natD j), some (.lst (intsD l')), some (natD i)] := fun E' y' l' hE hl' => by
        refine ⟨_, rfl, ⟨by decide, by decide⟩, trivial, ?_⟩
        rw [hE]
        exact hA' _ ⟨_, l', _, rfl, hl'⟩
      refine ⟨_, rfl, (by show (0 : Int) < 4; decide), gtC ⟨_, rfl, ite_of (fun _ => ⟨_, rfl, ?_⟩) (fun _ => iteF (fin _ y l rfl hl))⟩⟩
      dsimp only [dNil, bLen]
      refine ltC ⟨_, rfl, ite_of (fun e => ?_) (fun _ => fin _ y l rfl hl)⟩
      have l4 : l.length < 4 := by have := of_decide_eq_true e; rw [intsD_len] at this; omega
      have mq := modOk (y / 4) ((l.length : Int) + 1) (by omega)
      refine ⟨_, rfl, _, rfl, ⟨by decide, by decide⟩, _, rfl, ?_⟩
      dsimp only [dNil, bLen]
      have lq : ((intsD l).length : Int) = (l.length : Int) := by rw [intsD_len]
      refine ⟨by show (0 : Int) < ((intsD l).length : Int) + 1; omega, _, rfl, _, rfl, _, rfl, trivial, ⟨?_, ?_, small1000 (by rw [intsD_len]; omega)⟩, ?_⟩
      · rw [lq]; exact mq.1
      · rw [lq]; show y / 4 % ((l.length : Int) + 1) ≤ _; omega
      generalize ((fun i j => i % j) (y / 4) (((intsD l).length : Int) + 1)).toNat = iq
      refine as_of [some (natD n), some (.int c), some (.int y), some (.int base), some (natD k), some (lsW ls), some (natD j), some (.lst (intsD (ins l iq (base + (i : Int))))), some (natD i)] (by rw [← ins_intD]; rfl) ?_
      refine ⟨_, rfl, _, rfl, ?_⟩
      dsimp only [dNil, bLen]
      refine ⟨⟨by show (0 : Int) < ((intsD (ins l iq (base + (i : Int)))).length : Int); rw [intsD_len, ins_len]; omega, by show ((intsD (ins l iq (base + (i : Int)))).length : Int) < 1073741824; rw [intsD_len, ins_len]; omega⟩, rfl, ?_⟩
      exact fin _ _ _ rfl (by rw [ins_len]; omega)
    · rintro _ ⟨y, l, o8, rfl, hl⟩
      refine ⟨_, _, rfl, rfl, small1000 (by rw [List.length_map, L]; omega), ?_⟩
      refine hA _ ⟨y, ls ++ [l], some (natD j), none, o8, ?_, by rw [List.length_append, L]; rfl, fun l' hl' => ?_⟩
      · unfold lsW
        rw [List.map_append]; rfl
      · rcases List.mem_append.mp hl' with h | h
        · exact ll l' h
        · rw [List.mem_singleton.mp h]; exact hl
  · rintro _ ⟨x, ls, o6, o7, o8, rfl, L, ll⟩
    exact ⟨_, rfl, q ls L ll⟩
def spMade : DSp := fun ds P => ∃ (ns : List Int) (m : Nat), ds = [.scr ns, natD m] ∧ 1 ≤ m ∧ m ≤ 8 ∧ ∀ (w : W) (ls : List (List Int)), Good w → 1 ≤ w.length → w.length ≤ m → ls.length = w.length → (∀ l ∈ ls, l.length ≤ 4) → P (.tup [webW w, lsW ls])
theorem ok__law_made {P : Program} {w : World} {mg : Str → Option Value} {base : Heap} {Z : DC} (T : Txt Z mg) : FnOk P w Z.K mg base CX0 2 T.d__law_made.f T.d__law_made.fd ["_law_script", "_law_most"] (liftSp Z spMade) := by
  have g__law_cell_at := ok__law_cell_at (P := P) (w := w) (base := base) T
  have g__law_drawn := ok__law_drawn (P := P) (w := w) (base := base) T
  have g__law_listed := ok__law_listed (P := P) (w := w) (base := base) T
  have g__law_tied_turns := ok__law_tied_turns (P := P) (w := w) (base := base) T
  have nd := sc__law_made.nd
  refine fn_data T.d__law_made.F sc__law_made [0, 0, 0, 0, 0] (by decide) (fun ds R h => by obtain ⟨_, _, rfl, _⟩ := h; rfl) (fun cdv A outer s H E ds R hr h => ?_)
  have hu := hr.units
  refine ⟨_, (dss_cons (ds_set false 2 nd (de_call g__law_drawn (hr.mono (by decide)) rfl T.d__law_drawn.m T.d__law_drawn.F.kp T.d__law_drawn.b (da_cons (de_call g__law_cell_at (hr.mono (by decide)) rfl T.d__law_cell_at.m T.d__law_cell_at.F.kp T.d__law_cell_at.b (da_cons (de_var 0) (da_cons de_int da_nil))) da_nil)))
      (dss_cons (ds_set false 3 nd (de_op od_add de_int (de_op od_mod (de_var 2) (de_var 1))))
      (dss_cons (ds_set false 4 nd (de_call g__law_tied_turns (hr.mono (by decide)) rfl T.d__law_tied_turns.m T.d__law_tied_turns.F.kp T.d__law_tied_turns.b (da_cons (de_var 3) (da_cons (de_op od_div (de_var 2) (de_var 1)) da_nil))))
      (dss_one (ds_ret (de_tup (da_cons (de_var 4) (da_cons (de_call g__law_listed (hr.mono (by decide)) rfl T.d__law_listed.m T.d__law_listed.F.kp T.d__law_listed.b (da_cons (de_var 3) (da_cons (de_call g__law_cell_at (hr.mono (by decide)) rfl T.d__law_cell_at.m T.d__law_cell_at.F.kp T.d__law_cell_at.b (da_cons (de_var 0) (da_cons de_int da_nil))) (da_cons (de_call g__law_drawn (hr.mono (by decide)) rfl T.d__law_drawn.m T.d__law_drawn.F.kp T.d__law_drawn.b (da_cons (de_call g__law_cell_at (hr.mono (by decide)) rfl T.d__law_cell_at.m T.d__law_cell_at.F.kp T.d__law_cell_at.b (da_cons (de_var 0) (da_cons de_int da_nil))) da_nil)) da_nil)))) da_nil)))))))), ?_⟩
  obtain ⟨ns, m, rfl, h1, h8, q⟩ := h
  have m1 : (0 : Int) < (m : Int) := by omega
  refine ⟨_, rfl, ns, 0, rfl, fun v0 => ⟨v0, rfl, fun v => ⟨trivial, ?_⟩⟩⟩
  refine ⟨_, rfl, _, rfl, m1, trivial, ?_⟩
  obtain ⟨n, hn, n1, nm⟩ : ∃ n : Nat, (1 : Int) + v % (m : Int) = (n : Int) ∧ 1 ≤ n ∧ n ≤ m := by
    have := modOk v m m1
    exact ⟨(1 + v % (m : Int)).toNat, by omega, by omega, by omega⟩
  have e1 : D.int (1 + v % (m : Int)) = natD n := by unfold natD; rw [hn]
  dsimp only
  rw [e1]
  refine ⟨_, rfl, _, rfl, _, rfl, ⟨m1, by show (m : Int) < 1073741824; omega⟩, n, _, rfl, n1, by omega, fun w' g lw => ⟨trivial, ?_⟩⟩
  refine ⟨_, rfl, _, rfl, _, rfl, ns, 2, rfl, fun v2 => ⟨_, rfl, ns, 1, rfl, fun v3 => ⟨v3, rfl, fun v4 => ⟨n, v2, v4, rfl, by omega, fun ls l1 l2 => ?_⟩⟩⟩⟩
  exact ⟨by show 2 ≤ sizeLine; decide, q w' ls g (by omega) (by omega) (by omega) l2⟩
end K61

set_option Elab.async false
set_option linter.all false
set_option maxRecDepth 100000
set_option maxHeartbeats 4000000
namespace K61
open PySem L2 Wb
open Wy Ws
theorem range_map (n : Nat) : rangeD 0 n = (List.range n).map fun (x : Nat) => natD x := by unfold rangeD natD; simp
theorem ok__law_left {P : Program} {w : World} {mg : Str → Option Value} {base : Heap} {Z : DC} (T : Txt Z mg) : FnOk P w Z.K mg base CX0 1 T.d__law_left.f T.d__law_left.fd ["_law_turns", "_law_lists", "_law_dyeing", "_law_point"] (liftSp Z spLeft) := by
  have nd := sc__law_left.nd
  refine fn_data T.d__law_left.F sc__law_left [0, 0, 0, 0, 0] (by decide) (fun ds R h => by obtain ⟨_, _, _, _, rfl, _⟩ := h; rfl) (fun cdv A outer s H E ds R hr h => ?_)
  have hu := hr.units
  refine ⟨_, (dss_cons (ds_set false 4 nd (de_lc (NC := ["_law_other", "_law_dyeing"]) (src := [none, some 2]) rfl (CompOk.of (defScope s__law_left) rfl rfl (by decide +kernel) (by decide +kernel) (by decide +kernel)) ⟨rfl, rfl, trivial⟩ (di_list (de_ix (de_var 0) (de_var 3))) (fun _ _ _ => (dg_name 0 (show (["_law_other", "_law_dyeing"] : List Str).Nodup from by decide +kernel))) (fun _ _ _ => dts_nil) (fun _ _ _ => (de_ix (de_var 1) (de_var 0)))))
      (dss_one (ds_ret (de_lc (NC := ["_law_dye", "_law_gone"]) (src := [none, some 4]) rfl (CompOk.of (defScope s__law_left) rfl rfl (by decide +kernel) (by decide +kernel) (by decide +kernel)) ⟨rfl, rfl, trivial⟩ (di_list (de_ix (de_var 1) (de_var 3))) (fun _ _ _ => (dg_name 0 (show (["_law_dye", "_law_gone"] : List Str).Nodup from by decide +kernel))) (fun _ _ _ => (dts_one (dt_cmp od_notin (de_var 0) (de_var 1) (by with_unfolding_all rfl)))) (fun _ _ _ => (de_var 0)))))), ?_⟩
  obtain ⟨w', ls, dy, p, rfl, z, hp, q⟩ := h
  refine ⟨_, rfl, _, rfl, _, atI_natD (web_row hp), lc_all (ρ := [none, some (dyW dy)]) natD (fun q => optD (at0 dy q)) (row w' p) _ (fun y hy Y h => ?_) rfl (small (by have := z.rl p; omega)) fun ρ' => ⟨trivial, ?_⟩⟩
  · exact ⟨_, rfl, _, rfl, _, atI_natD (dy_get (by rw [z.ld]; exact z.g.rng _ _ hy)), h⟩
  have e0 : (row w' p).map (fun q => optD (at0 dy q)) = ((row w' p).map fun q => at0 dy q).map optD := by rw [List.map_map]; rfl
  rw [e0]
  refine ⟨_, rfl, _, rfl, _, atI_natD (ls_get (by rw [z.ll]; exact hp)), lc_name (ρ := [none, some (.lst (((row w' p).map fun q => at0 dy q).map optD))]) D.int (fun d => !decide (some d ∈ (row w' p).map fun q => at0 dy q)) D.int (lst ls p) _ [] _ (fun y hy Y Nn t1 t2 => ?_) ⟨none, rfl⟩ (by have := z.lr p; simp; exact small (by omega)) fun ρ' => ?_⟩
  · refine ⟨_, rfl, _, rfl, rfl, flat_opt _, _, rfl, ?_⟩
    rw [if_pos rfl, inD_opt]
    exact ite_of (fun e => ⟨_, rfl, t1 e⟩) (fun e => t2 e)
  · rw [List.nil_append]
    exact q
theorem ok__law_with {P : Program} {w : World} {mg : Str → Option Value} {base : Heap} {Z : DC} (T : Txt Z mg) : FnOk P w Z.K mg base CX0 1 T.d__law_with.f T.d__law_with.fd ["_law_dyeing", "_law_point", "_law_dye"] (liftSp Z spWithDye) := by
  have nd := sc__law_with.nd
  refine fn_data T.d__law_with.F sc__law_with [0, 0, 0, 1] (by decide) (fun ds R h => by obtain ⟨_, _, _, rfl, _⟩ := h; rfl) (fun cdv A outer s H E ds R hr h => ?_)
  have hu := hr.units
  refine ⟨_, (dss_cons (ds_new 3 nd (df_list rfl rfl T.B.list bd_list (de_var 0)))
      (dss_cons (ds_setix false 3 (de_var 1) (de_var 2))
      (dss_one (ds_ret (de_var 3))))), ?_⟩
  obtain ⟨dy, p, d, rfl, hp, h8, q⟩ := h
  have ld : (dy.map optD).length = dy.length := List.length_map _
  refine ⟨_, rfl, ?_⟩
  have es : (dy.map optD).set p (.int d) = (dy.set p (some d)).map optD := by rw [List.map_set]; rfl
  refine (?_ : dSeq (dSetIx [0, 0, 0, 1] false 3 (dVar 1) (dVar 2)) (dRet (dVar 3)) _ [some (dyW dy), some (natD p), some (.int d), some (.lst (dy.map optD))])
  refine ⟨_, rfl, trivial, _, rfl, _, rfl, _, _, rfl, ixN_natD (by rw [ld]; exact hp), ?_⟩
  rw [es]
  exact ⟨_, rfl, q⟩
theorem eq_nil {l : List D} {ps : List PyData} {P : D → Prop} (h : pyAll l = some ps) (hd : (PyData.list ps).depth ≤ 64) (q : P (.bl l.isEmpty)) : dEq (.lst l) (.lst []) P := by
  refine ⟨.list ps, .list [], by rw [D.py, h]; rfl, rfl, hd, ?_⟩
  have : PyData.eqv (.list ps) (.list []) = l.isEmpty := by
    cases l with
    | nil =>
      have : ps = [] := (Option.some.inj h).symm
      rw [this]; decide
    | cons a l =>
      cases ps with
      | nil =>
        rw [pyAll] at h
        cases e : a.py with
        | none => rw [e] at h; cases h
        | some x =>
          rw [e] at h
          cases e2 : pyAll l with
          | none => rw [e2] at h; cases h
          | some y => rw [e2] at h; cases h
      | cons b ps => rw [PyData.eqv]; rfl
  rw [if_neg Bool.false_ne_true, this]; exact q
theorem pyAll_map {α : Type} {f : α → D} {g : α → PyData} (h : ∀ a, (f a).py = some (g a)) : ∀ l : List α, pyAll (l.map f) = some (l.map g)
  | [] => rfl
  | a :: l => by
    have := pyAll_map h l
    rw [List.map_cons, pyAll, h a, this]; rfl
theorem eq_nilI {l : List Int} {P : D → Prop} (q : P (.bl l.isEmpty)) : dEq (.lst (intsD l)) (.lst []) P := by
  refine eq_nil (pyAll_map (g := fun i => PyData.int i) (fun i => rfl) l) ?_ (by unfold intsD; rw [List.isEmpty_map]; exact q)
  rw [PyData.depth]
  have := depthAll_map (f := fun i : Int => PyData.int i) (k := 1) (fun t => by simp [PyData.depth]) l
  omega
theorem ok__law_next {P : Program} {w : World} {mg : Str → Option Value} {base : Heap} {Z : DC} (T : Txt Z mg) : FnOk P w Z.K mg base CX0 2 T.d__law_next.f T.d__law_next.fd ["_law_turns", "_law_lists", "_law_dyeing"] (liftSp Z spChosen) := by
  have g__law_left := ok__law_left (P := P) (w := w) (base := base) T
  have nd := sc__law_next.nd
  refine fn_data T.d__law_next.F sc__law_next [0, 0, 0, 0] (by decide) (fun ds R h => by obtain ⟨_, _, _, rfl, _⟩ := h; rfl) (fun cdv A outer s H E ds R hr h => ?_)
  have hu := hr.units
  refine ⟨_, (dss_cons (ds_setlc 3 (NC := ["_law_point", "_law_dyeing"]) (src := [none, some 2]) rfl nd (CompOk.of (defScope s__law_next) rfl rfl (by decide +kernel) (by decide +kernel) (by decide +kernel)) ⟨rfl, rfl, trivial⟩ (di_range1 rfl T.B.range (da_cons (de_callB cd_len rfl T.B.len bd_len (da_cons (de_var 0) da_nil)) da_nil)) (fun _ _ _ => (dg_name 0 (show (["_law_point", "_law_dyeing"] : List Str).Nodup from by decide +kernel))) (fun _ _ _ => (dts_one (dt_cmp od_is (de_ix (de_var 1) (de_var 0)) de_non (nomark _)))) (fun _ _ _ => (de_var 0)))
      (dss_cons (ds_if (dt_cmp (od_eq hu) (de_var 3) (de_lst da_nil) (nomark _)) (dss_one (ds_ret de_non)) dss_nil)
      (dss_one (ds_ret (de_ix (de_callB (cd_min1 rfl hu) rfl T.B.min bd_min (da_cons (de_lc (NC := ["_law_point", "_law_turns", "_law_lists", "_law_dyeing"]) (src := [none, some 0, some 1, some 2]) rfl (CompOk.of (defScope s__law_next) rfl rfl (by decide +kernel) (by decide +kernel) (by decide +kernel)) ⟨rfl, rfl, rfl, rfl, rfl, rfl, trivial⟩ (di_list (de_var 3)) (fun _ _ _ => (dg_name 0 (show (["_law_point", "_law_turns", "_law_lists", "_law_dyeing"] : List Str).Nodup from by decide +kernel))) (fun _ _ _ => dts_nil) (fun _ _ _ => (de_tup (da_cons (de_callB cd_len rfl T.B.len bd_len (da_cons (de_call g__law_left (hr.mono (by decide)) rfl T.d__law_left.m T.d__law_left.F.kp T.d__law_left.b (da_cons (de_var 1) (da_cons (de_var 2) (da_cons (de_var 3) (da_cons (de_var 0) da_nil))))) da_nil)) (da_cons (de_var 0) da_nil))))) da_nil)) de_int))))), ?_⟩
  obtain ⟨w', ls, dy, rfl, z, q1, q2⟩ := h
  have lw : (w'.map rowW).length = w'.length := List.length_map _
  have n8 := z.n8
  refine ⟨_, rfl, ⟨by omega, by show ((w'.map rowW).length : Int) < 2 ^ 62; omega⟩, ?_⟩
  rw [show (((w'.map rowW).length : Int)).toNat = w'.length by omega, range_map]
  refine lc_name (ρ := [none, some (dyW dy)]) natD (fun p => (at0 dy p).isNone) natD (List.range w'.length) _ [] _ (fun p hp Y Nn t1 t2 => ?_) ⟨none, rfl⟩ (by rw [List.length_nil, Nat.zero_add, List.length_range]; exact small (by omega)) fun ρ' => ?_
  · refine ⟨_, rfl, _, rfl, _, atI_natD (dy_get (by rw [z.ld]; exact List.mem_range.mp hp)), ?_⟩
    have en : isNon (optD (at0 dy p)) = (at0 dy p).isNone := by cases at0 dy p <;> rfl
    refine ⟨_, rfl, ?_⟩
    refine (?_ : if (if false = true then _ else isNon (optD (at0 dy p))) = true then _ else _)
    rw [if_neg Bool.false_ne_true, en]
    exact ite_of (fun e => ⟨_, rfl, t1 e⟩) (fun e => t2 e)
  rw [List.nil_append]
  refine ⟨trivial, ?_⟩
  generalize hf : (List.range w'.length).filter (fun p => (at0 dy p).isNone) = fs
  have mf : ∀ p, p ∈ fs → p < w'.length ∧ at0 dy p = none := fun p hp => by
    rw [← hf, List.mem_filter, List.mem_range] at hp
    exact ⟨hp.1, by cases h : at0 dy p with | none => rfl | some _ => rw [h] at hp; cases hp.2⟩
  have fm : ∀ p, p < w'.length → at0 dy p = none → p ∈ fs := fun p hp hn => by
    rw [← hf, List.mem_filter, List.mem_range]
    exact ⟨hp, by rw [hn]; rfl⟩
  have lf : fs.length ≤ 8 := by
    rw [← hf]
    have := List.length_filter_le (fun p => (at0 dy p).isNone) (List.range w'.length)
    rw [List.length_range] at this
    omega
  refine ⟨_, rfl, by show 0 ≤ sizeLine; decide, eq_nil (pyAll_map (f := natD) (g := nD) (fun i => rfl) fs) (by have := depth_rowD fs; unfold rowD at this; omega) ⟨_, rfl, ite_of (fun e => ?_) (fun e => ?_)⟩⟩
  · refine q1 fun p hp hn => ?_
    have := fm p hp hn
    cases fs with
    | nil => cases this
    | cons x l => simp at e
  refine ⟨_, rfl, lc_all (ρ := [none, some (webW w'), some (lsW ls), some (dyW dy)]) natD (fun p => tupI [((left w' ls dy p).length : Int), (p : Int)]) fs _ (fun p hp Y hY => ?_) rfl (small (by omega)) fun ρ' => ?_⟩
  · refine ⟨_, rfl, _, rfl, _, rfl, _, rfl, w', ls, dy, p, rfl, z, (mf p hp).1, ?_⟩
    refine ⟨_, rfl, by show 2 ≤ sizeLine; decide, ?_⟩
    have : (D.tup [.int ((intsD (left w' ls dy p)).length : Int), .int (p : Int)]) = tupI [((left w' ls dy p).length : Int), (p : Int)] := by rw [intsD_len]; rfl
    refine (?_ : Y (D.tup [.int ((intsD (left w' ls dy p)).length : Int), .int (p : Int)]))
    rw [this]
    exact hY
  · refine ⟨fs.map (fun p => [((left w' ls dy p).length : Int), (p : Int)]), by rw [List.map_map]; rfl, ?_, fun m hm least => ?_⟩
    · intro h0
      have : fs = [] := List.map_eq_nil_iff.mp h0
      rw [this] at e; simp at e
    · obtain ⟨p, hp, rfl⟩ := List.mem_map.mp hm
      obtain ⟨a, b⟩ := mf p hp
      refine ⟨.int (p : Int), rfl, q2 p ⟨a, b, fun r hr hn => ?_⟩⟩
      exact least_pair (least _ (List.mem_map_of_mem (fm r hr hn)))
def dueD : Res → D
  | .inl _ => .non
  | .inr q => papD q
def spLS (m : Nat) : DSp := fun ds P => ∃ (w : W) (ls : List (List Int)) (dy : Dy), ds = [webW w, lsW ls, dyW dy] ∧ Sz w ls dy ∧ und dy < m ∧ ∀ r, Srch w ls (und dy) dy r → P (dueD r)
def spLS1 (m : Nat) : DSp := spLS (m + 1)
theorem isNon_papO (o : Option Pap) : isNon (papO o) = o.isNone := by
  cases o with
  | none => rw [papO]; rfl
  | some q => rw [papO]; cases q <;> rw [papD] <;> rfl
theorem st__law_search {P : Program} {w : World} {mg : Str → Option Value} {base : Heap} {Z : DC} (T : Txt Z mg) (m k : Nat) (hk : 2 ≤ k) (g__law_search : FnOk P w Z.K mg base CX0 k T.d__law_search.f T.d__law_search.fd ["_law_turns", "_law_lists", "_law_dyeing"] (liftSp Z (spLS m))) : FnOk P w Z.K mg base CX0 (k + 1) T.d__law_search.f T.d__law_search.fd ["_law_turns", "_law_lists", "_law_dyeing"] (liftSp Z (spLS1 m)) := by
  have g__law_left := ok__law_left (P := P) (w := w) (base := base) T
  have g__law_next := ok__law_next (P := P) (w := w) (base := base) T
  have g__law_with := ok__law_with (P := P) (w := w) (base := base) T
  have nd := sc__law_search.nd
  refine fn_data T.d__law_search.F sc__law_search [0, 0, 0, 0, 0, 1, 0] (by decide) (fun ds R h => by obtain ⟨_, _, _, rfl, _⟩ := h; rfl) (fun cdv A outer s H E ds R hr h => ?_)
  have hu := hr.units
  refine ⟨_, (dss_cons (ds_set false 3 nd (de_call g__law_next (hr.mono (by omega)) rfl T.d__law_next.m T.d__law_next.F.kp T.d__law_next.b (da_cons (de_var 0) (da_cons (de_var 1) (da_cons (de_var 2) da_nil)))))
      (dss_cons (ds_if (dt_cmp od_is (de_var 3) de_non (nomark _)) (dss_one (ds_ret de_non)) dss_nil)
      (dss_cons (ds_set false 4 nd (de_call g__law_left (hr.mono (by omega)) rfl T.d__law_left.m T.d__law_left.F.kp T.d__law_left.b (da_cons (de_var 0) (da_cons (de_var 1) (da_cons (de_var 2) (da_cons (de_var 3) da_nil))))))
      (dss_cons (ds_if (dt_cmp (od_eq hu) (de_var 4) (de_lst da_nil) (nomark _)) (dss_one (ds_ret (de_tup (da_cons de_str (da_cons (de_var 3) da_nil))))) dss_nil)
      (dss_cons (ds_new 5 nd (df_lst da_nil))
      (dss_cons (ds_for rfl PassesOwn.never (di_list (de_ix (de_var 1) (de_var 3))) (dt_name 6 nd) (dss_cons (ds_app false 5 de_non)
      (dss_one (ds_if (dt_cmp od_in (de_var 6) (de_var 4) (by with_unfolding_all rfl)) (dss_cons (ds_setix false 5 (de_neg de_int) (de_call g__law_search (hr.mono (by omega)) rfl T.d__law_search.m T.d__law_search.F.kp T.d__law_search.b (da_cons (de_var 0) (da_cons (de_var 1) (da_cons (de_call g__law_with (hr.mono (by omega)) rfl T.d__law_with.m T.d__law_with.F.kp T.d__law_with.b (da_cons (de_var 2) (da_cons (de_var 3) (da_cons (de_var 6) da_nil)))) da_nil)))))
      (dss_one (ds_if (dt_cmp od_is (de_ix (de_var 5) (de_neg de_int)) de_non (nomark _)) (dss_one (ds_ret de_non)) dss_nil))) dss_nil))))
      (dss_one (ds_ret (de_tup (da_cons de_str (da_cons (de_var 3) (da_cons (de_callTy cd_tuple rfl T.B.tuple bd_tuple (da_cons (de_var 5) da_nil)) da_nil)))))))))))), ?_⟩
  obtain ⟨w', ls, dy, rfl, z, hu0, q⟩ := h
  refine ⟨_, rfl, _, rfl, _, rfl, w', ls, dy, rfl, z, fun all => ⟨trivial, ?_⟩, fun p hp => ⟨trivial, ?_⟩⟩
  · refine ⟨_, rfl, _, rfl, iteT ?_⟩
    rw [und_zero z.ld all] at q
    exact q (.inl dy) rfl
  · refine ⟨_, rfl, _, rfl, iteF ?_⟩
    obtain ⟨hpw, hn, hleast⟩ := id hp
    have hpd : p < dy.length := by rw [z.ld]; exact hpw
    obtain ⟨m', hm'⟩ : ∃ m', und dy = m' + 1 := ⟨und (dy.set p (some 0)), (und_set hpd hn).symm⟩
    rw [hm'] at q
    refine ⟨_, rfl, _, rfl, _, rfl, _, rfl, w', ls, dy, p, rfl, z, hpw, trivial, ?_⟩
    refine ⟨_, rfl, by show 0 ≤ sizeLine; decide, eq_nilI ⟨_, rfl, ite_of (fun e => ?_) (fun e => ?_)⟩⟩
    · have hl : left w' ls dy p = [] := by simpa using e
      have := q (.inr (.full p)) ⟨p, hp, .inl ⟨hl, rfl⟩⟩
      exact ⟨_, rfl, by show 2 ≤ sizeLine; decide, this⟩
    · have hne : left w' ls dy p ≠ [] := by
        intro h0
        rw [h0] at e
        cases e
      refine ⟨by show 0 ≤ sizeLine; decide, ?_⟩
      have zl := z.lr p
      refine ⟨_, rfl, _, rfl, _, atI_natD (ls_get (by rw [z.ll]; exact hpw)), for_inv (fun j ρ => ∃ (ps : List (Option Pap)) (o6 : Option D), ρ = [some (webW w'), some (lsW ls), some (dyW dy), some (natD p), some (.lst (intsD (left w' ls dy p))), some (.lst (ps.map papO)), o6] ∧ ps.length = j ∧ ∀ r, Walk (Srch w' ls m') w' ls dy p ((lst ls p).drop j) ps r → Walk (Srch w' ls m') w' ls dy p (lst ls p) [] r) ⟨[], _, rfl, rfl, fun r h => h⟩ ?_ ?_⟩
      · rintro j x _ hx ⟨ps, o6, rfl, lp, up⟩ A' hA
        obtain ⟨d, hd, rfl⟩ := map_get hx
        have hj : j < (lst ls p).length := (List.getElem?_eq_some_iff.mp hd).1
        have edr : (lst ls p).drop j = d :: (lst ls p).drop (j + 1) := by
          rw [List.drop_eq_getElem_cons hj]
          congr 1
          exact Option.some.inj ((List.getElem?_eq_getElem hj).symm.trans hd)
        rw [edr] at up
        have sm : (ps.map papO).length < sizeLine := small1000 (by rw [List.length_map]; omega)
        refine ⟨_, rfl, trivial, sm, ?_⟩
        have e1 : ps.map papO ++ [D.non] = (ps ++ [none]).map papO := by rw [List.map_append]; rfl
        refine as_of [some (webW w'), some (lsW ls), some (dyW dy), some (natD p), some (.lst (intsD (left w' ls dy p))), some (.lst ((ps ++ [none]).map papO)), some (.int d)] (by rw [← e1]; rfl) ?_
        refine ⟨_, rfl, _, rfl, rfl, flat_intsS _, _, rfl, ?_⟩
        refine (?_ : if (if false = true then _ else inD (.int d) (intsD (left w' ls dy p))) = true then _ else _)
        rw [if_neg Bool.false_ne_true, inD_int]
        refine ite_of (fun e => ?_) (fun e => ?_)
        · have hdl : d ∈ left w' ls dy p := of_decide_eq_true e
          have us := und_set (d := d) hpd hn
          have l1 : ((ps ++ [none]).map papO).length = j + 1 := by rw [List.length_map, List.length_append, lp]; rfl
          refine ⟨_, rfl, _, rfl, _, rfl, _, rfl, _, rfl, dy, p, d, rfl, hpd, by rw [z.ld]; exact z.n8, w', ls, dy.set p (some d), rfl, z.put p d, by omega, fun r hr => ⟨trivial, ?_⟩⟩
          rw [show und (dy.set p (some d)) = m' by omega] at hr
          refine ⟨_, rfl, (-1 : Int), j, rfl, ?_, ?_⟩
          · rw [l1]; unfold ixN; rw [if_neg (by omega), if_pos (by omega)]; congr 1; omega
          have es : ∀ o : Option Pap, ((ps ++ [none]).map papO).set j (papO o) = (ps ++ [o]).map papO := fun o => by
            rw [List.map_append, List.map_append, ← lp]
            have : (ps.map papO).length = ps.length := List.length_map _
            rw [← this, List.set_append_right _ _ (Nat.le_refl _), Nat.sub_self]
            rfl
          have eat : ∀ o : Option Pap, atI ((ps ++ [o]).map papO) (-1) = some (papO o) := fun o => by
            have l2 : ((ps ++ [o]).map papO).length = j + 1 := by rw [List.length_map, List.length_append, lp]; rfl
            unfold atI ixN
            rw [l2, if_neg (by omega), if_pos (by omega)]
            rw [show ((-1 : Int) + ((j + 1 : Nat) : Int)).toNat = j by omega]
            show ((ps ++ [o]).map papO)[j]? = _
            rw [List.getElem?_map, List.getElem?_append_right (by omega), lp, Nat.sub_self]; rfl
          cases r with
          | inl dz =>
            refine as_of [some (webW w'), some (lsW ls), some (dyW dy), some (natD p), some (.lst (intsD (left w' ls dy p))), some (.lst ((ps ++ [none]).map papO)), some (.int d)] (congrArg (fun l => ([some (webW w'), some (lsW ls), some (dyW dy), some (natD p), some (.lst (intsD (left w' ls dy p))), some (.lst l), some (.int d)] : DN)) (show ((ps ++ [none]).map papO).set j (dueD (.inl dz)) = (ps ++ [none]).map papO from (show dueD (.inl dz) = papO none by rw [papO]; rfl) ▸ es none)) ?_
            refine ⟨_, rfl, _, eat none, _, rfl, iteT ?_⟩
            exact q (.inl dz) ⟨p, hp, .inr ⟨hne, up _ (.inl ⟨hdl, .inl ⟨dz, hr, rfl⟩⟩)⟩⟩
          | inr q2 =>
            refine as_of [some (webW w'), some (lsW ls), some (dyW dy), some (natD p), some (.lst (intsD (left w' ls dy p))), some (.lst ((ps ++ [some q2]).map papO)), some (.int d)] (congrArg (fun l => ([some (webW w'), some (lsW ls), some (dyW dy), some (natD p), some (.lst (intsD (left w' ls dy p))), some (.lst l), some (.int d)] : DN)) (show ((ps ++ [none]).map papO).set j (dueD (.inr q2)) = (ps ++ [some q2]).map papO from (show dueD (.inr q2) = papO (some q2) by rw [papO]; rfl) ▸ es (some q2))) ?_
            refine ⟨_, rfl, _, eat (some q2), ?_⟩
            refine ⟨_, rfl, ?_⟩
            rw [if_neg Bool.false_ne_true, isNon_papO]
            refine iteF (hA _ ⟨ps ++ [some q2], some (.int d), rfl, by rw [List.length_append, lp]; rfl, fun r h => up r (.inl ⟨hdl, .inr ⟨q2, hr, h⟩⟩)⟩)
        · have hdl : d ∉ left w' ls dy p := of_decide_eq_false e
          exact hA _ ⟨ps ++ [none], some (.int d), rfl, by rw [List.length_append, lp]; rfl, fun r h => up r (.inr ⟨hdl, h⟩)⟩
      · rintro _ ⟨ps, o6, rfl, lp, up⟩
        rw [intsD_len] at lp
        rw [intsD_len, List.drop_length] at up
        refine ⟨_, rfl, _, rfl, by show 3 ≤ sizeLine; decide, ?_⟩
        have := q (.inr (.cho p ps)) ⟨p, hp, .inr ⟨hne, up _ rfl⟩⟩
        rw [dueD, papD, papsD_map] at this
        exact this
theorem ok__law_search {P : Program} {w : World} {mg : Str → Option Value} {base : Heap} {Z : DC} (T : Txt Z mg) : FnOk P w Z.K mg base CX0 11 T.d__law_search.f T.d__law_search.fd ["_law_turns", "_law_lists", "_law_dyeing"] (liftSp Z (spLS 9)) := by
  have all : ∀ m, FnOk P w Z.K mg base CX0 (2 + m) T.d__law_search.f T.d__law_search.fd ["_law_turns", "_law_lists", "_law_dyeing"] (liftSp Z (spLS m)) := by
    intro m
    induction m with
    | zero =>
      refine ((fn_false (Z := Z)).imp ?_).mono (Nat.zero_le _)
      rintro vs H Q E ⟨G, ds, R, s, dv, ⟨w, ls, dy, _, _, h, _⟩, _⟩
      exact absurd h (Nat.not_lt_zero _)
    | succ m ih => exact st__law_search T m (2 + m) (by omega) ih
  exact all 9
end K61

set_option Elab.async false
set_option linter.all false
set_option maxRecDepth 100000
set_option maxHeartbeats 4000000
namespace K61
open PySem L2 Wb
open Wy Ws
theorem py_row (r : List Nat) : (rowW r).py = some (rowD r) := by
  unfold rowW rowD
  rw [D.py, pyAll_map (g := nD) (fun n => rfl)]; rfl
theorem py_web (w : W) : (webW w).py = some (webD w) := by
  unfold webW webD
  rw [D.py, pyAll_map (g := rowD) py_row]; rfl
theorem dEq_web {v w : W} {P : D → Prop} (h : P (.bl (decide (v = w)))) : dEq (webW v) (webW w) P := by
  refine ⟨_, _, py_web v, py_web w, by have := depth_webD v; omega, ?_⟩
  have : PyData.eqv (webD v) (webD w) = decide (v = w) := by
    by_cases e : v = w
    · rw [decide_eq_true e]; exact (eqv_webD v w).mpr e
    · rw [decide_eq_false e]
      apply Bool.eq_false_iff.mpr
      exact fun z => e ((eqv_webD v w).mp z)
  rw [if_neg Bool.false_ne_true, this]; exact h
def intsP (l : List Int) : PyData := .list (l.map PyData.int)
theorem eqv_int (a b : Int) : PyData.eqv (.int a) (.int b) = true ↔ a = b := by
  rw [PyData.eqv]; simp
theorem eqv_intsP (a b : List Int) : PyData.eqv (intsP a) (intsP b) = true ↔ a = b := by
  unfold intsP
  rw [PyData.eqv]
  exact eqvAll_map eqv_int a b
theorem dEq_ls {a : List (List Int)} {P : D → Prop} (h : P (.bl true)) : dEq (lsW a) (lsW a) P := by
  have py : (lsW a).py = some (.list (a.map intsP)) := by
    unfold lsW
    rw [D.py, pyAll_map (g := intsP) (fun l => by unfold intsP intsD; rw [D.py, pyAll_map (g := PyData.int) (fun i => rfl)]; rfl)]; rfl
  refine ⟨_, _, py, py, ?_, ?_⟩
  · rw [PyData.depth]
    have := depthAll_map (f := intsP) (k := 2) (fun l => by
      unfold intsP
      rw [PyData.depth]
      have := depthAll_map (f := PyData.int) (k := 1) (fun t => by simp [PyData.depth]) l
      omega) a
    omega
  · rw [if_neg Bool.false_ne_true]
    have : PyData.eqv (.list (a.map intsP)) (.list (a.map intsP)) = true := by
      rw [PyData.eqv]
      exact (eqvAll_map eqv_intsP a a).mpr rfl
    rw [this]; exact h
theorem dNe_ls {a : List (List Int)} {P : D → Prop} (h : P (.bl false)) : dNe (lsW a) (lsW a) P := by
  have py : (lsW a).py = some (.list (a.map intsP)) := by
    unfold lsW
    rw [D.py, pyAll_map (g := intsP) (fun l => by unfold intsP intsD; rw [D.py, pyAll_map (g := PyData.int) (fun i => rfl)]; rfl)]; rfl
  refine ⟨_, _, py, py, ?_, ?_⟩
  · rw [PyData.depth]
    have := depthAll_map (f := intsP) (k := 2) (fun l => by
      unfold intsP
      rw [PyData.depth]
      have := depthAll_map (f := PyData.int) (k := 1) (fun t => by simp [PyData.depth]) l
      omega) a
    omega
  · rw [if_pos rfl]
    have : PyData.eqv (.list (a.map intsP)) (.list (a.map intsP)) = true := by
      rw [PyData.eqv]
      exact (eqvAll_map eqv_intsP a a).mpr rfl
    rw [this]; exact h
theorem neC {i j : Int} {P : D → Prop} {ρ : DN} (h : P (.bl (!decide (i = j)))) : dC (.int j) ρ (fun b => dNe (.int i) b P) := dNe_int h
theorem neS {i j : Str} {P : D → Prop} {ρ : DN} (h : P (.bl (!decide (i = j)))) : dC (.str j) ρ (fun b => dNe (.str i) b P) := ⟨.str i, .str j, rfl, rfl, by simp [PyData.depth], by
  have : PyData.eqv (.str i) (.str j) = decide (i = j) := by
    rw [PyData.eqv]
    by_cases z : i = j <;> simp [z]
  rw [if_pos rfl, this]; exact h⟩
def spDyed : DSp := fun ds P => ∃ (w : W) (ls : List (List Int)) (dz : Dy), ds = [webW w, lsW ls, dyW dz] ∧ Sz w ls dz ∧ Ok w ls dz ∧ Full w dz ∧ P (.bl true)
theorem ok__law_dyed {P : Program} {w : World} {mg : Str → Option Value} {base : Heap} {Z : DC} (T : Txt Z mg) : FnOk P w Z.K mg base CX0 1 T.d__law_dyed.f T.d__law_dyed.fd ["_law_turns", "_law_lists", "_law_told"] (liftSp Z spDyed) := by
  have nd := sc__law_dyed.nd
  refine fn_data T.d__law_dyed.F sc__law_dyed [0, 0, 0, 0, 0] (by decide) (fun ds R h => by obtain ⟨_, _, _, rfl, _⟩ := h; rfl) (fun cdv A outer s H E ds R hr h => ?_)
  have hu := hr.units
  refine ⟨_, (dss_cons (ds_if (DW.dt (dw_or (dt_not (dt_tru (de_isI "list" (de_var 2) rfl T.B.isinstance rfl T.B.list bd_list))) (dw_or1 (dt_cmp (od_ne hu) (de_callB cd_len rfl T.B.len bd_len (da_cons (de_var 2) da_nil)) (de_callB cd_len rfl T.B.len bd_len (da_cons (de_var 0) da_nil)) (nomark _))))) (dss_one (ds_ret de_bl)) dss_nil)
      (dss_cons (ds_for rfl PassesOwn.never (di_enum rfl T.B.enumerate (da_cons (de_var 0) da_nil)) (dt_tup 2 rfl (dts_cons (dt_name 3 nd) (dts_cons (dt_name 4 nd) dts_nil'))) (dss_cons (ds_if (DW.dt (dw_or (dt_not (dt_tru (de_isI "int" (de_ix (de_var 2) (de_var 3)) rfl T.B.isinstance rfl T.B.int bd_int))) (dw_or (dt_tru (de_isI "bool" (de_ix (de_var 2) (de_var 3)) rfl T.B.isinstance rfl T.B.bool bd_bool)) (dw_or1 (dt_cmp od_notin (de_ix (de_var 2) (de_var 3)) (de_ix (de_var 1) (de_var 3)) (by with_unfolding_all rfl)))))) (dss_one (ds_ret de_bl)) dss_nil)
      (dss_one (ds_if (dt_cmp od_in (de_ix (de_var 2) (de_var 3)) (de_lc (NC := ["_law_other", "_law_told"]) (src := [none, some 2]) rfl (CompOk.of (defScope s__law_dyed) rfl rfl (by decide +kernel) (by decide +kernel) (by decide +kernel)) ⟨rfl, rfl, trivial⟩ (di_list (de_var 4)) (fun _ _ _ => (dg_name 0 (show (["_law_other", "_law_told"] : List Str).Nodup from by decide +kernel))) (fun _ _ _ => dts_nil) (fun _ _ _ => (de_ix (de_var 1) (de_var 0)))) (by with_unfolding_all rfl)) (dss_one (ds_ret de_bl)) dss_nil))))
      (dss_one (ds_ret de_bl)))), ?_⟩
  obtain ⟨w', ls, dz, rfl, z, ok, f, q⟩ := h
  refine ⟨_, rfl, rfl, rfl, iteF ⟨_, rfl, _, rfl, ?_⟩⟩
  dsimp only [dNil, bLen]
  refine dNe_int ?_
  refine ⟨false, ?_, iteF ?_⟩
  · have : decide (((dz.map optD).length : Int) = ((w'.map rowW).length : Int)) = true := decide_eq_true (by rw [List.length_map, List.length_map, z.ld])
    exact congrArg D.bl (by rw [this]; rfl)
  refine ⟨_, rfl, for_inv (fun _ ρ => ∃ o3 o4, ρ = [some (webW w'), some (lsW ls), some (dyW dz), o3, o4]) ⟨_, _, rfl⟩ ?_ ?_⟩
  · rintro j x _ hx ⟨o3, o4, rfl⟩ A' hA
    obtain ⟨hj, rfl⟩ := web3 hx
    obtain ⟨d, hd⟩ : ∃ d, at0 dz j = some d := by
      cases e : at0 dz j with
      | none => exact absurd e (f j hj)
      | some d => exact ⟨d, rfl⟩
    have ed : atI (dz.map optD) (j : Int) = some (.int d) := by
      have := atI_natD (dy_get (dy := dz) (p := j) (by rw [z.ld]; exact hj))
      rw [hd] at this
      exact this
    obtain ⟨o1, o2⟩ := ok.2 j d hd
    refine ⟨rfl, rfl, ?_⟩
    refine ⟨_, rfl, _, rfl, _, ed, rfl, rfl, iteF ?_⟩
    refine ⟨_, rfl, _, rfl, _, ed, rfl, rfl, iteF ?_⟩
    refine ⟨_, rfl, _, rfl, _, ed, _, rfl, _, rfl, _, atI_natD (ls_get (by rw [z.ll]; exact hj)), rfl, flat_intsS _, false, ?_, iteF ?_⟩
    · rw [if_pos rfl, inD_int, decide_eq_true o1]; rfl
    refine ⟨_, rfl, _, rfl, _, ed, _, rfl, lc_all (ρ := [none, some (dyW dz)]) natD (fun q => optD (at0 dz q)) (row w' j) _ (fun y hy Y h => ?_) rfl (small (by have := z.rl j; omega)) fun ρ' => ?_⟩
    · exact ⟨_, rfl, _, rfl, _, atI_natD (dy_get (by rw [z.ld]; exact z.g.rng _ _ hy)), h⟩
    have e0 : (row w' j).map (fun q => optD (at0 dz q)) = ((row w' j).map fun q => at0 dz q).map optD := by rw [List.map_map]; rfl
    rw [e0]
    refine ⟨rfl, flat_opt _, false, ?_, iteF (hA _ ⟨_, _, rfl⟩)⟩
    rw [if_neg Bool.false_ne_true, inD_opt, decide_eq_false]
    intro m
    obtain ⟨q, hq, e⟩ := List.mem_map.mp m
    exact o2 q hq e
  · rintro _ ⟨o3, o4, rfl⟩
    exact q
theorem py_pap : ∀ (k : Nat) (q : Pap), PD k q → ∃ d, (papD q).py = some d ∧ d.depth ≤ 2 * k + 1 ∧ PyData.eqv d d = true
  | 0, _, h => h.elim
  | k + 1, .full p, _ => ⟨.tuple [.str "full", .int p], by rw [papD]; rfl, by simp [PyData.depth, PyData.depthAll], by simp [PyData.eqv, PyData.eqvAll]⟩
  | k + 1, .cho p ps, h => by
    have all : ∀ l : List (Option Pap), (∀ q, some q ∈ l → PD k q) → ∃ ds, pyAll (l.map papO) = some ds ∧ PyData.depthAll ds ≤ 2 * k + 1 ∧ PyData.eqvAll ds ds = true := by
      intro l
      induction l with
      | nil => exact fun _ => ⟨[], rfl, by simp [PyData.depthAll], by simp [PyData.eqvAll]⟩
      | cons o l ih =>
        intro hl
        obtain ⟨ds, h3, h4, h5⟩ := ih fun q hq => hl q (List.mem_cons_of_mem _ hq)
        cases o with
        | none =>
          refine ⟨.none :: ds, by rw [List.map_cons, pyAll, h3, papO]; rfl, ?_, ?_⟩
          · simp only [PyData.depthAll, PyData.depth]; omega
          · simp [PyData.eqvAll, PyData.eqv, h5]
        | some q =>
          obtain ⟨d, h1, h2, h6⟩ := py_pap k q (hl q (List.mem_cons_self ..))
          refine ⟨d :: ds, by rw [List.map_cons, pyAll, papO, h1, h3]; rfl, ?_, ?_⟩
          · simp only [PyData.depthAll]; omega
          · simp [PyData.eqvAll, h6, h5]
    obtain ⟨ds, h1, h2, h3⟩ := all ps h.2
    refine ⟨.tuple [.str "choose", .int p, .tuple ds], ?_, ?_, ?_⟩
    · rw [papD, papsD_map]
      have : (D.tup (ps.map papO)).py = some (.tuple ds) := by rw [D.py, h1]; rfl
      rw [D.py, pyAll, pyAll, pyAll, pyAll, this]; rfl
    · simp only [PyData.depth, PyData.depthAll]
      omega
    · simp [PyData.eqv, PyData.eqvAll, h3]
theorem PD.mono : ∀ {k j : Nat} {q : Pap}, k ≤ j → PD k q → PD j q
  | 0, _, _, _, h => h.elim
  | k + 1, 0, _, hl, _ => by omega
  | k + 1, j + 1, .full _, _, _ => trivial
  | k + 1, j + 1, .cho _ ps, hl, h => ⟨h.1, fun q hq => PD.mono (by omega) (h.2 q hq)⟩
theorem eq_res {r : Res} {P : D → Prop} (hq : ∀ q, r = .inr q → PD 9 q) (h : P (.bl true)) : dEq (resD r) (resD r) P := by
  obtain ⟨d, h1, h2, h3⟩ : ∃ d, (resD r).py = some d ∧ d.depth ≤ 64 ∧ PyData.eqv d d = true := by
    cases r with
    | inr q =>
      obtain ⟨d, h1, h2, h3⟩ := py_pap 9 q (hq q rfl)
      refine ⟨.tuple [.str "none", d], ?_, ?_, ?_⟩
      · rw [resD, D.py, pyAll, pyAll, pyAll, h1]; rfl
      · simp only [PyData.depth, PyData.depthAll]; omega
      · simp [PyData.eqv, PyData.eqvAll, h3]
    | inl dz =>
      have all : ∀ l : Dy, ∃ ds, pyAll (l.map optD) = some ds ∧ PyData.depthAll ds ≤ 0 ∧ PyData.eqvAll ds ds = true := by
        intro l
        induction l with
        | nil => exact ⟨[], rfl, by simp [PyData.depthAll], by simp [PyData.eqvAll]⟩
        | cons o l ih =>
          obtain ⟨ds, h3, h4, h5⟩ := ih
          cases o with
          | none => exact ⟨.none :: ds, by rw [List.map_cons, pyAll, h3]; rfl, by simp only [PyData.depthAll, PyData.depth]; omega, by simp [PyData.eqvAll, PyData.eqv, h5]⟩
          | some x => exact ⟨.int x :: ds, by rw [List.map_cons, pyAll, h3]; rfl, by simp only [PyData.depthAll, PyData.depth]; omega, by simp [PyData.eqvAll, PyData.eqv, h5]⟩
      obtain ⟨ds, h1, h2, h3⟩ := all dz
      refine ⟨.tuple [.str "dyed", .list ds], ?_, ?_, ?_⟩
      · have : (dyW dz).py = some (.list ds) := by unfold dyW; rw [D.py, h1]; rfl
        rw [resD, D.py, pyAll, pyAll, pyAll, this]; rfl
      · simp only [PyData.depth, PyData.depthAll]; omega
      · simp [PyData.eqv, PyData.eqvAll, h3]
  exact ⟨d, d, h1, h1, h2, by rw [if_neg Bool.false_ne_true, h3]; exact h⟩
def spPl (m : Nat) : DSp := fun ds P => ∃ (o : Option Pap) (k : Nat), ds = [papO o] ∧ (∀ q, o = some q → PD k q) ∧ k < m ∧ P (.bl true)
def spPl1 (m : Nat) : DSp := spPl (m + 1)
theorem st__law_plain {P : Program} {w : World} {mg : Str → Option Value} {base : Heap} {Z : DC} (T : Txt Z mg) (m k : Nat) (hk : 0 ≤ k) (g__law_plain : FnOk P w Z.K mg base CX0 k T.d__law_plain.f T.d__law_plain.fd ["_law_paper"] (liftSp Z (spPl m))) : FnOk P w Z.K mg base CX0 (k + 1) T.d__law_plain.f T.d__law_plain.fd ["_law_paper"] (liftSp Z (spPl1 m)) := by
  have nd := sc__law_plain.nd
  refine fn_data T.d__law_plain.F sc__law_plain [0] (by decide) (fun ds R h => by obtain ⟨_, _, rfl, _⟩ := h; rfl) (fun cdv A outer s H E ds R hr h => ?_)
  have hu := hr.units
  refine ⟨_, (dss_cons (ds_if (dt_cmp od_is (de_var 0) de_non (nomark _)) (dss_one (ds_ret de_bl)) dss_nil)
      (dss_cons (ds_if (DW.dt (dw_or (dt_not (dt_tru (de_isI "int" (de_ix (de_var 0) de_int) rfl T.B.isinstance rfl T.B.int bd_int))) (dw_or1 (dt_tru (de_isI "bool" (de_ix (de_var 0) de_int) rfl T.B.isinstance rfl T.B.bool bd_bool))))) (dss_one (ds_ret de_bl)) dss_nil)
      (dss_one (ds_ret (de_or (de_cmp (od_eq hu) (de_ix (de_var 0) de_int) de_str (nomark _)) (de_one (de_callB (cd_all rfl) rfl T.B.all bd_all (da_cons (de_lc (NC := ["_law_below"]) (src := [none]) rfl (CompOk.of (defScope s__law_plain) rfl rfl (by decide +kernel) (by decide +kernel) (by decide +kernel)) trivial (di_tup (de_ix (de_var 0) de_int)) (fun _ _ _ => (dg_name 0 (show (["_law_below"] : List Str).Nodup from by decide +kernel))) (fun _ _ _ => dts_nil) (fun _ _ _ => (de_call g__law_plain (hr.mono (by omega)) rfl T.d__law_plain.m T.d__law_plain.F.kp T.d__law_plain.b (da_cons (de_var 0) da_nil)))) da_nil)))))))), ?_⟩
  obtain ⟨o, kd, rfl, hq, hm, q⟩ := h
  cases o with
  | none => exact ⟨_, rfl, _, rfl, iteT q⟩
  | some pq =>
    have hq := hq pq rfl
    refine ⟨_, rfl, _, rfl, ?_⟩
    rw [if_neg Bool.false_ne_true, isNon_papO]
    refine iteF ?_
    cases kd with
    | zero => exact hq.elim
    | succ kd =>
    cases pq with
    | full p =>
      have ep : papO (some (.full p)) = .tup [.str "full", natD p] := by rw [papO, papD]
      refine as_of [some (.tup [.str "full", natD p])] (by rw [ep]; rfl) ?_
      refine ⟨_, rfl, _, rfl, rfl, rfl, iteF ⟨_, rfl, _, rfl, rfl, rfl, iteF ?_⟩⟩
      exact ⟨_, rfl, _, rfl, eqS ⟨true, congrArg D.bl (decide_eq_true rfl), iteT q⟩⟩
    | cho p ps =>
      have ep : papO (some (.cho p ps)) = .tup [.str "choose", natD p, .tup (ps.map papO)] := by rw [papO, papD, papsD_map]
      refine as_of [some (.tup [.str "choose", natD p, .tup (ps.map papO)])] (by rw [ep]; rfl) ?_
      obtain ⟨lps, hps⟩ := hq
      refine ⟨_, rfl, _, rfl, rfl, rfl, iteF ⟨_, rfl, _, rfl, rfl, rfl, iteF ?_⟩⟩
      refine ⟨_, rfl, _, rfl, eqS ⟨false, congrArg D.bl (by decide +kernel), iteF ?_⟩⟩
      refine ⟨_, rfl, _, rfl, lc_all (ρ := [none]) papO (fun _ => .bl true) ps _ (fun o ho Y hY => ?_) rfl (small (by omega)) fun ρ' => ?_⟩
      · exact ⟨_, rfl, o, kd, rfl, fun q e => hps q (by rw [← e]; exact ho), by omega, hY⟩
      · refine ⟨ps.map fun _ => true, by rw [List.map_map]; rfl, ?_⟩
        have : (ps.map fun _ => true).all id = true := by simp
        rw [this]
        exact q
theorem ok__law_plain {P : Program} {w : World} {mg : Str → Option Value} {base : Heap} {Z : DC} (T : Txt Z mg) : FnOk P w Z.K mg base CX0 10 T.d__law_plain.f T.d__law_plain.fd ["_law_paper"] (liftSp Z (spPl 10)) := by
  have all : ∀ m, FnOk P w Z.K mg base CX0 m T.d__law_plain.f T.d__law_plain.fd ["_law_paper"] (liftSp Z (spPl m)) := by
    intro m
    induction m with
    | zero =>
      refine ((fn_false (Z := Z)).imp ?_).mono (Nat.zero_le _)
      rintro vs H Q E ⟨G, ds, R, s, dv, ⟨o, k, _, _, h, _⟩, _⟩
      exact absurd h (Nat.not_lt_zero _)
    | succ m ih => exact st__law_plain T m m (Nat.zero_le _) ih
  exact all 10
def spRight : DSp := fun ds P => ∃ (w : W) (ls : List (List Int)), ds = [.web w, webW w, lsW ls] ∧ Good w ∧ 1 ≤ w.length ∧ w.length ≤ 8 ∧ ls.length = w.length ∧ (∀ l ∈ ls, l.length ≤ 4) ∧ P (.bl true)
theorem ok__law_right {P : Program} {w : World} {mg : Str → Option Value} {base : Heap} {Z : DC} (T : Txt Z mg) : FnOk P w Z.K mg base CX0 13 T.d__law_right.f T.d__law_right.fd ["_law_web_here", "_law_turns", "_law_lists"] (liftSp Z spRight) := by
  have gF_searched := okF_searched (P := P) (w := w) (base := base) T
  have g__law_dyed := ok__law_dyed (P := P) (w := w) (base := base) T
  have g__law_plain := ok__law_plain (P := P) (w := w) (base := base) T
  have g__law_search := ok__law_search (P := P) (w := w) (base := base) T
  have g_searched := (okF_searched (P := P) (w := w) (base := base) T).imp spF
  have nd := sc__law_right.nd
  refine fn_data T.d__law_right.F sc__law_right [0, 0, 0, 0, 2, 0, 1] (by decide) (fun ds R h => by obtain ⟨_, _, rfl, _⟩ := h; rfl) (fun cdv A outer s H E ds R hr h => ?_)
  have hu := hr.units
  refine ⟨_, (dss_cons (ds_setlc 3 (NC := ["_law_row"]) (src := [none]) rfl nd (CompOk.of (defScope s__law_right) rfl rfl (by decide +kernel) (by decide +kernel) (by decide +kernel)) trivial (di_list (de_var 2)) (fun _ _ _ => (dg_name 0 (show (["_law_row"] : List Str).Nodup from by decide +kernel))) (fun _ _ _ => dts_nil) (fun _ _ _ => (de_callTy cd_list rfl T.B.list bd_list (da_cons (de_var 0) da_nil))))
      (dss_cons (ds_newC 4 nd gF_searched (hr.mono (by decide)) rfl T.d_searched.m T.d_searched.F.kp T.d_searched.b (da_cons (de_var 0) (da_cons (de_var 3) da_nil)))
      (dss_cons (ds_set false 5 nd (de_call g__law_search (hr.mono (by decide)) rfl T.d__law_search.m T.d__law_search.F.kp T.d__law_search.b (da_cons (de_var 1) (da_cons (de_var 2) (da_cons (de_op od_mul (de_lst (da_cons de_non da_nil)) (de_callB cd_len rfl T.B.len bd_len (da_cons (de_var 1) da_nil))) da_nil)))))
      (dss_cons (ds_if (DW.dt (dw_or (dt_cmp (od_ne hu) (de_var 3) (de_var 2) (nomark _)) (dw_or (dt_not (dt_tru (de_isI "tuple" (de_var 4) rfl T.B.isinstance rfl T.B.tuple bd_tuple))) (dw_or1 (dt_cmp (od_ne hu) (de_callB cd_len rfl T.B.len bd_len (da_cons (de_var 4) da_nil)) de_int (nomark _)))))) (dss_one (ds_ret de_bl)) dss_nil)
      (dss_cons (ds_if (dt_cmp od_isnot (de_var 5) de_non (nomark _)) (dss_one (ds_ret (de_and (de_cmp (od_eq hu) (de_var 4) (de_tup (da_cons de_str (da_cons (de_var 5) da_nil))) (nomark _)) (de_and (de_call g__law_plain (hr.mono (by decide)) rfl T.d__law_plain.m T.d__law_plain.F.kp T.d__law_plain.b (da_cons (de_ix (de_var 4) de_int) da_nil)) (de_one (de_cmp (od_eq hu) (de_call g_searched (hr.mono (by decide)) rfl T.d_searched.m T.d_searched.F.kp T.d_searched.b (da_cons (de_var 0) (da_cons (de_var 3) da_nil))) (de_var 4) (nomark _))))))) dss_nil)
      (dss_cons (ds_if (DW.dt (dw_or (dt_cmp (od_ne hu) (de_ix (de_var 4) de_int) de_str (nomark _)) (dw_or1 (dt_not (dt_tru (de_call g__law_dyed (hr.mono (by decide)) rfl T.d__law_dyed.m T.d__law_dyed.F.kp T.d__law_dyed.b (da_cons (de_var 1) (da_cons (de_var 2) (da_cons (de_ix (de_var 4) de_int) da_nil))))))))) (dss_one (ds_ret de_bl)) dss_nil)
      (dss_cons (ds_newS 6 nd (df_list rfl rfl T.B.list bd_list (de_ix (de_var 4) de_int)))
      (dss_cons (ds_clear2T 4 de_int)
      (dss_one (ds_ret (de_and (de_cmp (od_eq hu) (de_call g_searched (hr.mono (by decide)) rfl T.d_searched.m T.d_searched.F.kp T.d_searched.b (da_cons (de_var 0) (da_cons (de_var 3) da_nil))) (de_tup (da_cons de_str (da_cons (de_var 6) da_nil))) (nomark _)) (de_one (de_cmp (od_eq hu) (de_var 3) (de_var 2) (nomark _)))))))))))))), ?_⟩
  obtain ⟨w', ls, rfl, g, w1, w8, ll, l4, q⟩ := h
  have ln : ∀ p, (lst ls p).length ≤ 4 := fun p => by
    unfold lst
    rw [List.getD_eq_getElem?_getD]
    cases e : ls[p]? with
    | none => exact Nat.zero_le _
    | some l => exact l4 l (List.mem_of_getElem? e)
  have sz : ∀ dz : Dy, dz.length = w'.length → Sz w' ls dz := fun dz hz => ⟨g, by omega, by omega, ll, hz, fun p => by have := ln p; omega, fun p => by have := row_len g p; omega⟩
  have z := sz (List.replicate w'.length none) (by simp)
  refine ⟨_, rfl, lc_all (ρ := [none]) (fun l => D.lst (intsD l)) (fun l => D.lst (intsD l)) ls _ (fun y hy Y h => ⟨_, rfl, h⟩) rfl (small (by omega)) fun ρ' => ⟨trivial, ?_⟩⟩
  refine ⟨_, rfl, _, rfl, w', ls, rfl, z, fun r hr => ?_⟩
  have lw : (w'.map rowW).length = w'.length := List.length_map _
  dsimp only
  refine as_of [some (.web w'), some (webW w'), some (lsW ls), some (lsW ls), some (resD r), none, none] rfl ?_
  refine ⟨_, rfl, _, rfl, by show 1 ≤ sizeLine; decide, _, rfl, ?_⟩
  dsimp only [dNil, bLen]
  have eb : (List.replicate (((w'.map rowW).length : Int)).toNat [D.non]).flatten = (List.replicate w'.length none).map optD := by
    rw [show (((w'.map rowW).length : Int)).toNat = w'.length by omega, List.map_replicate]
    generalize w'.length = n
    induction n with
    | zero => rfl
    | succ n ih => rw [List.replicate_succ, List.flatten_cons, ih, List.replicate_succ]; rfl
  refine ⟨by omega, by omega, ?_, w', ls, List.replicate w'.length none, by rw [eb]; rfl, z, by rw [und_rep]; omega, fun r2 hr2 => ⟨trivial, ?_⟩⟩
  · rw [show (((w'.map rowW).length : Int)).toNat = w'.length by omega]; exact small (by show 1 * _ ≤ 1000; omega)
  rw [und_rep] at hr2
  have := Srch.det _ hr2 hr
  subst this
  have deep : ∀ q, r2 = .inr q → PD 9 q := fun q e => by
    subst e
    have h := Srch.deep z.lr _ hr
    exact PD.mono (by omega) h
  refine as_of [some (.web w'), some (webW w'), some (lsW ls), some (lsW ls), some (resD r2), some (dueD r2), none] rfl ?_
  refine ⟨_, rfl, _, rfl, dNe_ls ⟨false, rfl, iteF ?_⟩⟩
  cases r2 with
  | inr pq =>
    refine ⟨_, rfl, rfl, rfl, iteF ⟨_, rfl, ?_⟩⟩
    dsimp only [dNil, bLen, resD]
    refine neC ⟨false, rfl, iteF ?_⟩
    refine ⟨_, rfl, _, rfl, ?_⟩
    have en : isNon (dueD (.inr pq)) = false := by
      have := isNon_papO (some pq)
      rw [papO] at this
      exact this
    rw [if_pos rfl, en]
    refine iteT ?_
    refine ⟨_, rfl, _, rfl, by show 2 ≤ sizeLine; decide, eq_res deep ⟨true, rfl, iteT ?_⟩⟩
    refine ⟨_, rfl, _, rfl, some pq, 9, by rw [papO], fun q e => deep q (by cases e; rfl), by omega, true, rfl, iteT ?_⟩
    refine ⟨_, rfl, _, rfl, w', ls, rfl, z, fun r3 hr3 => ?_⟩
    have := Srch.det _ hr3 hr
    subst this
    exact ⟨_, rfl, eq_res deep q⟩
  | inl dz =>
    obtain ⟨ok, fl⟩ := Srch.dyed g _ (und_rep _) ok_rep hr
    refine ⟨_, rfl, rfl, rfl, iteF ⟨_, rfl, ?_⟩⟩
    dsimp only [dNil, bLen, resD]
    refine neC ⟨false, rfl, iteF ?_⟩
    refine ⟨_, rfl, _, rfl, iteF ?_⟩
    refine ⟨_, rfl, _, rfl, neS ⟨false, congrArg D.bl (by decide +kernel), iteF ?_⟩⟩
    refine ⟨_, rfl, _, rfl, _, rfl, _, rfl, w', ls, dz, rfl, sz dz ok.1, ok, fl, rfl, iteF ?_⟩
    refine ⟨_, rfl, _, rfl, flat_opt dz, ?_⟩
    refine ⟨_, rfl, _, _, _, rfl, rfl, rfl, ?_⟩
    refine ⟨_, rfl, _, rfl, w', ls, rfl, z, fun r3 hr3 => ?_⟩
    have := Srch.det _ hr3 hr
    subst this
    exact ⟨_, rfl, by show 2 ≤ sizeLine; decide, eq_res deep ⟨true, rfl, iteT ⟨_, rfl, _, rfl, dEq_ls q⟩⟩⟩
end K61

set_option Elab.async false
set_option linter.all false
set_option maxRecDepth 100000
set_option maxHeartbeats 4000000
namespace K61
open PySem L2 Wb
open Wy Ws
theorem ok_law {P : Program} {w : World} {mg : Str → Option Value} {base : Heap} {Z : DC} (T : Txt Z mg) : FnOk P w Z.K mg base CX0 14 T.d_law.f T.d_law.fd ["_law_script"] (liftSp Z spLawD) := by
  have g_Web_turns := ok_Web_turns (P := P) (w := w) (base := base) T
  have g__law_cell_at := ok__law_cell_at (P := P) (w := w) (base := base) T
  have g__law_drawn := ok__law_drawn (P := P) (w := w) (base := base) T
  have g__law_made := ok__law_made (P := P) (w := w) (base := base) T
  have g__law_right := ok__law_right (P := P) (w := w) (base := base) T
  have g__law_tied_turns := ok__law_tied_turns (P := P) (w := w) (base := base) T
  have g__law_web := ok__law_web (P := P) (w := w) (base := base) T
  have nd := sc_law.nd
  refine fn_data T.d_law.F sc_law [0, 0, 0, 0, 0] (by decide) (fun ds R h => by obtain ⟨_, rfl, _⟩ := h; rfl) (fun cdv A outer s H E ds R hr h => ?_)
  have hu := hr.units
  refine ⟨_, (dss_cons (ds_asg (de_call g__law_made (hr.mono (by decide)) rfl T.d__law_made.m T.d__law_made.F.kp T.d__law_made.b (da_cons (de_var 0) (da_cons de_int da_nil))) (dt_tup 2 rfl (dts_cons (dt_name 1 nd) (dts_cons (dt_name 2 nd) dts_nil'))))
      (dss_cons (ds_set false 3 nd (de_call g__law_web (hr.mono (by decide)) rfl T.d__law_web.m T.d__law_web.F.kp T.d__law_web.b (da_cons (de_var 1) da_nil)))
      (dss_cons (ds_set false 4 nd (de_call g__law_tied_turns (hr.mono (by decide)) rfl T.d__law_tied_turns.m T.d__law_tied_turns.F.kp T.d__law_tied_turns.b (da_cons (de_callB cd_len rfl T.B.len bd_len (da_cons (de_var 1) da_nil)) (da_cons (de_call g__law_drawn (hr.mono (by decide)) rfl T.d__law_drawn.m T.d__law_drawn.F.kp T.d__law_drawn.b (da_cons (de_call g__law_cell_at (hr.mono (by decide)) rfl T.d__law_cell_at.m T.d__law_cell_at.F.kp T.d__law_cell_at.b (da_cons (de_var 0) (da_cons de_int da_nil))) da_nil)) da_nil))))
      (dss_cons (ds_if (DW.dt (dw_or (dt_not (dt_tru (de_call g__law_right (hr.mono (by decide)) rfl T.d__law_right.m T.d__law_right.F.kp T.d__law_right.b (da_cons (de_var 3) (da_cons (de_var 1) (da_cons (de_var 2) da_nil)))))) (dw_or1 (dt_not (dt_tru (de_call g__law_right (hr.mono (by decide)) rfl T.d__law_right.m T.d__law_right.F.kp T.d__law_right.b (da_cons (de_call g__law_web (hr.mono (by decide)) rfl T.d__law_web.m T.d__law_web.F.kp T.d__law_web.b (da_cons (de_var 4) da_nil)) (da_cons (de_var 4) (da_cons (de_var 2) da_nil))))))))) (dss_one (ds_ret de_bl)) dss_nil)
      (dss_one (ds_ret (de_and (de_call g__law_right (hr.mono (by decide)) rfl T.d__law_right.m T.d__law_right.F.kp T.d__law_right.b (da_cons (de_var 3) (da_cons (de_var 1) (da_cons (de_var 2) da_nil)))) (de_one (de_cmp (od_eq hu) (de_meth0 T.W (de_var 3) T.m_turns.m g_Web_turns (hr.mono (by decide)) T.m_turns.b) (de_var 1) (nomark _)))))))))), ?_⟩
  obtain ⟨ns, rfl, hns, q⟩ := h
  refine ⟨_, rfl, ns, 8, rfl, by decide, by decide, fun w' ls g w1 w8 l0 l4 => ?_⟩
  refine ⟨rfl, rfl, ?_⟩
  refine ⟨_, rfl, w', rfl, g, w1, by omega, trivial, ?_⟩
  have lw : (w'.map rowW).length = w'.length := List.length_map _
  refine ⟨_, rfl, ?_⟩
  dsimp only [dNil, bLen]
  refine ⟨_, rfl, ns, 3, rfl, fun v3 => ⟨v3, rfl, fun v4 => ⟨w'.length, v4, by rw [← lw]; rfl, w1, w8, fun w2 g2 l2 => ⟨trivial, ?_⟩⟩⟩⟩
  refine ⟨_, rfl, _, rfl, _, rfl, w', ls, rfl, g, w1, w8, l0, l4, rfl, iteF ?_⟩
  refine ⟨_, rfl, w2, rfl, g2, by omega, by omega, _, rfl, _, rfl, w2, ls, rfl, g2, by omega, by omega, by omega, l4, rfl, iteF ?_⟩
  refine ⟨_, rfl, _, rfl, _, rfl, w', ls, rfl, g, w1, w8, l0, l4, true, rfl, iteT ?_⟩
  refine ⟨_, rfl, w', rfl, w', rfl, by omega, _, rfl, dEq_web ?_⟩
  rw [decide_eq_true rfl]
  exact q
theorem all_mk {l : PySem.W.OpenLaw} {w : World} {K : PySem.W.Frag} {h : Heap} {mg : Str → Option Value} {fa C : Addr} {tk1 : Tok} {tk2 : Tok} (X : K.In h) (G : h.Ns mainGlobals mg) (hfa : mg "law" = some (.ref fa))
    {d0 : Addr} {od0 an0 : Option Addr} {sl0 : Array (Option Value)} {oc0 kV0 dc0 pm0 cd0 ct0 : Value}
    {d1 : Addr} {od1 an1 : Option Addr} {sl1 : Array (Option Value)} {oc1 kV1 dc1 pm1 cd1 ct1 : Value}
    {d2 : Addr} {od2 an2 : Option Addr} {sl2 : Array (Option Value)} {oc2 kV2 dc2 pm2 cd2 ct2 : Value}
    {d3 : Addr} {od3 an3 : Option Addr} {sl3 : Array (Option Value)} {oc3 kV3 dc3 pm3 cd3 ct3 : Value}
    {d4 : Addr} {od4 an4 : Option Addr} {sl4 : Array (Option Value)} {oc4 kV4 dc4 pm4 cd4 ct4 : Value}
    {d5 : Addr} {od5 an5 : Option Addr} {sl5 : Array (Option Value)} {oc5 kV5 dc5 pm5 cd5 ct5 : Value}
    {d6 : Addr} {od6 an6 : Option Addr} {sl6 : Array (Option Value)} {oc6 kV6 dc6 pm6 cd6 ct6 : Value}
    {d7 : Addr} {od7 an7 : Option Addr} {sl7 : Array (Option Value)} {oc7 kV7 dc7 pm7 cd7 ct7 : Value}
    {d8 : Addr} {od8 an8 : Option Addr} {sl8 : Array (Option Value)} {oc8 kV8 dc8 pm8 cd8 ct8 : Value}
    {d9 : Addr} {od9 an9 : Option Addr} {sl9 : Array (Option Value)} {oc9 kV9 dc9 pm9 cd9 ct9 : Value}
    {d10 : Addr} {od10 an10 : Option Addr} {sl10 : Array (Option Value)} {oc10 kV10 dc10 pm10 cd10 ct10 : Value}
    {d11 : Addr} {od11 an11 : Option Addr} {sl11 : Array (Option Value)} {oc11 kV11 dc11 pm11 cd11 ct11 : Value}
    {d12 : Addr} {od12 an12 : Option Addr} {sl12 : Array (Option Value)} {oc12 kV12 dc12 pm12 cd12 ct12 : Value}
    {d13 : Addr} {od13 an13 : Option Addr} {sl13 : Array (Option Value)} {oc13 kV13 dc13 pm13 cd13 ct13 : Value}
    {d14 : Addr} {od14 an14 : Option Addr} {sl14 : Array (Option Value)} {oc14 kV14 dc14 pm14 cd14 ct14 : Value}
    {d15 : Addr} {od15 an15 : Option Addr} {sl15 : Array (Option Value)} {oc15 kV15 dc15 pm15 cd15 ct15 : Value}
    {d16 : Addr} {od16 an16 : Option Addr} {sl16 : Array (Option Value)} {oc16 kV16 dc16 pm16 cd16 ct16 : Value}
    {d17 : Addr} {od17 an17 : Option Addr} {sl17 : Array (Option Value)} {oc17 kV17 dc17 pm17 cd17 ct17 : Value}
    {d18 : Addr} {od18 an18 : Option Addr} {sl18 : Array (Option Value)} {oc18 kV18 dc18 pm18 cd18 ct18 : Value}
    {d19 : Addr} {od19 an19 : Option Addr} {sl19 : Array (Option Value)} {oc19 kV19 dc19 pm19 cd19 ct19 : Value}
    {d20 : Addr} {od20 an20 : Option Addr} {sl20 : Array (Option Value)} {oc20 kV20 dc20 pm20 cd20 ct20 : Value}
    {d21 : Addr} {od21 an21 : Option Addr} {sl21 : Array (Option Value)} {oc21 kV21 dc21 pm21 cd21 ct21 : Value}
    {d22 : Addr} {od22 an22 : Option Addr} {sl22 : Array (Option Value)} {oc22 kV22 dc22 pm22 cd22 ct22 : Value}
    {d23 : Addr} {od23 an23 : Option Addr} {sl23 : Array (Option Value)} {oc23 kV23 dc23 pm23 cd23 ct23 : Value}
    {d24 : Addr} {od24 an24 : Option Addr} {sl24 : Array (Option Value)} {oc24 kV24 dc24 pm24 cd24 ct24 : Value}
    {d25 : Addr} {od25 an25 : Option Addr} {sl25 : Array (Option Value)} {oc25 kV25 dc25 pm25 cd25 ct25 : Value}
    {d26 : Addr} {od26 an26 : Option Addr} {sl26 : Array (Option Value)} {oc26 kV26 dc26 pm26 cd26 ct26 : Value}
    {d27 : Addr} {od27 an27 : Option Addr} {sl27 : Array (Option Value)} {oc27 kV27 dc27 pm27 cd27 ct27 : Value}
    {i0 : Addr} {jd0 jn0 : Option Addr} {js0 : Array (Option Value)} {jc0 jk0 jo0 jp0 jq0 jt0 : Value}
    {i1 : Addr} {jd1 jn1 : Option Addr} {js1 : Array (Option Value)} {jc1 jk1 jo1 jp1 jq1 jt1 : Value}
    {i2 : Addr} {jd2 jn2 : Option Addr} {js2 : Array (Option Value)} {jc2 jk2 jo2 jp2 jq2 jt2 : Value}
    {i3 : Addr} {jd3 jn3 : Option Addr} {js3 : Array (Option Value)} {jc3 jk3 jo3 jp3 jq3 jt3 : Value}
    {i4 : Addr} {jd4 jn4 : Option Addr} {js4 : Array (Option Value)} {jc4 jk4 jo4 jp4 jq4 jt4 : Value}
    {i5 : Addr} {jd5 jn5 : Option Addr} {js5 : Array (Option Value)} {jc5 jk5 jo5 jp5 jq5 jt5 : Value}
    (gC : PySem.W.nsIn K mainGlobals "Web" = some (some (.ref C)))
    (a0 : PySem.W.nsIn K mainGlobals "is_among" = some (some (.ref d0)))
    (l0 : K.lookup d0 = some ⟨oc0, od0, .func (PySem.W.fnOf "is_among" "is_among" (defArgs s_is_among) (defBody s_is_among) (defScope s_is_among) .none kV0 dc0 pm0 an0 cd0 ct0), sl0⟩)
    (c0 : PySem.W.codeIn K cd0 "is_among" = true)
    (k0 : PySem.W.keepIn K (.ref d0) = true)
    (a1 : PySem.W.nsIn K mainGlobals "alien_fault" = some (some (.ref d1)))
    (l1 : K.lookup d1 = some ⟨oc1, od1, .func (PySem.W.fnOf "alien_fault" "alien_fault" (defArgs s_alien_fault) (defBody s_alien_fault) (defScope s_alien_fault) .none kV1 dc1 pm1 an1 cd1 ct1), sl1⟩)
    (c1 : PySem.W.codeIn K cd1 "alien_fault" = true)
    (k1 : PySem.W.keepIn K (.ref d1) = true)
    (a2 : PySem.W.nsIn K mainGlobals "self_fault" = some (some (.ref d2)))
    (l2 : K.lookup d2 = some ⟨oc2, od2, .func (PySem.W.fnOf "self_fault" "self_fault" (defArgs s_self_fault) (defBody s_self_fault) (defScope s_self_fault) .none kV2 dc2 pm2 an2 cd2 ct2), sl2⟩)
    (c2 : PySem.W.codeIn K cd2 "self_fault" = true)
    (k2 : PySem.W.keepIn K (.ref d2) = true)
    (a3 : PySem.W.nsIn K mainGlobals "twice_fault" = some (some (.ref d3)))
    (l3 : K.lookup d3 = some ⟨oc3, od3, .func (PySem.W.fnOf "twice_fault" "twice_fault" (defArgs s_twice_fault) (defBody s_twice_fault) (defScope s_twice_fault) .none kV3 dc3 pm3 an3 cd3 ct3), sl3⟩)
    (c3 : PySem.W.codeIn K cd3 "twice_fault" = true)
    (k3 : PySem.W.keepIn K (.ref d3) = true)
    (a4 : PySem.W.nsIn K mainGlobals "lone_fault" = some (some (.ref d4)))
    (l4 : K.lookup d4 = some ⟨oc4, od4, .func (PySem.W.fnOf "lone_fault" "lone_fault" (defArgs s_lone_fault) (defBody s_lone_fault) (defScope s_lone_fault) .none kV4 dc4 pm4 an4 cd4 ct4), sl4⟩)
    (c4 : PySem.W.codeIn K cd4 "lone_fault" = true)
    (k4 : PySem.W.keepIn K (.ref d4) = true)
    (a5 : PySem.W.nsIn K mainGlobals "reached_from_first" = some (some (.ref d5)))
    (l5 : K.lookup d5 = some ⟨oc5, od5, .func (PySem.W.fnOf "reached_from_first" "reached_from_first" (defArgs s_reached_from_first) (defBody s_reached_from_first) (defScope s_reached_from_first) .none kV5 dc5 pm5 an5 cd5 ct5), sl5⟩)
    (c5 : PySem.W.codeIn K cd5 "reached_from_first" = true)
    (k5 : PySem.W.keepIn K (.ref d5) = true)
    (a6 : PySem.W.nsIn K mainGlobals "apart_fault" = some (some (.ref d6)))
    (l6 : K.lookup d6 = some ⟨oc6, od6, .func (PySem.W.fnOf "apart_fault" "apart_fault" (defArgs s_apart_fault) (defBody s_apart_fault) (defScope s_apart_fault) .none kV6 dc6 pm6 an6 cd6 ct6), sl6⟩)
    (c6 : PySem.W.codeIn K cd6 "apart_fault" = true)
    (k6 : PySem.W.keepIn K (.ref d6) = true)
    (a7 : PySem.W.nsIn K mainGlobals "first_fault" = some (some (.ref d7)))
    (l7 : K.lookup d7 = some ⟨oc7, od7, .func (PySem.W.fnOf "first_fault" "first_fault" (defArgs s_first_fault) (defBody s_first_fault) (defScope s_first_fault) .none kV7 dc7 pm7 an7 cd7 ct7), sl7⟩)
    (c7 : PySem.W.codeIn K cd7 "first_fault" = true)
    (k7 : PySem.W.keepIn K (.ref d7) = true)
    (a8 : PySem.W.nsIn K mainGlobals "need_at_most" = some (some (.ref d8)))
    (l8 : K.lookup d8 = some ⟨oc8, od8, .func (PySem.W.fnOf "need_at_most" "need_at_most" (defArgs s_need_at_most) (defBody s_need_at_most) (defScope s_need_at_most) .none kV8 dc8 pm8 an8 cd8 ct8), sl8⟩)
    (c8 : PySem.W.codeIn K cd8 "need_at_most" = true)
    (k8 : PySem.W.keepIn K (.ref d8) = true)
    (a9 : PySem.W.nsIn K mainGlobals "dyes_left" = some (some (.ref d9)))
    (l9 : K.lookup d9 = some ⟨oc9, od9, .func (PySem.W.fnOf "dyes_left" "dyes_left" (defArgs s_dyes_left) (defBody s_dyes_left) (defScope s_dyes_left) .none kV9 dc9 pm9 an9 cd9 ct9), sl9⟩)
    (c9 : PySem.W.codeIn K cd9 "dyes_left" = true)
    (k9 : PySem.W.keepIn K (.ref d9) = true)
    (a10 : PySem.W.nsIn K mainGlobals "with_dye" = some (some (.ref d10)))
    (l10 : K.lookup d10 = some ⟨oc10, od10, .func (PySem.W.fnOf "with_dye" "with_dye" (defArgs s_with_dye) (defBody s_with_dye) (defScope s_with_dye) .none kV10 dc10 pm10 an10 cd10 ct10), sl10⟩)
    (c10 : PySem.W.codeIn K cd10 "with_dye" = true)
    (k10 : PySem.W.keepIn K (.ref d10) = true)
    (a11 : PySem.W.nsIn K mainGlobals "chosen_point" = some (some (.ref d11)))
    (l11 : K.lookup d11 = some ⟨oc11, od11, .func (PySem.W.fnOf "chosen_point" "chosen_point" (defArgs s_chosen_point) (defBody s_chosen_point) (defScope s_chosen_point) .none kV11 dc11 pm11 an11 cd11 ct11), sl11⟩)
    (c11 : PySem.W.codeIn K cd11 "chosen_point" = true)
    (k11 : PySem.W.keepIn K (.ref d11) = true)
    (a12 : PySem.W.nsIn K mainGlobals "searched_from" = some (some (.ref d12)))
    (l12 : K.lookup d12 = some ⟨oc12, od12, .func (PySem.W.fnOf "searched_from" "searched_from" (defArgs s_searched_from) (defBody s_searched_from) (defScope s_searched_from) .none kV12 dc12 pm12 an12 cd12 ct12), sl12⟩)
    (c12 : PySem.W.codeIn K cd12 "searched_from" = true)
    (k12 : PySem.W.keepIn K (.ref d12) = true)
    (a13 : PySem.W.nsIn K mainGlobals "searched" = some (some (.ref d13)))
    (l13 : K.lookup d13 = some ⟨oc13, od13, .func (PySem.W.fnOf "searched" "searched" (defArgs s_searched) (defBody s_searched) (defScope s_searched) .none kV13 dc13 pm13 an13 cd13 ct13), sl13⟩)
    (c13 : PySem.W.codeIn K cd13 "searched" = true)
    (k13 : PySem.W.keepIn K (.ref d13) = true)
    (a14 : PySem.W.nsIn K mainGlobals "_law_cell_at" = some (some (.ref d14)))
    (l14 : K.lookup d14 = some ⟨oc14, od14, .func (PySem.W.fnOf "_law_cell_at" "_law_cell_at" (defArgs s__law_cell_at) (defBody s__law_cell_at) (defScope s__law_cell_at) .none kV14 dc14 pm14 an14 cd14 ct14), sl14⟩)
    (c14 : PySem.W.codeIn K cd14 "_law_cell_at" = true)
    (k14 : PySem.W.keepIn K (.ref d14) = true)
    (a15 : PySem.W.nsIn K mainGlobals "_law_drawn" = some (some (.ref d15)))
    (l15 : K.lookup d15 = some ⟨oc15, od15, .func (PySem.W.fnOf "_law_drawn" "_law_drawn" (defArgs s__law_drawn) (defBody s__law_drawn) (defScope s__law_drawn) .none kV15 dc15 pm15 an15 cd15 ct15), sl15⟩)
    (c15 : PySem.W.codeIn K cd15 "_law_drawn" = true)
    (k15 : PySem.W.keepIn K (.ref d15) = true)
    (a16 : PySem.W.nsIn K mainGlobals "_law_tied_turns" = some (some (.ref d16)))
    (l16 : K.lookup d16 = some ⟨oc16, od16, .func (PySem.W.fnOf "_law_tied_turns" "_law_tied_turns" (defArgs s__law_tied_turns) (defBody s__law_tied_turns) (defScope s__law_tied_turns) .none kV16 dc16 pm16 an16 cd16 ct16), sl16⟩)
    (c16 : PySem.W.codeIn K cd16 "_law_tied_turns" = true)
    (k16 : PySem.W.keepIn K (.ref d16) = true)
    (a17 : PySem.W.nsIn K mainGlobals "_law_listed" = some (some (.ref d17)))
    (l17 : K.lookup d17 = some ⟨oc17, od17, .func (PySem.W.fnOf "_law_listed" "_law_listed" (defArgs s__law_listed) (defBody s__law_listed) (defScope s__law_listed) .none kV17 dc17 pm17 an17 cd17 ct17), sl17⟩)
    (c17 : PySem.W.codeIn K cd17 "_law_listed" = true)
    (k17 : PySem.W.keepIn K (.ref d17) = true)
    (a18 : PySem.W.nsIn K mainGlobals "_law_made" = some (some (.ref d18)))
    (l18 : K.lookup d18 = some ⟨oc18, od18, .func (PySem.W.fnOf "_law_made" "_law_made" (defArgs s__law_made) (defBody s__law_made) (defScope s__law_made) .none kV18 dc18 pm18 an18 cd18 ct18), sl18⟩)
    (c18 : PySem.W.codeIn K cd18 "_law_made" = true)
    (k18 : PySem.W.keepIn K (.ref d18) = true)
    (a19 : PySem.W.nsIn K mainGlobals "_law_web" = some (some (.ref d19)))
    (l19 : K.lookup d19 = some ⟨oc19, od19, .func (PySem.W.fnOf "_law_web" "_law_web" (defArgs s__law_web) (defBody s__law_web) (defScope s__law_web) .none kV19 dc19 pm19 an19 cd19 ct19), sl19⟩)
    (c19 : PySem.W.codeIn K cd19 "_law_web" = true)
    (k19 : PySem.W.keepIn K (.ref d19) = true)
    (a20 : PySem.W.nsIn K mainGlobals "_law_left" = some (some (.ref d20)))
    (l20 : K.lookup d20 = some ⟨oc20, od20, .func (PySem.W.fnOf "_law_left" "_law_left" (defArgs s__law_left) (defBody s__law_left) (defScope s__law_left) .none kV20 dc20 pm20 an20 cd20 ct20), sl20⟩)
    (c20 : PySem.W.codeIn K cd20 "_law_left" = true)
    (k20 : PySem.W.keepIn K (.ref d20) = true)
    (a21 : PySem.W.nsIn K mainGlobals "_law_with" = some (some (.ref d21)))
    (l21 : K.lookup d21 = some ⟨oc21, od21, .func (PySem.W.fnOf "_law_with" "_law_with" (defArgs s__law_with) (defBody s__law_with) (defScope s__law_with) .none kV21 dc21 pm21 an21 cd21 ct21), sl21⟩)
    (c21 : PySem.W.codeIn K cd21 "_law_with" = true)
    (k21 : PySem.W.keepIn K (.ref d21) = true)
    (a22 : PySem.W.nsIn K mainGlobals "_law_next" = some (some (.ref d22)))
    (l22 : K.lookup d22 = some ⟨oc22, od22, .func (PySem.W.fnOf "_law_next" "_law_next" (defArgs s__law_next) (defBody s__law_next) (defScope s__law_next) .none kV22 dc22 pm22 an22 cd22 ct22), sl22⟩)
    (c22 : PySem.W.codeIn K cd22 "_law_next" = true)
    (k22 : PySem.W.keepIn K (.ref d22) = true)
    (a23 : PySem.W.nsIn K mainGlobals "_law_search" = some (some (.ref d23)))
    (l23 : K.lookup d23 = some ⟨oc23, od23, .func (PySem.W.fnOf "_law_search" "_law_search" (defArgs s__law_search) (defBody s__law_search) (defScope s__law_search) .none kV23 dc23 pm23 an23 cd23 ct23), sl23⟩)
    (c23 : PySem.W.codeIn K cd23 "_law_search" = true)
    (k23 : PySem.W.keepIn K (.ref d23) = true)
    (a24 : PySem.W.nsIn K mainGlobals "_law_dyed" = some (some (.ref d24)))
    (l24 : K.lookup d24 = some ⟨oc24, od24, .func (PySem.W.fnOf "_law_dyed" "_law_dyed" (defArgs s__law_dyed) (defBody s__law_dyed) (defScope s__law_dyed) .none kV24 dc24 pm24 an24 cd24 ct24), sl24⟩)
    (c24 : PySem.W.codeIn K cd24 "_law_dyed" = true)
    (k24 : PySem.W.keepIn K (.ref d24) = true)
    (a25 : PySem.W.nsIn K mainGlobals "_law_plain" = some (some (.ref d25)))
    (l25 : K.lookup d25 = some ⟨oc25, od25, .func (PySem.W.fnOf "_law_plain" "_law_plain" (defArgs s__law_plain) (defBody s__law_plain) (defScope s__law_plain) .none kV25 dc25 pm25 an25 cd25 ct25), sl25⟩)
    (c25 : PySem.W.codeIn K cd25 "_law_plain" = true)
    (k25 : PySem.W.keepIn K (.ref d25) = true)
    (a26 : PySem.W.nsIn K mainGlobals "_law_right" = some (some (.ref d26)))
    (l26 : K.lookup d26 = some ⟨oc26, od26, .func (PySem.W.fnOf "_law_right" "_law_right" (defArgs s__law_right) (defBody s__law_right) (defScope s__law_right) .none kV26 dc26 pm26 an26 cd26 ct26), sl26⟩)
    (c26 : PySem.W.codeIn K cd26 "_law_right" = true)
    (k26 : PySem.W.keepIn K (.ref d26) = true)
    (a27 : PySem.W.nsIn K mainGlobals "law" = some (some (.ref d27)))
    (l27 : K.lookup d27 = some ⟨oc27, od27, .func (PySem.W.fnOf "law" "law" (defArgs s_law) (defBody s_law) (defScope s_law) .none kV27 dc27 pm27 an27 cd27 ct27), sl27⟩)
    (c27 : PySem.W.codeIn K cd27 "law" = true)
    (k27 : PySem.W.keepIn K (.ref d27) = true)
    (m0 : PySem.W.findIn K (.ref C) "__init__" = some (some (.ref i0)))
    (f0 : PySem.W.isFn K (.ref i0) = true)
    (ml0 : K.lookup i0 = some ⟨jc0, jd0, .func (PySem.W.fnOf "__init__" "Web.__init__" (defArgs s_Web___init__) (defBody s_Web___init__) (defScope s_Web___init__) .none jk0 jo0 jp0 jn0 jq0 jt0), js0⟩)
    (mc0 : PySem.W.codeIn K jq0 "Web.__init__" = true)
    (mk0 : PySem.W.keepIn K (.ref i0) = true)
    (m1 : PySem.W.findIn K (.ref C) "many" = some (some (.ref i1)))
    (f1 : PySem.W.isFn K (.ref i1) = true)
    (ml1 : K.lookup i1 = some ⟨jc1, jd1, .func (PySem.W.fnOf "many" "Web.many" (defArgs s_Web_many) (defBody s_Web_many) (defScope s_Web_many) .none jk1 jo1 jp1 jn1 jq1 jt1), js1⟩)
    (mc1 : PySem.W.codeIn K jq1 "Web.many" = true)
    (mk1 : PySem.W.keepIn K (.ref i1) = true)
    (m2 : PySem.W.findIn K (.ref C) "turns" = some (some (.ref i2)))
    (f2 : PySem.W.isFn K (.ref i2) = true)
    (ml2 : K.lookup i2 = some ⟨jc2, jd2, .func (PySem.W.fnOf "turns" "Web.turns" (defArgs s_Web_turns) (defBody s_Web_turns) (defScope s_Web_turns) .none jk2 jo2 jp2 jn2 jq2 jt2), js2⟩)
    (mc2 : PySem.W.codeIn K jq2 "Web.turns" = true)
    (mk2 : PySem.W.keepIn K (.ref i2) = true)
    (m3 : PySem.W.findIn K (.ref C) "ties" = some (some (.ref i3)))
    (f3 : PySem.W.isFn K (.ref i3) = true)
    (ml3 : K.lookup i3 = some ⟨jc3, jd3, .func (PySem.W.fnOf "ties" "Web.ties" (defArgs s_Web_ties) (defBody s_Web_ties) (defScope s_Web_ties) .none jk3 jo3 jp3 jn3 jq3 jt3), js3⟩)
    (mc3 : PySem.W.codeIn K jq3 "Web.ties" = true)
    (mk3 : PySem.W.keepIn K (.ref i3) = true)
    (m4 : PySem.W.findIn K (.ref C) "tied" = some (some (.ref i4)))
    (f4 : PySem.W.isFn K (.ref i4) = true)
    (ml4 : K.lookup i4 = some ⟨jc4, jd4, .func (PySem.W.fnOf "tied" "Web.tied" (defArgs s_Web_tied) (defBody s_Web_tied) (defScope s_Web_tied) .none jk4 jo4 jp4 jn4 jq4 jt4), js4⟩)
    (mc4 : PySem.W.codeIn K jq4 "Web.tied" = true)
    (mk4 : PySem.W.keepIn K (.ref i4) = true)
    (m5 : PySem.W.findIn K (.ref C) "behind" = some (some (.ref i5)))
    (f5 : PySem.W.isFn K (.ref i5) = true)
    (ml5 : K.lookup i5 = some ⟨jc5, jd5, .func (PySem.W.fnOf "behind" "Web.behind" (defArgs s_Web_behind) (defBody s_Web_behind) (defScope s_Web_behind) .none jk5 jo5 jp5 jn5 jq5 jt5), js5⟩)
    (mc5 : PySem.W.codeIn K jq5 "Web.behind" = true)
    (mk5 : PySem.W.keepIn K (.ref i5) = true)
    (pgC : PySem.W.plainGet K C Str.empty = true)
    (hdC : PySem.W.hasDictIn K C = true)
    (poC : PySem.W.plainOver K C = true)
    (saC : PySem.W.findIn K (.ref C) "__setattr__" = some (some (.builtin "object.__setattr__")))
    (mkC : PySem.W.makesIn K C = true)
    (kpC : PySem.W.keepIn K (.ref C) = true)
    (nR : PySem.W.findIn K (.ref C) "rows" = some none)
    (cc1 : PySem.W.nsIn K mainGlobals "MOST_POINTS" = some (some (.int 14 tk1)))
    (cc2 : PySem.W.nsIn K mainGlobals "MOST_SEARCHED" = some (some (.int 8 tk2)))
    (zlen : PySem.W.nsIn K mainGlobals "len" = some none)
    (zrange : PySem.W.nsIn K mainGlobals "range" = some none)
    (zmax : PySem.W.nsIn K mainGlobals "max" = some none)
    (zmin : PySem.W.nsIn K mainGlobals "min" = some none)
    (zenumerate : PySem.W.nsIn K mainGlobals "enumerate" = some none)
    (zzip : PySem.W.nsIn K mainGlobals "zip" = some none)
    (zsorted : PySem.W.nsIn K mainGlobals "sorted" = some none)
    (zall : PySem.W.nsIn K mainGlobals "all" = some none)
    (zisinstance : PySem.W.nsIn K mainGlobals "isinstance" = some none)
    (zint : PySem.W.nsIn K mainGlobals "int" = some none)
    (zbool : PySem.W.nsIn K mainGlobals "bool" = some none)
    (zlist : PySem.W.nsIn K mainGlobals "list" = some none)
    (ztuple : PySem.W.nsIn K mainGlobals "tuple" = some none)
    (zsum : PySem.W.nsIn K mainGlobals "sum" = some none)
    (zreversed : PySem.W.nsIn K mainGlobals "reversed" = some none)
    : ∃ fd : FuncData, (∀ (s : Shared) (v : Value), BindsTo s fd ⟨[v], []⟩ [("_law_script", v)]) ∧ ∀ base : Heap, K.In base → base.Ns mainGlobals mg → FnOk l.prog w K mg base CX0 40 fa fd ["_law_script"] (L2.spLawV K) := by
  have e := hfa.symm.trans (PySem.W.mg_of X G a27)
  cases e
  have F0 := fun_mk (st := s_is_among) l0 c0 k0
  have b0 := F0.binds (ps := ["thing", "many"]) fun _ _ _ _ _ _ us hl => by obtain ⟨_, _, rfl⟩ := L2.len2 hl; rfl
  let D0 : Dfn K mg "is_among" s_is_among ["thing", "many"] := ⟨d0, _, F0, b0, PySem.W.mg_of X G a0⟩
  have F1 := fun_mk (st := s_alien_fault) l1 c1 k1
  have b1 := F1.binds (ps := ["rows"]) fun _ _ _ _ _ _ us hl => by obtain ⟨_, rfl⟩ := L2.len1 hl; rfl
  let D1 : Dfn K mg "alien_fault" s_alien_fault ["rows"] := ⟨d1, _, F1, b1, PySem.W.mg_of X G a1⟩
  have F2 := fun_mk (st := s_self_fault) l2 c2 k2
  have b2 := F2.binds (ps := ["rows"]) fun _ _ _ _ _ _ us hl => by obtain ⟨_, rfl⟩ := L2.len1 hl; rfl
  let D2 : Dfn K mg "self_fault" s_self_fault ["rows"] := ⟨d2, _, F2, b2, PySem.W.mg_of X G a2⟩
  have F3 := fun_mk (st := s_twice_fault) l3 c3 k3
  have b3 := F3.binds (ps := ["rows"]) fun _ _ _ _ _ _ us hl => by obtain ⟨_, rfl⟩ := L2.len1 hl; rfl
  let D3 : Dfn K mg "twice_fault" s_twice_fault ["rows"] := ⟨d3, _, F3, b3, PySem.W.mg_of X G a3⟩
  have F4 := fun_mk (st := s_lone_fault) l4 c4 k4
  have b4 := F4.binds (ps := ["rows"]) fun _ _ _ _ _ _ us hl => by obtain ⟨_, rfl⟩ := L2.len1 hl; rfl
  let D4 : Dfn K mg "lone_fault" s_lone_fault ["rows"] := ⟨d4, _, F4, b4, PySem.W.mg_of X G a4⟩
  have F5 := fun_mk (st := s_reached_from_first) l5 c5 k5
  have b5 := F5.binds (ps := ["rows"]) fun _ _ _ _ _ _ us hl => by obtain ⟨_, rfl⟩ := L2.len1 hl; rfl
  let D5 : Dfn K mg "reached_from_first" s_reached_from_first ["rows"] := ⟨d5, _, F5, b5, PySem.W.mg_of X G a5⟩
  have F6 := fun_mk (st := s_apart_fault) l6 c6 k6
  have b6 := F6.binds (ps := ["rows"]) fun _ _ _ _ _ _ us hl => by obtain ⟨_, rfl⟩ := L2.len1 hl; rfl
  let D6 : Dfn K mg "apart_fault" s_apart_fault ["rows"] := ⟨d6, _, F6, b6, PySem.W.mg_of X G a6⟩
  have F7 := fun_mk (st := s_first_fault) l7 c7 k7
  have b7 := F7.binds (ps := ["rows"]) fun _ _ _ _ _ _ us hl => by obtain ⟨_, rfl⟩ := L2.len1 hl; rfl
  let D7 : Dfn K mg "first_fault" s_first_fault ["rows"] := ⟨d7, _, F7, b7, PySem.W.mg_of X G a7⟩
  have F8 := fun_mk (st := s_need_at_most) l8 c8 k8
  have b8 := F8.binds (ps := ["web", "most"]) fun _ _ _ _ _ _ us hl => by obtain ⟨_, _, rfl⟩ := L2.len2 hl; rfl
  let D8 : Dfn K mg "need_at_most" s_need_at_most ["web", "most"] := ⟨d8, _, F8, b8, PySem.W.mg_of X G a8⟩
  have F9 := fun_mk (st := s_dyes_left) l9 c9 k9
  have b9 := F9.binds (ps := ["turns", "lists", "dyeing", "p"]) fun _ _ _ _ _ _ us hl => by obtain ⟨_, _, _, _, rfl⟩ := L2.len4 hl; rfl
  let D9 : Dfn K mg "dyes_left" s_dyes_left ["turns", "lists", "dyeing", "p"] := ⟨d9, _, F9, b9, PySem.W.mg_of X G a9⟩
  have F10 := fun_mk (st := s_with_dye) l10 c10 k10
  have b10 := F10.binds (ps := ["dyeing", "p", "dye"]) fun _ _ _ _ _ _ us hl => by obtain ⟨_, _, _, rfl⟩ := L2.len3 hl; rfl
  let D10 : Dfn K mg "with_dye" s_with_dye ["dyeing", "p", "dye"] := ⟨d10, _, F10, b10, PySem.W.mg_of X G a10⟩
  have F11 := fun_mk (st := s_chosen_point) l11 c11 k11
  have b11 := F11.binds (ps := ["turns", "lists", "dyeing"]) fun _ _ _ _ _ _ us hl => by obtain ⟨_, _, _, rfl⟩ := L2.len3 hl; rfl
  let D11 : Dfn K mg "chosen_point" s_chosen_point ["turns", "lists", "dyeing"] := ⟨d11, _, F11, b11, PySem.W.mg_of X G a11⟩
  have F12 := fun_mk (st := s_searched_from) l12 c12 k12
  have b12 := F12.binds (ps := ["turns", "lists", "dyeing"]) fun _ _ _ _ _ _ us hl => by obtain ⟨_, _, _, rfl⟩ := L2.len3 hl; rfl
  let D12 : Dfn K mg "searched_from" s_searched_from ["turns", "lists", "dyeing"] := ⟨d12, _, F12, b12, PySem.W.mg_of X G a12⟩
  have F13 := fun_mk (st := s_searched) l13 c13 k13
  have b13 := F13.binds (ps := ["web", "lists"]) fun _ _ _ _ _ _ us hl => by obtain ⟨_, _, rfl⟩ := L2.len2 hl; rfl
  let D13 : Dfn K mg "searched" s_searched ["web", "lists"] := ⟨d13, _, F13, b13, PySem.W.mg_of X G a13⟩
  have F14 := fun_mk (st := s__law_cell_at) l14 c14 k14
  have b14 := F14.binds (ps := ["_law_script", "_law_k"]) fun _ _ _ _ _ _ us hl => by obtain ⟨_, _, rfl⟩ := L2.len2 hl; rfl
  let D14 : Dfn K mg "_law_cell_at" s__law_cell_at ["_law_script", "_law_k"] := ⟨d14, _, F14, b14, PySem.W.mg_of X G a14⟩
  have F15 := fun_mk (st := s__law_drawn) l15 c15 k15
  have b15 := F15.binds (ps := ["_law_cell"]) fun _ _ _ _ _ _ us hl => by obtain ⟨_, rfl⟩ := L2.len1 hl; rfl
  let D15 : Dfn K mg "_law_drawn" s__law_drawn ["_law_cell"] := ⟨d15, _, F15, b15, PySem.W.mg_of X G a15⟩
  have F16 := fun_mk (st := s__law_tied_turns) l16 c16 k16
  have b16 := F16.binds (ps := ["_law_many", "_law_number"]) fun _ _ _ _ _ _ us hl => by obtain ⟨_, _, rfl⟩ := L2.len2 hl; rfl
  let D16 : Dfn K mg "_law_tied_turns" s__law_tied_turns ["_law_many", "_law_number"] := ⟨d16, _, F16, b16, PySem.W.mg_of X G a16⟩
  have F17 := fun_mk (st := s__law_listed) l17 c17 k17
  have b17 := F17.binds (ps := ["_law_many", "_law_cell", "_law_number"]) fun _ _ _ _ _ _ us hl => by obtain ⟨_, _, _, rfl⟩ := L2.len3 hl; rfl
  let D17 : Dfn K mg "_law_listed" s__law_listed ["_law_many", "_law_cell", "_law_number"] := ⟨d17, _, F17, b17, PySem.W.mg_of X G a17⟩
  have F18 := fun_mk (st := s__law_made) l18 c18 k18
  have b18 := F18.binds (ps := ["_law_script", "_law_most"]) fun _ _ _ _ _ _ us hl => by obtain ⟨_, _, rfl⟩ := L2.len2 hl; rfl
  let D18 : Dfn K mg "_law_made" s__law_made ["_law_script", "_law_most"] := ⟨d18, _, F18, b18, PySem.W.mg_of X G a18⟩
  have F19 := fun_mk (st := s__law_web) l19 c19 k19
  have b19 := F19.binds (ps := ["_law_turns"]) fun _ _ _ _ _ _ us hl => by obtain ⟨_, rfl⟩ := L2.len1 hl; rfl
  let D19 : Dfn K mg "_law_web" s__law_web ["_law_turns"] := ⟨d19, _, F19, b19, PySem.W.mg_of X G a19⟩
  have F20 := fun_mk (st := s__law_left) l20 c20 k20
  have b20 := F20.binds (ps := ["_law_turns", "_law_lists", "_law_dyeing", "_law_point"]) fun _ _ _ _ _ _ us hl => by obtain ⟨_, _, _, _, rfl⟩ := L2.len4 hl; rfl
  let D20 : Dfn K mg "_law_left" s__law_left ["_law_turns", "_law_lists", "_law_dyeing", "_law_point"] := ⟨d20, _, F20, b20, PySem.W.mg_of X G a20⟩
  have F21 := fun_mk (st := s__law_with) l21 c21 k21
  have b21 := F21.binds (ps := ["_law_dyeing", "_law_point", "_law_dye"]) fun _ _ _ _ _ _ us hl => by obtain ⟨_, _, _, rfl⟩ := L2.len3 hl; rfl
  let D21 : Dfn K mg "_law_with" s__law_with ["_law_dyeing", "_law_point", "_law_dye"] := ⟨d21, _, F21, b21, PySem.W.mg_of X G a21⟩
  have F22 := fun_mk (st := s__law_next) l22 c22 k22
  have b22 := F22.binds (ps := ["_law_turns", "_law_lists", "_law_dyeing"]) fun _ _ _ _ _ _ us hl => by obtain ⟨_, _, _, rfl⟩ := L2.len3 hl; rfl
  let D22 : Dfn K mg "_law_next" s__law_next ["_law_turns", "_law_lists", "_law_dyeing"] := ⟨d22, _, F22, b22, PySem.W.mg_of X G a22⟩
  have F23 := fun_mk (st := s__law_search) l23 c23 k23
  have b23 := F23.binds (ps := ["_law_turns", "_law_lists", "_law_dyeing"]) fun _ _ _ _ _ _ us hl => by obtain ⟨_, _, _, rfl⟩ := L2.len3 hl; rfl
  let D23 : Dfn K mg "_law_search" s__law_search ["_law_turns", "_law_lists", "_law_dyeing"] := ⟨d23, _, F23, b23, PySem.W.mg_of X G a23⟩
  have F24 := fun_mk (st := s__law_dyed) l24 c24 k24
  have b24 := F24.binds (ps := ["_law_turns", "_law_lists", "_law_told"]) fun _ _ _ _ _ _ us hl => by obtain ⟨_, _, _, rfl⟩ := L2.len3 hl; rfl
  let D24 : Dfn K mg "_law_dyed" s__law_dyed ["_law_turns", "_law_lists", "_law_told"] := ⟨d24, _, F24, b24, PySem.W.mg_of X G a24⟩
  have F25 := fun_mk (st := s__law_plain) l25 c25 k25
  have b25 := F25.binds (ps := ["_law_paper"]) fun _ _ _ _ _ _ us hl => by obtain ⟨_, rfl⟩ := L2.len1 hl; rfl
  let D25 : Dfn K mg "_law_plain" s__law_plain ["_law_paper"] := ⟨d25, _, F25, b25, PySem.W.mg_of X G a25⟩
  have F26 := fun_mk (st := s__law_right) l26 c26 k26
  have b26 := F26.binds (ps := ["_law_web_here", "_law_turns", "_law_lists"]) fun _ _ _ _ _ _ us hl => by obtain ⟨_, _, _, rfl⟩ := L2.len3 hl; rfl
  let D26 : Dfn K mg "_law_right" s__law_right ["_law_web_here", "_law_turns", "_law_lists"] := ⟨d26, _, F26, b26, PySem.W.mg_of X G a26⟩
  have F27 := fun_mk (st := s_law) l27 c27 k27
  have b27 := F27.binds (ps := ["_law_script"]) fun _ _ _ _ _ _ us hl => by obtain ⟨_, rfl⟩ := L2.len1 hl; rfl
  let D27 : Dfn K mg "law" s_law ["_law_script"] := ⟨fa, _, F27, b27, PySem.W.mg_of X G a27⟩
  have E0 := fun_mk (st := s_Web___init__) ml0 mc0 mk0
  have e0 := E0.binds (ps := ["self", "turns"]) fun _ _ _ _ _ _ us hl => by obtain ⟨_, _, rfl⟩ := L2.len2 hl; rfl
  have E1 := fun_mk (st := s_Web_many) ml1 mc1 mk1
  have e1 := E1.binds (ps := ["self"]) fun _ _ _ _ _ _ us hl => by obtain ⟨_, rfl⟩ := L2.len1 hl; rfl
  have E2 := fun_mk (st := s_Web_turns) ml2 mc2 mk2
  have e2 := E2.binds (ps := ["self"]) fun _ _ _ _ _ _ us hl => by obtain ⟨_, rfl⟩ := L2.len1 hl; rfl
  have E3 := fun_mk (st := s_Web_ties) ml3 mc3 mk3
  have e3 := E3.binds (ps := ["self"]) fun _ _ _ _ _ _ us hl => by obtain ⟨_, rfl⟩ := L2.len1 hl; rfl
  have E4 := fun_mk (st := s_Web_tied) ml4 mc4 mk4
  have e4 := E4.binds (ps := ["self", "a", "b"]) fun _ _ _ _ _ _ us hl => by obtain ⟨_, _, _, rfl⟩ := L2.len3 hl; rfl
  have E5 := fun_mk (st := s_Web_behind) ml5 mc5 mk5
  have e5 := E5.binds (ps := ["self", "p", "q"]) fun _ _ _ _ _ _ us hl => by obtain ⟨_, _, _, rfl⟩ := L2.len3 hl; rfl
  let Z : DC := ⟨K, C⟩
  let T : Txt Z mg := ⟨⟨PySem.W.mg_none_of X G zlen, PySem.W.mg_none_of X G zrange, PySem.W.mg_none_of X G zmax, PySem.W.mg_none_of X G zmin, PySem.W.mg_none_of X G zenumerate, PySem.W.mg_none_of X G zzip, PySem.W.mg_none_of X G zsorted, PySem.W.mg_none_of X G zall, PySem.W.mg_none_of X G zisinstance, PySem.W.mg_none_of X G zint, PySem.W.mg_none_of X G zbool, PySem.W.mg_none_of X G zlist, PySem.W.mg_none_of X G ztuple, PySem.W.mg_none_of X G zsum, PySem.W.mg_none_of X G zreversed⟩, D0, D1, D2, D3, D4, D5, D6, D7, D8, D9, D10, D11, D12, D13, D14, D15, D16, D17, D18, D19, D20, D21, D22, D23, D24, D25, D26, D27, ⟨⟨pgC, hdC, poC, saC⟩, nR⟩, PySem.W.mg_of X G gC, i0, _, E0, ⟨mkC, m0, f0, kpC⟩, e0, ⟨i1, _, E1, e1, ⟨m1, f1, mk1⟩⟩, ⟨i2, _, E2, e2, ⟨m2, f2, mk2⟩⟩, ⟨i3, _, E3, e3, ⟨m3, f3, mk3⟩⟩, ⟨i4, _, E4, e4, ⟨m4, f4, mk4⟩⟩, ⟨i5, _, E5, e5, ⟨m5, f5, mk5⟩⟩, ⟨tk1, PySem.W.mg_of X G cc1⟩, ⟨tk2, PySem.W.mg_of X G cc2⟩⟩
  exact ⟨_, fun s v => .of_eq rfl, fun base _ _ => (((ok_law (P := l.prog) (w := w) (base := base) T).mono (by decide)).imp (L2.law_of (Z := Z)))⟩
theorem walk {l : PySem.W.OpenLaw} {q : Program} {loose : List Str} {XP : (Str → Option Value) → Heap → Prop} {YP : World → Heap → Prop} {d : DefRec} {K : Params → PySem.W.Frag} (hn : l.most = some 63) (hdf : d.params.defaults = [])
    (hY : ∀ (w : World) (h : Heap), YP w h → (K w.params).In h)
    (F : ∀ (w : World) (mg : Str → Option Value) (fa : Addr) (h : Heap), (K w.params).In h → h.Ns mainGlobals mg → mg d.name = some (.ref fa) →
      ∃ fd : FuncData, (∀ (s : Shared) (u : Value), BindsTo s fd ⟨[u], []⟩ [("_law_script", u)]) ∧ ∀ base : Heap, (K w.params).In base → base.Ns mainGlobals mg → FnOk l.prog w (K w.params) mg base CX0 40 fa fd ["_law_script"] (spLawV (K w.params))) :
    PySem.W.WalkO q loose XP YP l.row.toRowW d [] (fun f vs => PySem.call f vs) := L2.walkD 40 (by decide) hn hdf hY F
end K61

def PySem.W.Fast.tw7253403397086998161 : Nat := 0
def PySem.W.Fast.tw1432189661414845124 : Nat := 0
def PySem.W.Fast.tw16031107651355433532 : Nat := 0
def PySem.W.Fast.tw5436242128177787503 : Nat := 0
def PySem.W.Fast.tw10989023107224099123 : Nat := 0
def PySem.W.Fast.tw2806182802580458993 : Nat := 0
def PySem.W.Fast.tw17882283140048359038 : Nat := 0
def PySem.W.Fast.tw6791796442117311642 : Nat := 0
def PySem.W.Fast.tw14277194319497981740 : Nat := 0
def PySem.W.Fast.tw13416577820902121477 : Nat := 0
def PySem.W.Fast.tw5503503306977853650 : Nat := 0
def PySem.W.Fast.tw6774186338599561380 : Nat := 0
def PySem.W.Fast.tw5589302937816279765 : Nat := 0
def PySem.W.Fast.tw12145512740685344481 : Nat := 0
def PySem.W.Fast.tw1284400943232552072 : Nat := 0
def PySem.W.Fast.tw3103689317315035910 : Nat := 0
def PySem.W.Fast.tw8448845898254563761 : Nat := 0
def PySem.W.Fast.tw9349910939947790193 : Nat := 0
def PySem.W.Fast.tw8111352563409294146 : Nat := 0
def PySem.W.Fast.tw18121939396355425784 : Nat := 0
def PySem.W.Fast.tw923755791455020342 : Nat := 0
def PySem.W.Fast.tw3720444980290893163 : Nat := 0
def PySem.W.Fast.tw889131326720178018 : Nat := 0
def PySem.W.Fast.tw18079165408597015148 : Nat := 0
def PySem.W.Fast.tw17606034336480339089 : Nat := 0
def PySem.W.Fast.tw11037700129389616542 : Nat := 0
def PySem.W.Fast.tw14332096797097454424 : Nat := 0
def PySem.W.Fast.tw5025657856716460670 : Nat := 0
def PySem.W.Fast.tw1345374541382657152 : Nat := 0
def PySem.W.Fast.tw5869201980680584878 : Nat := 0
def PySem.W.Fast.tw14141380085549935645 : Nat := 0
def PySem.W.Fast.tw950871372327648644 : Nat := 0
def PySem.W.Fast.tw13592563180358827190 : Nat := 0
def PySem.W.Fast.tw10677282072169762522 : Nat := 0
def PySem.W.Fast.tw12728426577538589341 : Nat := 0
def PySem.W.Fast.tw484368379014298469 : Nat := 0
def PySem.W.Fast.tw4795303748001473734 : Nat := 0
def PySem.W.Fast.tw10442593225706306091 : Nat := 0
def PySem.W.Fast.tw9364573715754809207 : Nat := 0
def PySem.W.Fast.tw4914483033945843116 : Nat := 0
def PySem.W.Fast.tw5171631612652270757 : Nat := 0
def PySem.W.Fast.tw11129191803163048947 : Nat := 0
def PySem.W.Fast.tw2202395803268890327 : Nat := 0
def PySem.W.Fast.tw2616210777085893695 : Nat := 0
def PySem.W.Fast.tw11746085754403821557 : Nat := 0
def PySem.W.Fast.tw473195308062628084 : Nat := 0
def PySem.W.Fast.tw5452199139591291765 : Nat := 0
def PySem.W.Fast.tw13711418858295207173 : Nat := 0
def PySem.W.Fast.tw754653034223555764 : Nat := 0
def PySem.W.Fast.tw4884676768801215842 : Nat := 0
def PySem.W.Fast.tw5837343361411328977 : Nat := 0
def PySem.W.Fast.tw8243759806591642789 : Nat := 0
def PySem.W.Fast.tw13872257476454669506 : Nat := 0
def PySem.W.Fast.tw9365117187906045302 : Nat := 0
def PySem.W.Fast.tw6449318566545741796 : Nat := 0
def PySem.W.Fast.tw7979154048808290412 : Nat := 0
def PySem.W.Fast.tw17691110734042228725 : Nat := 0
def PySem.W.Fast.tw13335302726902483770 : Nat := 0
def PySem.W.Fast.tw5940157563928905215 : Nat := 0
def PySem.W.Fast.tw8288242350819296659 : Nat := 0
def PySem.W.Fast.tw1544070239386181654 : Nat := 0
def PySem.W.Fast.tw2919262956465013922 : Nat := 0
def PySem.W.Fast.tw8330204051859062507 : Nat := 0
def PySem.W.Fast.tw7291582181413328393 : Nat := 0
def PySem.W.Fast.tw6067342528900641495 : Nat := 0
def PySem.W.Fast.tw15181773724962605610 : Nat := 0
def PySem.W.Fast.tw13155017859839474457 : Nat := 0
def PySem.W.Fast.tw6917497804809435623 : Nat := 0
def PySem.W.Fast.tw8597203303671052265 : Nat := 0
def PySem.W.Fast.tw4190869060495412111 : Nat := 0
def PySem.W.Fast.tw8078779979523586647 : Nat := 0
def PySem.W.Fast.tw11601897858439523462 : Nat := 0
def PySem.W.Fast.tw8601273630400674843 : Nat := 0
def PySem.W.Fast.tw665035389440854775 : Nat := 0
set_option Elab.async false
open PySem PySem.W PyProof.Rows
set_option maxRecDepth 100000 in
set_option maxHeartbeats 0 in
theorem PySem.Challenge.cw_mapdye_k61_dyed_or_shown_holds : PySem.Challenge.rw_mapdye_k61_dyed_or_shown.Holds := by
  w_on; o_law; k_head; (case hw => w_witness2)
  k_fill
  refine K61.walk (l := PySem.Challenge.rw_mapdye_k61_dyed_or_shown) rfl rfl (fun w h Y => PySem.W.kIn_of Y) ?F
  case F =>
    intro w mg fa h KX G hmg
    refine' K61.all_mk KX G hmg ?gC ?a0 ?l0 ?c0 ?k0 ?a1 ?l1 ?c1 ?k1 ?a2 ?l2 ?c2 ?k2 ?a3 ?l3 ?c3 ?k3 ?a4 ?l4 ?c4 ?k4 ?a5 ?l5 ?c5 ?k5 ?a6 ?l6 ?c6 ?k6 ?a7 ?l7 ?c7 ?k7 ?a8 ?l8 ?c8 ?k8 ?a9 ?l9 ?c9 ?k9 ?a10 ?l10 ?c10 ?k10 ?a11 ?l11 ?c11 ?k11 ?a12 ?l12 ?c12 ?k12 ?a13 ?l13 ?c13 ?k13 ?a14 ?l14 ?c14 ?k14 ?a15 ?l15 ?c15 ?k15 ?a16 ?l16 ?c16 ?k16 ?a17 ?l17 ?c17 ?k17 ?a18 ?l18 ?c18 ?k18 ?a19 ?l19 ?c19 ?k19 ?a20 ?l20 ?c20 ?k20 ?a21 ?l21 ?c21 ?k21 ?a22 ?l22 ?c22 ?k22 ?a23 ?l23 ?c23 ?k23 ?a24 ?l24 ?c24 ?k24 ?a25 ?l25 ?c25 ?k25 ?a26 ?l26 ?c26 ?k26 ?a27 ?l27 ?c27 ?k27 ?m0 ?f0 ?ml0 ?mc0 ?mk0 ?m1 ?f1 ?ml1 ?mc1 ?mk1 ?m2 ?f2 ?ml2 ?mc2 ?mk2 ?m3 ?f3 ?ml3 ?mc3 ?mk3 ?m4 ?f4 ?ml4 ?mc4 ?mk4 ?m5 ?f5 ?ml5 ?mc5 ?mk5 ?pgC ?hdC ?poC ?saC ?mkC ?kpC ?nR ?cc1 ?cc2 ?zlen ?zrange ?zmax ?zmin ?zenumerate ?zzip ?zsorted ?zall ?zisinstance ?zint ?zbool ?zlist ?ztuple ?zsum ?zreversed
    (case gC => k_is)
    (case a0 => k_is)
    (case l0 => k_is)
    (case c0 => k_is)
    (case k0 => k_is)
    (case a1 => k_is)
    (case l1 => k_is)
    (case c1 => k_is)
    (case k1 => k_is)
    (case a2 => k_is)
    (case l2 => k_is)
    (case c2 => k_is)
    (case k2 => k_is)
    (case a3 => k_is)
    (case l3 => k_is)
    (case c3 => k_is)
    (case k3 => k_is)
    (case a4 => k_is)
    (case l4 => k_is)
    (case c4 => k_is)
    (case k4 => k_is)
    (case a5 => k_is)
    (case l5 => k_is)
    (case c5 => k_is)
    (case k5 => k_is)
    (case a6 => k_is)
    (case l6 => k_is)
    (case c6 => k_is)
    (case k6 => k_is)
    (case a7 => k_is)
    (case l7 => k_is)
    (case c7 => k_is)
    (case k7 => k_is)
    (case a8 => k_is)
    (case l8 => k_is)
    (case c8 => k_is)
    (case k8 => k_is)
    (case a9 => k_is)
    (case l9 => k_is)
    (case c9 => k_is)
    (case k9 => k_is)
    (case a10 => k_is)
    (case l10 => k_is)
    (case c10 => k_is)
    (case k10 => k_is)
    (case a11 => k_is)
    (case l11 => k_is)
    (case c11 => k_is)
    (case k11 => k_is)
    (case a12 => k_is)
    (case l12 => k_is)
    (case c12 => k_is)
    (case k12 => k_is)
    (case a13 => k_is)
    (case l13 => k_is)
    (case c13 => k_is)
    (case k13 => k_is)
    (case a14 => k_is)
    (case l14 => k_is)
    (case c14 => k_is)
    (case k14 => k_is)
    (case a15 => k_is)
    (case l15 => k_is)
    (case c15 => k_is)
    (case k15 => k_is)
    (case a16 => k_is)
    (case l16 => k_is)
    (case c16 => k_is)
    (case k16 => k_is)
    (case a17 => k_is)
    (case l17 => k_is)
    (case c17 => k_is)
    (case k17 => k_is)
    (case a18 => k_is)
    (case l18 => k_is)
    (case c18 => k_is)
    (case k18 => k_is)
    (case a19 => k_is)
    (case l19 => k_is)
    (case c19 => k_is)
    (case k19 => k_is)
    (case a20 => k_is)
    (case l20 => k_is)
    (case c20 => k_is)
    (case k20 => k_is)
    (case a21 => k_is)
    (case l21 => k_is)
    (case c21 => k_is)
    (case k21 => k_is)
    (case a22 => k_is)
    (case l22 => k_is)
    (case c22 => k_is)
    (case k22 => k_is)
    (case a23 => k_is)
    (case l23 => k_is)
    (case c23 => k_is)
    (case k23 => k_is)
    (case a24 => k_is)
    (case l24 => k_is)
    (case c24 => k_is)
    (case k24 => k_is)
    (case a25 => k_is)
    (case l25 => k_is)
    (case c25 => k_is)
    (case k25 => k_is)
    (case a26 => k_is)
    (case l26 => k_is)
    (case c26 => k_is)
    (case k26 => k_is)
    (case a27 => k_is)
    (case l27 => k_is)
    (case c27 => k_is)
    (case k27 => k_is)
    (case m0 => k_is)
    (case f0 => k_is)
    (case ml0 => k_is)
    (case mc0 => k_is)
    (case mk0 => k_is)
    (case m1 => k_is)
    (case f1 => k_is)
    (case ml1 => k_is)
    (case mc1 => k_is)
    (case mk1 => k_is)
    (case m2 => k_is)
    (case f2 => k_is)
    (case ml2 => k_is)
    (case mc2 => k_is)
    (case mk2 => k_is)
    (case m3 => k_is)
    (case f3 => k_is)
    (case ml3 => k_is)
    (case mc3 => k_is)
    (case mk3 => k_is)
    (case m4 => k_is)
    (case f4 => k_is)
    (case ml4 => k_is)
    (case mc4 => k_is)
    (case mk4 => k_is)
    (case m5 => k_is)
    (case f5 => k_is)
    (case ml5 => k_is)
    (case mc5 => k_is)
    (case mk5 => k_is)
    (case pgC => k_is)
    (case hdC => k_is)
    (case poC => k_is)
    (case saC => k_is)
    (case mkC => k_is)
    (case kpC => k_is)
    (case nR => k_is)
    (case cc1 => k_is)
    (case cc2 => k_is)
    (case zlen => k_is)
    (case zrange => k_is)
    (case zmax => k_is)
    (case zmin => k_is)
    (case zenumerate => k_is)
    (case zzip => k_is)
    (case zsorted => k_is)
    (case zall => k_is)
    (case zisinstance => k_is)
    (case zint => k_is)
    (case zbool => k_is)
    (case zlist => k_is)
    (case ztuple => k_is)
    (case zsum => k_is)
    (case zreversed => k_is)

