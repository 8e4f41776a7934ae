import PyProof.Rows.All
import Wide.All
import OpenK.AllK
import Wide.FinOn
import Lean
import PyProof.EqAt
import PyProof.EqKinds
import PyProof.TupleCall
import KE.KSortTup
import PyProof.NeKinds
import KE.KRevIter
import PyProof.FitsBits
import PyProof.P3Eq
import PyProof.ListRange
import PyProof.MeetsSeq
import PySem.Challenge.RW_mapdye_k33_parted_and_made_less
set_option Elab.async false
set_option linter.all false
set_option maxRecDepth 100000
/-! THE HAND LAYER, for ints, bools, texts, own classes, LISTS and tuples (index, slices, in, append, pop ..), calls, loops. Paste it whole ahead of your own text; what your proof does not reach may be deleted. -/
namespace L2
open PySem PySem.Spec PyProof.Rows

/-- a key: an int or a str -/
abbrev Key := Sum Int Str
def keyIs : Key → Value → Bool
  | .inl k, v => Value.isInt k v
  | .inr x, v => Value.isStrOf x v
def keyH (w : World) : Key → Int
  | .inl k => hashInt k
  | .inr x => hashStr w x
theorem keyIs_shape : ∀ {k : Key} {v : Value}, keyIs k v = true → (∃ i t, k = Sum.inl i ∧ v = Value.int i t) ∨ (∃ x t, k = Sum.inr x ∧ v = Value.str x t)
  | .inl i, v, h => by
    obtain ⟨t, e⟩ := Value.isInt_shape (k := i) (v := v) h
    exact .inl ⟨i, t, rfl, e⟩
  | .inr x, v, h => by
    obtain ⟨t, e⟩ := Value.isStrOf_shape (x := x) (v := v) h
    exact .inr ⟨x, t, rfl, e⟩
theorem key_ll (a b : Int) : decide ((Sum.inl a : Key) = Sum.inl b) = (a == b) := by
  by_cases e : a = b
  · subst e; simp
  · have h : ¬ (Sum.inl a : Key) = Sum.inl b := fun q => e (Sum.inl.inj q)
    rw [decide_eq_false h]
    exact (beq_eq_false_iff_ne.mpr e).symm
theorem key_rr (a b : Str) : decide ((Sum.inr a : Key) = Sum.inr b) = decide (a = b) := by
  by_cases e : a = b
  · subst e; simp
  · have h : ¬ (Sum.inr a : Key) = Sum.inr b := fun q => e (Sum.inr.inj q)
    rw [decide_eq_false h, decide_eq_false e]
theorem key_lr (a : Int) (b : Str) : decide ((Sum.inl a : Key) = Sum.inr b) = false := decide_eq_false (fun q => nomatch q)
theorem key_rl (a : Str) (b : Int) : decide ((Sum.inr a : Key) = Sum.inl b) = false := decide_eq_false (fun q => nomatch q)

def mixKind (prog : Program) (w : World) : PySem.KeyKind prog w Key where
  is := keyIs
  hash := keyH w
  inj := fun v a b ha hb => by
    rcases keyIs_shape ha with ⟨i, t, rfl, rfl⟩ | ⟨x, t, rfl, rfl⟩
    · rcases keyIs_shape hb with ⟨j, u, rfl, e⟩ | ⟨y, u, rfl, e⟩
      · injection e with e1 _; rw [e1]
      · exact nomatch e
    · rcases keyIs_shape hb with ⟨j, u, rfl, e⟩ | ⟨y, u, rfl, e⟩
      · exact nomatch e
      · injection e with e1 _; rw [e1]
  byValue := fun k v h => by
    rcases keyIs_shape h with ⟨i, t, rfl, rfl⟩ | ⟨x, t, rfl, rfl⟩ <;> rfl
  pyHash := fun hv h => by
    rcases keyIs_shape hv with ⟨i, t, rfl, rfl⟩ | ⟨x, t, rfl, rfl⟩
    · exact wpAny_pyHash_int h
    · exact wpAny_pyHash_str h
  eqBool := fun hu hv h => by
    rcases keyIs_shape hu with ⟨i, t, rfl, rfl⟩ | ⟨x, t, rfl, rfl⟩
    · rcases keyIs_shape hv with ⟨j, u, rfl, rfl⟩ | ⟨y, u, rfl, rfl⟩
      · rw [key_ll] at h; exact wpAny_eqBool_int h
      · rw [key_lr] at h; exact SeqAt.EqAt.int_str i t y u _ _ _ _ h
    · rcases keyIs_shape hv with ⟨j, u, rfl, rfl⟩ | ⟨y, u, rfl, rfl⟩
      · rw [key_rl] at h; exact SeqAt.EqAt.str_int x t j u _ _ _ _ h
      · rw [key_rr] at h; exact wpAny_eqBool_str h
  «strs» := fun k x t v h => by
    rcases keyIs_shape h with ⟨i, u, rfl, e⟩ | ⟨y, u, rfl, e⟩
    · exact nomatch e
    · injection e with e1 _
      subst e1
      cases v <;> rfl

end L2

namespace L2
open PySem PySem.Spec PyProof.Rows

/-- a value, without the heap -/
inductive V where
  | non | bl (b : Bool) | int (i : Int) | str (x : Str) | byt (b : Array UInt8) | flt (b : UInt64) | ref (a : Addr) | ty (n : String)
  deriving DecidableEq

def RelV : V → Value → Prop
  | .non, u => u = Value.none
  | .bl b, u => u = Value.bool b
  | .int i, u => ∃ t, u = Value.int i t
  | .str x, u => ∃ t, u = Value.str x t
  | .byt b, u => ∃ t, u = Value.bytes b t
  | .flt b, u => ∃ t, u = Value.float b t
  | .ref a, u => u = Value.ref a
  | .ty n, u => u = Value.type n

abbrev Vals : List V → List Value → Prop := Paired RelV
theorem Vals.length {xs : List V} {us : List Value} (r : Vals xs us) : xs.length = us.length := Paired.length r
theorem Vals.get : ∀ {xs : List V} {us : List Value} {i : Nat} {x : V}, Vals xs us → xs[i]? = some x → ∃ u, us[i]? = some u ∧ RelV x u
  | _, _, _, _, .nil, e => by simp at e
  | _, _, 0, _, .cons r _, e => by simp at e; subst e; exact ⟨_, rfl, r⟩
  | _, _, i + 1, x, .cons _ t, e => by
    obtain ⟨u, h1, h2⟩ := Vals.get (i := i) (x := x) t (by simpa using e)
    exact ⟨u, by simpa using h1, h2⟩
theorem Vals.set {x : V} {u : Value} (r : RelV x u) : ∀ {xs : List V} {us : List Value} (i : Nat), Vals xs us → Vals (xs.set i x) (us.set i u)
  | _, _, _, .nil => .nil
  | _, _, 0, .cons _ t => .cons r t
  | _, _, i + 1, .cons q t => .cons q (Vals.set r i t)
theorem Vals.append : ∀ {xs ys : List V} {us ws : List Value}, Vals xs us → Vals ys ws → Vals (xs ++ ys) (us ++ ws)
  | _, _, _, _, .nil, s => s
  | _, _, _, _, .cons r t, s => .cons r (Vals.append t s)
theorem Vals.take : ∀ {xs : List V} {us : List Value} (n : Nat), Vals xs us → Vals (xs.take n) (us.take n)
  | _, _, 0, _ => .nil
  | _, _, _ + 1, .nil => .nil
  | _, _, n + 1, .cons r t => .cons r (Vals.take n t)
theorem Vals.drop : ∀ {xs : List V} {us : List Value} (n : Nat), Vals xs us → Vals (xs.drop n) (us.drop n)
  | _, _, 0, r => r
  | _, _, _ + 1, .nil => .nil
  | _, _, n + 1, .cons _ t => Vals.drop n t
def RelO : Option V → Option Value → Prop
  | some v, some u => RelV v u
  | none, none => True
  | _, _ => False
def KV {κ : Type} : List (κ × V) → List (κ × Value) → Prop := Paired fun (p : κ × V) (q : κ × Value) => p.1 = q.1 ∧ RelV p.2 q.2

/-- a key of a dict (00_mix): an int or a text -/
def kV : Key → V
  | .inl i => .int i
  | .inr x => .str x

/-- what stands at a tracked address -/
inductive HO where
  /-- a list -/
  | lst (xs : List V)
  /-- a tuple (never changes) -/
  | tup (xs : List V)
  /-- a dict whose keys are ints and texts; one whose keys are tuples of ints and texts (the empty one is both) -/
  | dK (kvs : List (Key × V)) | dT (kvs : List (List Key × V))
  /-- a set of ints: its members, its size -/
  | set (S : Int → Bool) (n : Nat)
  /-- an instance of the class at C, its dict at dx, its attributes -/
  | ins (C dx : Addr) (fs : List (Str × V))
  /-- the dict of the instance at x -/
  | own (x : Addr)
  /-- the dict of an exception -/
  | xd (fs : List (Str × V))
  /-- a bound method, f of x -/
  | met (f x : Addr)
  /-- a range object lo, lo + 1, .. below hi -/
  | rng (lo hi : Int)
  /-- a thing that is known to the object (the script; a dict while a loop walks it): read, never written while it is so -/
  | frz (o : Obj) (u : HO)
  /-- a code object's table -/
  | tbl (ps : Array Value)
  /-- any other thing, by what is true of its one object (a def of one's own: SetO a S n := HO.ext fun h => ..) -/
  | ext (φ : Heap → Prop)

abbrev Hp := Addr → Option HO
def upd (H : Hp) (a : Addr) (o : HO) : Hp := fun b => if b = a then some o else H b
theorem upd_same {H : Hp} {a : Addr} {o : HO} : upd H a o a = some o := by unfold upd; rw [if_pos rfl]
theorem upd_ne {H : Hp} {a b : Addr} {o : HO} (h : b ≠ a) : upd H a o b = H b := by unfold upd; rw [if_neg h]
theorem ne_of_none {H : Hp} {a b : Addr} {o : HO} (h : H a = some o) (h' : H b = none) : a ≠ b := by
  intro e; subst e; rw [h] at h'; cases h'

section
variable (P : Program) (w : World)
def ObjOk (H : Hp) (h : Heap) (a : Addr) : HO → Prop
  | .lst xs => xs.length ≤ sizeLine ∧ ∃ (its : List Value) (n : Nat), Vals xs its ∧ h.get? a = some { cls := .type "list", data := .seq its.toArray n }
  | .tup xs => xs.length ≤ sizeLine ∧ ∃ its : List Value, Vals xs its ∧ IsTup h a its.toArray
  | .dK kvs => kvs.length ≤ sizeLine ∧ (a == sysModules) = false ∧ ∃ vs, KV kvs vs ∧ h.DictOf (mixKind P w) a vs
  | .dT kvs => kvs.length ≤ sizeLine ∧ (a == sysModules) = false ∧ ∃ xs : List (List Key × Addr × Value),
      Paired (fun (p : List Key × V) (q : List Key × Addr × Value) => p.1 = q.1 ∧ H q.2.1 = some (.tup (p.1.map kV)) ∧ RelV p.2 q.2.2) kvs xs ∧
      ∃ o es ep, h.get? a = some o ∧ o.ExactDict ∧ o.data = .dict es ep ∧ es.toList = xs.map (entryOfKey (tupleKind (mixKind P w))) ∧ (xs.map (·.1)).Nodup
  | .set S n => h.SetOf (intKind P w) a S n
  | .ins C dx fs => H dx = some (.own a) ∧ fs.length ≤ 1000 ∧ dx ≠ a ∧ h.get? a = some (PySem.W.instObj C dx) ∧
      ∃ mA, h.Ns1 dx mA ∧ (∀ f, RelO (fs.lookup f) (mA f)) ∧ PySem.Within mA (fs.map (·.1))
  | .own _ => ∃ o, h.get? a = some o
  | .xd fs => ∃ mA, h.Ns1 a mA ∧ ∀ f, RelO (fs.lookup f) (mA f)
  | .rng lo hi => ∃ t u v, h.get? a = some { cls := .type "range", data := .fields #[.int lo t, .int hi u, .int 1 v] }
  | .frz o u => h.get? a = some o ∧ ObjOk H h a u
  | .tbl ps => h.get? a = some { cls := .none, data := .fields ps }
  | .met f x => h.get? a = some (PySem.W.methodObj (.ref f) (.ref x))
  | .ext φ => φ h ∧ (∃ o, h.get? a = some o) ∧ ∀ h1 h2 : Heap, φ h1 → (∀ o, h1.get? a = some o → h2.get? a = some o) → φ h2
/-- the abstract heap is held -/
def HOk (H : Hp) (h : Heap) : Prop := ∀ a o, H a = some o → ObjOk P w H h a o
end

section
variable {P : Program} {w : World} {H H' : Hp} {h h' : Heap} {a : Addr} {o : HO}
theorem ObjOk.lt (x : ObjOk P w H h a o) : a < h.objs.size := by
  cases o with
  | lst xs => obtain ⟨_, _, _, _, e⟩ := x; exact Heap.lt_size e
  | tup xs => obtain ⟨_, _, _, p⟩ := x; exact p.lt
  | dK kvs => obtain ⟨_, _, _, _, o, _, _, e, _⟩ := x; exact Heap.lt_size e
  | dT kvs => obtain ⟨_, _, _, _, o, _, _, e, _⟩ := x; exact Heap.lt_size e
  | set S n => obtain ⟨o, _, _, _, e, _⟩ := x; exact Heap.lt_size e
  | ins C dx fs => obtain ⟨_, _, _, e, _⟩ := x; exact Heap.lt_size e
  | own y => obtain ⟨_, e⟩ := x; exact Heap.lt_size e
  | xd fs => obtain ⟨_, ⟨_, _, _, e, _⟩, _⟩ := x; exact Heap.lt_size e
  | rng lo hi => obtain ⟨_, _, _, e⟩ := x; exact Heap.lt_size e
  | frz ob u => obtain ⟨e, _⟩ := x; exact Heap.lt_size e
  | tbl ps => exact Heap.lt_size (show h.get? a = some _ from x)
  | met f y => exact Heap.lt_size (show h.get? a = some _ from x)
  | ext φ => obtain ⟨_, ⟨_, e⟩, _⟩ := x; exact Heap.lt_size e
theorem Paired.mapP {α β : Type} {F G : α → β → Prop} : ∀ {l₁ : List α} {l₂ : List β}, Paired F l₁ l₂ → (∀ a b, F a b → G a b) → Paired G l₁ l₂
  | _, _, .nil, _ => .nil
  | _, _, .cons r t, f => .cons (f _ _ r) (Paired.mapP t f)
/-- what an object's description leans on: its own object, its own dict, the tuples -/
theorem ObjOk.stay (x : ObjOk P w H h a o) (k : ∀ b u, (b = a ∨ H b = some (.own a)) → h.get? b = some u → h'.get? b = some u)
    (ho : ∀ b, H b = some (.own a) → H' b = some (.own a)) (ht : ∀ b xs, H b = some (.tup xs) → H' b = some (.tup xs)) : ObjOk P w H' h' a o := by
  induction o with
  | lst xs => obtain ⟨z, its, n, r, e⟩ := x; exact ⟨z, its, n, r, k _ _ (.inl rfl) e⟩
  | tup xs => obtain ⟨z, its, r, ob, e, c⟩ := x; exact ⟨z, its, r, ob, k _ _ (.inl rfl) e, c⟩
  | dK kvs => obtain ⟨z, y, vs, r, ob, es, ep, e, c⟩ := x; exact ⟨z, y, vs, r, ob, es, ep, k _ _ (.inl rfl) e, c⟩
  | dT kvs =>
    obtain ⟨z, y, xs, r, ob, es, ep, e, c⟩ := x
    exact ⟨z, y, xs, Paired.mapP r fun p q z => ⟨z.1, ht _ _ z.2.1, z.2.2⟩, ob, es, ep, k _ _ (.inl rfl) e, c⟩
  | set S n => obtain ⟨ob, es, ep, t, e, c⟩ := x; exact ⟨ob, es, ep, t, k _ _ (.inl rfl) e, c⟩
  | ins C dx fs =>
    obtain ⟨d, z, ne, e, mA, ⟨od, es, ep, e2, c⟩, r⟩ := x
    exact ⟨ho _ d, z, ne, k _ _ (.inl rfl) e, mA, ⟨od, es, ep, k _ _ (.inr d) e2, c⟩, r⟩
  | own y => obtain ⟨ob, e⟩ := x; exact ⟨ob, k _ _ (.inl rfl) e⟩
  | xd fs => obtain ⟨mA, ⟨od, es, ep, e, c⟩, r⟩ := x; exact ⟨mA, ⟨od, es, ep, k _ _ (.inl rfl) e, c⟩, r⟩
  | rng lo hi => obtain ⟨t, u, v, e⟩ := x; exact ⟨t, u, v, k _ _ (.inl rfl) e⟩
  | frz ob u ih => obtain ⟨e, q⟩ := x; exact ⟨k _ _ (.inl rfl) e, ih q⟩
  | tbl ps =>
    have e : h.get? a = some { cls := .none, data := .fields ps } := x
    show h'.get? a = some { cls := .none, data := .fields ps }
    exact k a _ (.inl rfl) e
  | met f y =>
    have e : h.get? a = some (PySem.W.methodObj (.ref f) (.ref y)) := x
    show h'.get? a = some (PySem.W.methodObj (.ref f) (.ref y))
    exact k a _ (.inl rfl) e
  | ext φ => obtain ⟨p, ⟨o, e⟩, st⟩ := x; exact ⟨st _ _ p fun o q => k _ _ (.inl rfl) q, ⟨o, k _ _ (.inl rfl) e⟩, st⟩
theorem HOk.lt (x : HOk P w H h) (e : H a = some o) : a < h.objs.size := (x a o e).lt
theorem HOk.fresh (x : HOk P w H h) (e : h.objs.size ≤ a) : H a = none := by
  cases q : H a with
  | none => rfl
  | some u => exact absurd (Nat.lt_of_lt_of_le (x.lt q) e) (Nat.lt_irrefl _)
/-- every object of the heap is kept -/
theorem HOk.kept (x : HOk P w H h) (k : ∀ b u, h.get? b = some u → h'.get? b = some u) : HOk P w H h' := fun a o e =>
  (x a o e).stay (fun b u _ q => k b u q) (fun _ q => q) fun _ _ q => q
/-- a new object is laid and tracked -/
theorem HOk.laid (x : HOk P w H h) (k : ∀ b u, h.get? b = some u → h'.get? b = some u) (hp : h.objs.size ≤ a) (new : ObjOk P w (upd H a o) h' a o) : HOk P w (upd H a o) h' := fun b u e => by
  have hn := x.fresh hp
  by_cases hb : b = a
  · subst hb; rw [upd_same] at e; cases e; exact new
  · rw [upd_ne hb] at e
    exact (x b u e).stay (fun c v _ q => k c v q) (fun c q => by rw [upd_ne (ne_of_none q hn)]; exact q) fun c xs q => by rw [upd_ne (ne_of_none q hn)]; exact q
end

/-- what may be read as u: it is u, or a known u -/
def Rd (H : Hp) (a : Addr) (u : HO) : Prop := H a = some u ∨ ∃ o, H a = some (.frz o u)
theorem Rd.ok {P : Program} {w : World} {H : Hp} {h : Heap} {a : Addr} {u : HO} (r : Rd H a u) (x : HOk P w H h) : ObjOk P w H h a u := by
  rcases r with r | ⟨o, r⟩
  · exact x a u r
  · obtain ⟨_, q⟩ := x a _ r
    exact q
/-- what may be written -/
def Mut : Option HO → Prop
  | some (.lst _) => True
  | some (.dK _) => True
  | some (.dT _) => True
  | some (.set _ _) => True
  | some (.ins _ _ _) => True
  | some (.ext _) => True
  | _ => False
section
variable {P : Program} {w : World} {H : Hp} {h h' : Heap} {x e : Addr} {o' : HO}
/-- the object at e is changed: x itself, or the dict of the instance x -/
theorem HOk.write (ok : HOk P w H h) (mu : Mut (H x)) (he : e = x ∨ H e = some (.own x)) (k : ∀ b u, b ≠ e → h.get? b = some u → h'.get? b = some u) (heo : ∃ u, h'.get? e = some u)
    (new : ObjOk P w (upd H x o') h' x o') : HOk P w (upd H x o') h' := fun b u q => by
  have nown : ∀ c y, H c = some (.own y) → c ≠ x := fun c y r z => by subst z; rw [r] at mu; exact mu
  have ntup : ∀ c xs, H c = some (.tup xs) → c ≠ x := fun c xs r z => by subst z; rw [r] at mu; exact mu
  by_cases hb : b = x
  · subst hb; rw [upd_same] at q; cases q; exact new
  · rw [upd_ne hb] at q
    by_cases hbe : b = e
    · have q' : H b = some (.own x) := by
        rcases he with z | z
        · exact absurd (hbe.trans z) hb
        · rw [hbe]; exact z
      rw [q] at q'; cases q'
      obtain ⟨v, hv⟩ := heo
      exact ⟨v, by rw [hbe]; exact hv⟩
    · refine (ok b u q).stay (fun c v hc r => k c v ?_ r) (fun c r => by rw [upd_ne (nown c b r)]; exact r) fun c xs r => by rw [upd_ne (ntup c xs r)]; exact r
      rcases hc with rfl | hc
      · exact hbe
      · rintro rfl
        rcases he with z | z
        · exact nown c b hc z
        · rw [hc] at z; cases z; exact hb rfl
end

/-! ### kept unless tracked; of the frames at fs (the callers') the slots may change (an exception that passes writes there); of the records at ex (iterators) nothing is said -/
structure Un (fs ex : List Addr) (H H' : Hp) (h h' : Heap) : Prop where
  keep : ∀ b o, h.get? b = some o → H b = none → b ∉ fs → b ∉ ex → h'.get? b = some o
  slot : ∀ b o, h.get? b = some o → H b = none → b ∈ fs → b ∉ ex → ∃ sl, h'.get? b = some { o with slots := sl }
  free : ∀ b o, h.get? b = some o → H b = none → b ∉ ex → H' b = none
  there : ∀ b o, h.get? b = some o → b ∉ ex → ∃ o', h'.get? b = some o'
  tups : ∀ b xs, H b = some (.tup xs) → H' b = some (.tup xs)
  frzs : ∀ b o u, H b = some (.frz o u) → H' b = some (.frz o u)
  tbls : ∀ b ps, H b = some (.tbl ps) → ∃ more, H' b = some (.tbl (ps ++ more))
section
variable {fs fs' ex ex' : List Addr} {H H1 H2 : Hp} {h h1 h2 h' : Heap} {a x e : Addr} {o : HO}
theorem Un.any (u : Un fs ex H H1 h h1) {b : Addr} {ob : Obj} (q : h.get? b = some ob) (n : H b = none) (hx : b ∉ ex) : ∃ sl, h1.get? b = some { ob with slots := sl } := by
  by_cases hb : b ∈ fs
  · exact u.slot b ob q n hb hx
  · exact ⟨ob.slots, u.keep b ob q n hb hx⟩
theorem Un.kept (k : ∀ b u, h.get? b = some u → h'.get? b = some u) : Un fs ex H H h h' :=
  ⟨fun b ob q _ _ _ => k b ob q, fun b ob q _ _ _ => ⟨ob.slots, k b ob q⟩, fun _ _ _ n _ => n, fun b ob q _ => ⟨ob, k b ob q⟩, fun _ _ q => q, fun _ _ _ q => q, fun _ ps q => ⟨#[], by rw [q]; simp⟩⟩
theorem Un.refl : Un fs ex H H h h := Un.kept fun _ _ q => q
theorem Un.laid (k : ∀ b u, h.get? b = some u → h'.get? b = some u) (hp : h.objs.size ≤ a) (hn : H a = none) : Un fs ex H (upd H a o) h h' where
  keep := fun b u q _ _ _ => k b u q
  slot := fun b u q _ _ _ => ⟨u.slots, k b u q⟩
  free := fun b u q n _ => by rw [upd_ne (Nat.ne_of_lt (Nat.lt_of_lt_of_le (Heap.lt_size q) hp))]; exact n
  there := fun b u q _ => ⟨u, k b u q⟩
  tups := fun b xs q => by rw [upd_ne (ne_of_none q hn)]; exact q
  frzs := fun b u xs q => by rw [upd_ne (ne_of_none q hn)]; exact q
  tbls := fun b ps q => ⟨#[], by rw [upd_ne (ne_of_none q hn), q]; simp⟩
theorem Un.write (mu : Mut (H x)) (he : e = x ∨ H e = some (.own x)) (k : ∀ b u, b ≠ e → h.get? b = some u → h'.get? b = some u) (heo : ∃ u, h'.get? e = some u) : Un fs ex H (upd H x o) h h' := by
  have hx : ∀ b, H b = none → b ≠ x := fun b n z => by subst z; rw [n] at mu; exact mu
  have hb : ∀ b, H b = none → b ≠ e := fun b n z => by
    subst z
    rcases he with r | r
    · exact hx b n r
    · rw [n] at r; cases r
  have hm : ∀ b u, H b = some u → ¬ Mut (some u) → b ≠ x := fun b u q nm z => by subst z; rw [q] at mu; exact nm mu
  refine ⟨fun b u q n _ _ => k b u (hb b n) q, fun b u q n _ _ => ⟨u.slots, k b u (hb b n) q⟩, fun b u q n _ => by rw [upd_ne (hx b n)]; exact n, fun b u q _ => ?_,
    fun b xs q => by rw [upd_ne (hm b _ q fun z => z)]; exact q, fun b u xs q => by rw [upd_ne (hm b _ q fun z => z)]; exact q, fun b ps q => ⟨#[], by rw [upd_ne (hm b _ q fun z => z), q]; simp⟩⟩
  by_cases hbe : b = e
  · subst hbe; exact heo
  · exact ⟨u, k b u hbe q⟩
end

/-! ### the heap without what is tracked -/
def trk (h : Heap) (H : Hp) : List Addr := (List.range h.objs.size).filter fun a => (H a).isSome
def hidT (h : Heap) (H : Hp) : Heap := PySem.W.hideAll h (trk h H)
theorem hidT_size (h : Heap) (H : Hp) : (hidT h H).objs.size = h.objs.size := PySem.W.hideAll_size _ _
theorem hidT_get {h : Heap} {H : Hp} {b : Addr} {o : Obj} (e : h.get? b = some o) (n : H b = none) : (hidT h H).get? b = some o :=
  PySem.W.hideAll_get _ e fun hm => by
    have q : (H b).isSome = true := (List.mem_filter.mp hm).2
    rw [n] at q; simp at q
theorem of_hidT {h : Heap} {H : Hp} {b : Addr} {o : Obj} (e : (hidT h H).get? b = some o) : h.get? b = some o ∧ H b = none := by
  have e' : h.get? b = some o := PySem.W.of_hideAll (trk h H) e
  refine ⟨e', ?_⟩
  cases q : H b with
  | none => rfl
  | some x =>
    have hm : b ∈ trk h H := List.mem_filter.mpr ⟨List.mem_range.mpr (Heap.lt_size e'), by simp [q]⟩
    have z : (hidT h H).get? b = none := PySem.W.hideAll_none (trk h H) hm
    rw [z] at e; cases e

/-! ### OpenK's ledger, filled with every new object but one -/
end L2

namespace L2
open PySem PySem.Spec PyProof.Rows

/-- the module's facts, over the base: the heap at the law's entry without what is tracked there -/
structure Mod (K : PySem.W.Frag) (mg : Str → Option Value) (base : Heap) : Prop where
  kin : K.In base
  glob : base.Ns mainGlobals mg
  blt : ∃ mb, base.Ns builtinsNs mb ∧ ∀ x : Str, x ≠ "__name__" → mb x = bootBuiltins x
  nolimit : base.NoLimit

/-- the context: a def's body (or a comprehension's block) running. base: fixed through the whole law; s₀, H₀: the entry; outer: the frames whose slots others may change (a def's callers); stack: all frames that run;
   ex: iterators that were made ahead of the entry and are walked here (a comprehension's); fn: the names whose cells were made at the entry (a def: all; a comprehension's block: its own); calm: not within an except suite; pn: pins that every state bears; xe: what is wanted of an exception that leaves the code -/
structure Cx where
  prog : Program
  w : World
  K : PySem.W.Frag
  mg : Str → Option Value
  base : Heap
  A : Around
  N : List Str
  s₀ : Shared
  H₀ : Hp
  env : Env
  outer : List Env
  stack : List Env
  ex : List Addr
  fn : Str → Bool
  calm : Bool
  pn : List (Addr × Obj)
  xe : Value → Shared → Prop
/-- the callers' frames -/
def frs (l : List Env) : List Addr := l.filterMap (·.frame)
abbrev Cx.fs (X : Cx) : List Addr := frs X.outer

def Vis (sc : Scope) (x : Str) : Prop := sc.names.lookup x = some .local ∨ sc.names.lookup x = some .cell ∨ sc.names.lookup x = some .free
def Loc (sc : Scope) (x : Str) : Prop := sc.names.lookup x = some .local ∨ sc.names.lookup x = some .cell
def Look (env : Env) (h : Heap) (m : Str → Option Value) (x : Str) (u : Value) : Prop :=
  (env.kindOf x = some .local ∧ m x = some u) ∨ ((env.kindOf x = some .cell ∨ env.kindOf x = some .free) ∧ ∃ c, env.cells.lookup x = some c ∧ h.IsCell c (some u))

structure Cx.Ok (X : Cx) : Prop where
  mod : Mod X.K X.mg X.base
  kind : X.env.scope.kind = .function
  glob : X.env.globals = mainGlobals
  blt : X.env.builtins = builtinsNs
  above : X.s₀.heap.objs.size ≤ X.env.locals
  inj : ∀ x y c, X.env.cells.lookup x = some c → X.env.cells.lookup y = some c → x = y
  has : ∀ x, (X.env.kindOf x = some .cell ∨ X.env.kindOf x = some .free) → ∃ c, X.env.cells.lookup x = some c
  cab : ∀ x c, X.fn x = true → X.env.cells.lookup x = some c → X.s₀.heap.objs.size ≤ c
  hd : X.calm = true → X.A.handled = none
  frames : X.A.frames = some X.stack
  stk : X.stack = X.outer ∨ (X.stack = X.env :: X.outer ∧ X.env.frame = some X.env.locals)
  exf : ∀ b ∈ X.ex, b ≠ X.env.locals ∧ ∀ x c, X.env.cells.lookup x = some c → c ≠ b
  bs : ∀ b o, X.base.get? b = some o → X.s₀.heap.get? b = some o ∧ X.H₀ b = none
  bsz : X.base.objs.size ≤ X.s₀.heap.objs.size
  noex : ∀ b o, X.base.get? b = some o → b ∉ X.ex
  exfs : ∀ b ∈ X.ex, b ∉ X.fs
  funs : X.s₀.heap.FunFrames X.base X.outer
  frf : ∀ b ∈ X.fs, X.H₀ b = none

structure Inv (X : Cx) (pins : List (Addr × Obj)) (σ : List (Option V)) (H : Hp) (s : Shared) : Prop where
  ok : X.Ok
  os : s.os = X.s₀.os
  bare : AllBare s.gens
  base : Un X.fs X.ex X.H₀ H X.s₀.heap s.heap
  loc : ∃ m, s.heap.Ns X.env.locals m ∧ ∀ (i : Nat) (x : Str) (v : V), X.N[i]? = some x → σ[i]? = some (some v) → Vis X.env.scope x → ∃ u, RelV v u ∧ Look X.env s.heap m x u
  cell : ∀ x c, X.env.cells.lookup x = some c → ∃ v, s.heap.IsCell c v
  free : H X.env.locals = none
  freeC : ∀ x c, X.env.cells.lookup x = some c → H c = none
  pin : ∀ p ∈ X.pn ++ pins, s.heap.get? p.1 = some p.2 ∧ H p.1 = none ∧ p.1 ≠ X.env.locals ∧ p.1 ∉ X.fs ∧ ∀ v, p.2.data ≠ .cell v
  hok : HOk X.prog X.w H s.heap
  len : σ.length = X.N.length

section
variable {X : Cx} {pins : List (Addr × Obj)} {σ : List (Option V)} {H H' : Hp} {s : Shared} {h' : Heap}

theorem Cx.Ok.nofr (ok : X.Ok) {b : Addr} {o : Obj} (e : X.base.get? b = some o) : b ∉ X.fs := fun hb => by
  have := (ok.funs.mem hb).1
  rw [e] at this; cases this
theorem Inv.bs (I : Inv X pins σ H s) : ∀ b o, X.base.get? b = some o → s.heap.get? b = some o ∧ H b = none := fun b o e =>
  ⟨I.base.keep b o (I.ok.bs b o e).1 (I.ok.bs b o e).2 (I.ok.nofr e) (I.ok.noex b o e), I.base.free b o (I.ok.bs b o e).1 (I.ok.bs b o e).2 (I.ok.noex b o e)⟩
theorem Inv.bk (I : Inv X pins σ H s) : ∀ b o, X.base.get? b = some o → s.heap.get? b = some o := fun b o e => (I.bs b o e).1
theorem Inv.mod (I : Inv X pins σ H s) : Mod X.K X.mg X.base := I.ok.mod
theorem Inv.kIn (I : Inv X pins σ H s) : X.K.In s.heap := I.ok.mod.kin.keeps I.bk
theorem Inv.lt (I : Inv X pins σ H s) : X.env.locals < s.heap.objs.size := let ⟨_, hn, _⟩ := I.loc; hn.lt
theorem Inv.sz (I : Inv X pins σ H s) : X.s₀.heap.objs.size ≤ s.heap.objs.size := Nat.le_trans I.ok.above (Nat.le_of_lt I.lt)
theorem Inv.nofs (I : Inv X pins σ H s) {a : Addr} (h : s.heap.objs.size ≤ a) : a ∉ X.fs := fun hb => by
  obtain ⟨_, o, ho, _⟩ := I.ok.funs.mem hb
  exact absurd (Nat.lt_of_lt_of_le (Heap.lt_size ho) (Nat.le_trans I.sz h)) (Nat.lt_irrefl _)
theorem Inv.cne (I : Inv X pins σ H s) : ∀ x c, X.env.cells.lookup x = some c → c ≠ X.env.locals := fun x c e z => by
  obtain ⟨v, o, ho, hd⟩ := I.cell x c e
  obtain ⟨m, ⟨o', es, ep, ho', hd', _⟩, _⟩ := I.loc
  rw [z, ho'] at ho; cases ho; rw [hd'] at hd; cases hd
theorem Inv.funs (I : Inv X pins σ H s) : s.heap.FunFrames X.base X.outer := by
  have all : ∀ (l : List Env), (∀ b ∈ frs l, b ∈ X.fs) → X.s₀.heap.FunFrames X.base l → s.heap.FunFrames X.base l := by
    intro l
    induction l with
    | nil => intro _ _; trivial
    | cons env r ih =>
      intro hs hl
      obtain ⟨hk, ⟨L, o, hf, hn, ho, hd⟩, hr⟩ := hl
      have hL : L ∈ X.fs := hs L (by unfold frs; rw [List.filterMap_cons, hf]; exact List.mem_cons_self)
      obtain ⟨sl, e⟩ := I.base.slot L o ho (I.ok.frf L hL) hL fun z => I.ok.exfs L z hL
      exact ⟨hk, ⟨L, _, hf, hn, e, hd⟩, ih (fun b hb => hs b (by unfold frs; rw [List.filterMap_cons, hf]; exact List.mem_cons_of_mem _ hb)) hr⟩
  exact all X.outer (fun _ hb => hb) I.ok.funs

/-- the frames that run, for a call -/
theorem Inv.stack (I : Inv X pins σ H s) : s.heap.FunFrames X.base X.stack := by
  rcases I.ok.stk with e | ⟨e, hf⟩
  · rw [e]; exact I.funs
  · rw [e]
    obtain ⟨m, hn, _⟩ := I.loc
    refine .cons (by rw [I.ok.kind]; decide) hf hn ?_ I.funs
    exact Heap.get?_none_of_le (Nat.le_trans I.ok.bsz I.ok.above)
theorem Inv.stkSub (I : Inv X pins σ H s) : ∀ b ∈ frs X.stack, b ∈ X.env.locals :: X.fs := fun b hb => by
  rcases I.ok.stk with e | ⟨e, hf⟩
  · rw [e] at hb; exact List.mem_cons_of_mem _ hb
  · rw [e] at hb
    unfold frs at hb
    rw [List.filterMap_cons, hf] at hb
    exact hb
theorem Inv.stkFree (I : Inv X pins σ H s) : ∀ b ∈ frs X.stack, H b = none := fun b hb => by
  rcases List.mem_cons.mp (I.stkSub b hb) with e | hb
  · rw [e]; exact I.free
  · obtain ⟨_, o, ho, _⟩ := I.ok.funs.mem hb
    exact I.base.free b o ho (I.ok.frf b hb) fun z => I.ok.exfs b z hb

/-- THE STEP: the untracked objects but the frame and the records at ch are kept (the callers' frames up to slots), the frame's map is kept, the new abstract heap is held -/
theorem Inv.step {g' : Array GenState} {t' : Nat} {d' : Drawn} {ch : List Addr} (I : Inv X pins σ H s)
    (hch : ∀ b ∈ ch, (b ∈ X.ex ∨ X.s₀.heap.objs.size ≤ b) ∧ b ≠ X.env.locals ∧ (∀ x c, X.env.cells.lookup x = some c → c ≠ b) ∧ ∀ p ∈ X.pn ++ pins, p.1 ≠ b)
    (keep : ∀ b o, b ≠ X.env.locals → b ∉ X.fs → b ∉ ch → s.heap.get? b = some o → H b = none → h'.get? b = some o)
    (slot : ∀ b o, b ≠ X.env.locals → b ∈ X.fs → b ∉ ch → s.heap.get? b = some o → H b = none → ∃ sl, h'.get? b = some { o with slots := sl }) (free : ∀ b o, b ∉ ch → s.heap.get? b = some o → H b = none → H' b = none)
    (there : ∀ b o, b ∉ ch → s.heap.get? b = some o → ∃ o', h'.get? b = some o')
    (tups : ∀ b xs, H b = some (.tup xs) → H' b = some (.tup xs)) (frzs : ∀ b o u, H b = some (.frz o u) → H' b = some (.frz o u)) (tbls : ∀ b ps, H b = some (.tbl ps) → ∃ more, H' b = some (.tbl (ps ++ more)))
    (ns : ∀ m, s.heap.Ns X.env.locals m → h'.Ns X.env.locals m) (hok : HOk X.prog X.w H' h') (hg : AllBare g') :
    Inv X pins σ H' { s with heap := h', gens := g', drawn := d', toks := t' } := by
  have neL : ∀ b o, X.s₀.heap.get? b = some o → b ≠ X.env.locals := fun b o e => Nat.ne_of_lt (Nat.lt_of_lt_of_le (Heap.lt_size e) I.ok.above)
  have neC : ∀ b o, X.s₀.heap.get? b = some o → b ∉ X.ex → b ∉ ch := fun b o e hx hb => by
    rcases (hch b hb).1 with z | z
    · exact hx z
    · exact absurd (Nat.lt_of_lt_of_le (Heap.lt_size e) z) (Nat.lt_irrefl _)
  have cellK : ∀ x c, X.env.cells.lookup x = some c → ∀ v, s.heap.IsCell c v → h'.IsCell c v := fun x c e v ⟨o, ho, hd⟩ => by
    have nch : c ∉ ch := fun z => (hch c z).2.2.1 x c e rfl
    by_cases hc : c ∈ X.fs
    · obtain ⟨sl, q⟩ := slot c o (I.cne x c e) hc nch ho (I.freeC x c e)
      exact ⟨_, q, hd⟩
    · exact ⟨o, keep c o (I.cne x c e) hc nch ho (I.freeC x c e), hd⟩
  refine ⟨I.ok, I.os, hg, ⟨fun b o e n hb hx => ?_, fun b o e n hb hx => ?_, fun b o e n hx => ?_, fun b o e hx => ?_, fun b xs e => tups b xs (I.base.tups b xs e), fun b o xs e => frzs b o xs (I.base.frzs b o xs e), fun b ps e => ?_⟩, ?_, fun x c e => ?_, ?_, fun x c e => ?_, fun p hp => ?_, hok, I.len⟩
  · exact keep b o (neL b o e) hb (neC b o e hx) (I.base.keep b o e n hb hx) (I.base.free b o e n hx)
  · obtain ⟨sl, e1⟩ := I.base.slot b o e n hb hx
    obtain ⟨sl', e2⟩ := slot b _ (neL b o e) hb (neC b o e hx) e1 (I.base.free b o e n hx)
    exact ⟨sl', e2⟩
  · obtain ⟨o', e1⟩ := I.base.there b o e hx
    exact free b o' (neC b o e hx) e1 (I.base.free b o e n hx)
  · obtain ⟨o', e1⟩ := I.base.there b o e hx
    exact there b o' (neC b o e hx) e1
  · obtain ⟨m1, e1⟩ := I.base.tbls b ps e
    obtain ⟨m2, e2⟩ := tbls b _ e1
    exact ⟨m1 ++ m2, by rw [e2, Array.append_assoc]⟩
  · obtain ⟨m, hn, hl⟩ := I.loc
    refine ⟨m, ns m hn, fun i x v e1 e2 e3 => ?_⟩
    obtain ⟨u, r, l⟩ := hl i x v e1 e2 e3
    refine ⟨u, r, ?_⟩
    rcases l with l | ⟨k, c, e, z⟩
    · exact .inl l
    · exact .inr ⟨k, c, e, cellK x c e _ z⟩
  · obtain ⟨v, z⟩ := I.cell x c e
    exact ⟨v, cellK x c e v z⟩
  · obtain ⟨m, ⟨o, _, _, ho, _⟩, _⟩ := I.loc
    exact free _ o (fun z => (hch _ z).2.1 rfl) ho I.free
  · obtain ⟨v, o, ho, hd⟩ := I.cell x c e
    exact free c o (fun z => (hch c z).2.2.1 x c e rfl) ho (I.freeC x c e)
  · obtain ⟨e, n, ne, nf, d⟩ := I.pin p hp
    have nch : p.1 ∉ ch := fun z => (hch p.1 z).2.2.2 p hp rfl
    exact ⟨keep p.1 p.2 ne nf nch e n, free p.1 p.2 nch e n, ne, nf, d⟩
/-- .. where the frame's own object is kept too -/
theorem Inv.un {t' : Nat} (I : Inv X pins σ H s) (u : Un X.fs [] H H' s.heap h') (hok : HOk X.prog X.w H' h') : Inv X pins σ H' { s with heap := h', toks := t' } := by
  obtain ⟨m, ⟨o, es, ep, ho, r⟩, _⟩ := id I.loc
  obtain ⟨sl, hL⟩ := u.any ho I.free (by simp)
  exact I.step (g' := s.gens) (d' := s.drawn) (ch := []) (fun _ z => nomatch z) (fun b o _ hb _ e n => u.keep b o e n hb (by simp)) (fun b o _ hb _ e n => u.slot b o e n hb (by simp)) (fun b o _ e n => u.free b o e n (by simp)) (fun b o _ e => u.there b o e (by simp)) u.tups u.frzs u.tbls (fun m' hm => by
    obtain ⟨o', es', ep', ho', r'⟩ := hm
    rw [ho] at ho'; cases ho'
    exact ⟨_, es', ep', hL, r'⟩) hok I.bare
/-- behind a call (or a comprehension's block): the slots of this frame may have changed too, the records at ch may have turned -/
theorem Inv.call {g' : Array GenState} {t' : Nat} {d' : Drawn} {ch : List Addr} (I : Inv X pins σ H s) (u : Un (frs X.stack) ch H H' s.heap h') (hok : HOk X.prog X.w H' h') (hg : AllBare g')
    (hch : ∀ b ∈ ch, (b ∈ X.ex ∨ X.s₀.heap.objs.size ≤ b) ∧ b ≠ X.env.locals ∧ (∀ x c, X.env.cells.lookup x = some c → c ≠ b) ∧ ∀ p ∈ X.pn ++ pins, p.1 ≠ b) :
    Inv X pins σ H' { s with heap := h', gens := g', drawn := d', toks := t' } := by
  obtain ⟨m, ⟨o, es, ep, ho, r⟩, _⟩ := id I.loc
  obtain ⟨sl, hL⟩ := u.any ho I.free fun z => (hch _ z).2.1 rfl
  exact I.step (ch := ch) hch (fun b o hL hb hc e n => u.keep b o e n (fun z => (List.mem_cons.mp (I.stkSub b z)).elim hL hb) hc) (fun b o _ _ hc e n => u.any e n hc) (fun b o hc e n => u.free b o e n hc) (fun b o hc e => u.there b o e hc) u.tups u.frzs u.tbls (fun m' hm => by
    obtain ⟨o', es', ep', ho', r'⟩ := hm
    rw [ho] at ho'; cases ho'
    exact ⟨_, es', ep', hL, r'⟩) hok hg
/-- an untracked record of ours (an iterator) has turned -/
theorem Inv.turned {t' : Nat} {it : Addr} (I : Inv X pins σ H s) (k : ∀ b o, b ≠ it → s.heap.get? b = some o → h'.get? b = some o) (hn : H it = none) (hL : it ≠ X.env.locals)
    (h1 : it ∈ X.ex ∨ X.s₀.heap.objs.size ≤ it) (h2 : ∀ x c, X.env.cells.lookup x = some c → c ≠ it) (h3 : ∀ p ∈ X.pn ++ pins, p.1 ≠ it) : Inv X pins σ H { s with heap := h', toks := t' } := by
  have nit : ∀ b u, H b = some u → b ≠ it := fun b u e z => by rw [z, hn] at e; cases e
  refine I.step (g' := s.gens) (d' := s.drawn) (ch := [it]) (fun b hb => ?_) (fun b o _ _ hc e _ => k b o (fun z => hc (by simp [z])) e) (fun b o _ _ hc e _ => ⟨o.slots, k b o (fun z => hc (by simp [z])) e⟩) (fun _ _ _ _ n => n)
    (fun b o hc e => ⟨o, k b o (fun z => hc (by simp [z])) e⟩) (fun _ _ e => e) (fun _ _ _ e => e) (fun b ps e => ⟨#[], by rw [e]; simp⟩) (fun m hm => ?_) (fun b u e => ?_) I.bare
  · have e : b = it := by simpa using hb
    subst e
    exact ⟨h1, hL, h2, h3⟩
  · obtain ⟨o, es, ep, ho, r⟩ := hm
    exact ⟨o, es, ep, k _ o (Ne.symm hL) ho, r⟩
  · refine (I.hok b u e).stay (fun c v hc q => k c v ?_ q) (fun _ q => q) fun _ _ q => q
    rcases hc with z | z
    · rw [z]; exact nit b u e
    · exact nit c _ z
theorem Inv.tok (I : Inv X pins σ H s) (t : Nat) : Inv X pins σ H { s with toks := t } := I.un (h' := s.heap) (t' := t) Un.refl I.hok
/-- all objects kept -/
theorem Inv.kept {t' : Nat} (I : Inv X pins σ H s) (k : ∀ b u, s.heap.get? b = some u → h'.get? b = some u) : Inv X pins σ H { s with heap := h', toks := t' } := I.un (Un.kept k) (I.hok.kept k)
/-- a new object laid and tracked -/
theorem Inv.laid {a : Addr} {o : HO} {t' : Nat} (I : Inv X pins σ H s) (k : ∀ b u, s.heap.get? b = some u → h'.get? b = some u) (hp : s.heap.objs.size ≤ a) (new : ObjOk X.prog X.w (upd H a o) h' a o) :
    Inv X pins σ (upd H a o) { s with heap := h', toks := t' } := I.un (Un.laid k hp (I.hok.fresh hp)) (I.hok.laid k hp new)
/-- an object written -/
theorem Inv.write {x e : Addr} {o : HO} {t' : Nat} (I : Inv X pins σ H s) (mu : Mut (H x)) (he : e = x ∨ H e = some (.own x)) (k : ∀ b u, b ≠ e → s.heap.get? b = some u → h'.get? b = some u) (heo : ∃ u, h'.get? e = some u)
    (new : ObjOk X.prog X.w (upd H x o) h' x o) : Inv X pins σ (upd H x o) { s with heap := h', toks := t' } := I.un (Un.write mu he k heo) (I.hok.write mu he k heo new)
theorem Inv.pins_of {pins' : List (Addr × Obj)} (I : Inv X pins σ H s) (h : ∀ p ∈ pins', s.heap.get? p.1 = some p.2 ∧ H p.1 = none ∧ p.1 ≠ X.env.locals ∧ p.1 ∉ X.fs ∧ ∀ v, p.2.data ≠ .cell v) : Inv X pins' σ H s :=
  ⟨I.ok, I.os, I.bare, I.base, I.loc, I.cell, I.free, I.freeC, fun p hp => (List.mem_append.mp hp).elim (fun z => I.pin p (List.mem_append_left _ z)) (h p), I.hok, I.len⟩

theorem nodup_ix {N : List Str} (hN : N.Nodup) {i j : Nat} {x : Str} (a : N[i]? = some x) (b : N[j]? = some x) : i = j := by
  obtain ⟨h1, e1⟩ := List.getElem?_eq_some_iff.mp a
  obtain ⟨h2, e2⟩ := List.getElem?_eq_some_iff.mp b
  exact (List.getElem_inj hN).mp (e1.trans e2.symm)

/-- a name is stored; what changed -/
theorem store_ok2 {M : Model} {A : Around} {E : Value → Shared → Prop} {i : Nat} {x : Str} {v : V} {u : Value} {Q : Unit → Shared → Prop} (I : Inv X pins σ H s) (hN : X.N.Nodup) (hi : X.N[i]? = some x) (hx : Loc X.env.scope x) (r : RelV v u)
    (h : ∀ s', Inv X pins (σ.set i (some v)) H s' → (∃ a, Heap.SameBut a s.heap s'.heap ∧ (a = X.env.locals ∨ X.env.cells.lookup x = some a)) → Q () s') (hf : X.fn x = true ∨ X.env.scope.names.lookup x = some .local := by first | exact .inl rfl | exact .inr rfl | assumption) : wpAny M A (storeName X.env x u) Q E s := by
  obtain ⟨m, hn, hl⟩ := id I.loc
  have hcls : (X.env.scope.kind == .class || (X.env.scope.kind == .module && X.env.locals != X.env.globals)) = false := by rw [I.ok.kind]; rfl
  have hiσ : i < σ.length := by rw [I.len]; exact (List.getElem?_eq_some_iff.mp hi).1
  have cne := I.cne
  have tracked : ∀ {a : Addr} {h' : Heap}, (∃ o, s.heap.get? a = some o ∧ H a = none) → Heap.SameBut a s.heap h' → HOk X.prog X.w H h' := fun {a h'} ha hs b ob e => by
    obtain ⟨_, _, hfree⟩ := ha
    refine (I.hok b ob e).stay (fun c w' hc q => (hs.2 c ?_).trans q) (fun _ q => q) fun _ _ q => q
    rintro rfl
    rcases hc with rfl | hc
    · rw [hfree] at e; cases e
    · rw [hfree] at hc; cases hc
  rcases hx with hk | hk
  · refine wpAny_storeName_local hk hn (fun h' hn' hs => ?_) hcls
    obtain ⟨oL, _, _, hoL, _⟩ := id hn
    refine h _ ⟨I.ok, I.os, I.bare, ⟨fun b o e n hb hx => ?_, fun b o e n hb hx => ?_, I.base.free, fun b o e hx => ?_, I.base.tups, I.base.frzs, I.base.tbls⟩, ⟨_, hn', fun j y v' e1 e2 e3 => ?_⟩, fun y c e => ?_, I.free, I.freeC, fun p hp => ?_, tracked ⟨oL, hoL, I.free⟩ hs, by simpa using I.len⟩ ⟨_, hs, .inl rfl⟩
    · exact (hs.2 b (Nat.ne_of_lt (Nat.lt_of_lt_of_le (Heap.lt_size e) I.ok.above))).trans (I.base.keep b o e n hb hx)
    · obtain ⟨sl, e1⟩ := I.base.slot b o e n hb hx
      exact ⟨sl, (hs.2 b (Nat.ne_of_lt (Nat.lt_of_lt_of_le (Heap.lt_size e) I.ok.above))).trans e1⟩
    · obtain ⟨o', e1⟩ := I.base.there b o e hx
      exact ⟨o', (hs.2 b (Nat.ne_of_lt (Nat.lt_of_lt_of_le (Heap.lt_size e) I.ok.above))).trans e1⟩
    · by_cases hj : j = i
      · subst hj
        rw [hi] at e1; cases e1
        rw [List.getElem?_set_self hiσ] at e2
        cases e2
        exact ⟨u, r, .inl ⟨hk, by simp⟩⟩
      · rw [List.getElem?_set_ne (Ne.symm hj)] at e2
        obtain ⟨u', r', q⟩ := hl j y v' e1 e2 e3
        refine ⟨u', r', ?_⟩
        rcases q with ⟨k, e⟩ | ⟨k, c, e, z⟩
        · refine .inl ⟨k, ?_⟩
          have : y ≠ x := fun e => hj (nodup_ix hN e1 (e ▸ hi))
          simp [this, e]
        · exact .inr ⟨k, c, e, z.sameBut hs (cne y c e)⟩
    · obtain ⟨w', z⟩ := I.cell y c e
      exact ⟨w', z.sameBut hs (cne y c e)⟩
    · obtain ⟨e, n, ne, nf, d⟩ := I.pin p hp
      exact ⟨(hs.2 p.1 ne).trans e, n, ne, nf, d⟩
  · have hfn : X.fn x = true := by
      rcases hf with z | z
      · exact z
      · rw [z] at hk; cases hk
    obtain ⟨c, hc⟩ := I.ok.has x (.inl hk)
    obtain ⟨w', z⟩ := I.cell x c hc
    refine wpAny_storeName_cell I.ok.kind hk hc z (fun h' hc' hs => ?_)
    obtain ⟨oc, hoc, hocd⟩ := id z
    refine h { s with heap := h' } ⟨I.ok, I.os, I.bare, ⟨fun b o e n hb hx => ?_, fun b o e n hb hx => ?_, I.base.free, fun b o e hx => ?_, I.base.tups, I.base.frzs, I.base.tbls⟩, ⟨m, hn.sameBut hs (Ne.symm (cne x c hc)), fun j y v' e1 e2 e3 => ?_⟩, fun y c' e => ?_, I.free, I.freeC, fun p hp => ?_, tracked ⟨oc, hoc, I.freeC x c hc⟩ hs, by simpa using I.len⟩ ⟨c, hs, .inr hc⟩
    · exact (hs.2 b (Nat.ne_of_lt (Nat.lt_of_lt_of_le (Heap.lt_size e) (I.ok.cab x c hfn hc)))).trans (I.base.keep b o e n hb hx)
    · obtain ⟨sl, e1⟩ := I.base.slot b o e n hb hx
      exact ⟨sl, (hs.2 b (Nat.ne_of_lt (Nat.lt_of_lt_of_le (Heap.lt_size e) (I.ok.cab x c hfn hc)))).trans e1⟩
    · obtain ⟨o', e1⟩ := I.base.there b o e hx
      exact ⟨o', (hs.2 b (Nat.ne_of_lt (Nat.lt_of_lt_of_le (Heap.lt_size e) (I.ok.cab x c hfn hc)))).trans e1⟩
    · by_cases hj : j = i
      · subst hj
        rw [hi] at e1; cases e1
        rw [List.getElem?_set_self hiσ] at e2
        cases e2
        exact ⟨u, r, .inr ⟨.inl hk, c, hc, hc'⟩⟩
      · rw [List.getElem?_set_ne (Ne.symm hj)] at e2
        obtain ⟨u', r', q⟩ := hl j y v' e1 e2 e3
        refine ⟨u', r', ?_⟩
        rcases q with q | ⟨k, c', e, z'⟩
        · exact .inl q
        · refine .inr ⟨k, c', e, z'.sameBut hs ?_⟩
          rintro rfl
          exact hj (nodup_ix hN e1 (I.ok.inj _ _ _ e hc ▸ hi))
    · by_cases hcc : c' = c
      · subst hcc; exact ⟨_, hc'⟩
      · obtain ⟨w2, z2⟩ := I.cell y c' e
        exact ⟨w2, z2.sameBut hs hcc⟩
    · obtain ⟨e, n, ne, nf, d⟩ := I.pin p hp
      refine ⟨(hs.2 p.1 ?_).trans e, n, ne, nf, d⟩
      intro q
      rw [q, hoc] at e
      have q' : oc = p.2 := Option.some.inj e
      exact d w' (by rw [← q']; exact hocd)
theorem store_ok {M : Model} {A : Around} {E : Value → Shared → Prop} {i : Nat} {x : Str} {v : V} {u : Value} {Q : Unit → Shared → Prop} (I : Inv X pins σ H s) (hN : X.N.Nodup) (hi : X.N[i]? = some x) (hx : Loc X.env.scope x) (r : RelV v u)
    (h : ∀ s', Inv X pins (σ.set i (some v)) H s' → Q () s') (hf : X.fn x = true ∨ X.env.scope.names.lookup x = some .local := by first | exact .inl rfl | exact .inr rfl | assumption) : wpAny M A (storeName X.env x u) Q E s :=
  store_ok2 I hN hi hx r (fun s' I' _ => h s' I') hf
/-- behind a call or a block, the state as it is -/
theorem Inv.call' {s' : Shared} {ch : List Addr} (I : Inv X pins σ H s) (ho : s'.os = s.os) (u : Un (frs X.stack) ch H H' s.heap s'.heap) (hok : HOk X.prog X.w H' s'.heap) (hg : AllBare s'.gens)
    (hch : ∀ b ∈ ch, (b ∈ X.ex ∨ X.s₀.heap.objs.size ≤ b) ∧ b ≠ X.env.locals ∧ (∀ x c, X.env.cells.lookup x = some c → c ≠ b) ∧ ∀ p ∈ X.pn ++ pins, p.1 ≠ b) : Inv X pins σ H' s' := by
  obtain ⟨h', g', d', t', o'⟩ := s'
  have e : o' = s.os := ho
  subst e
  exact I.call (g' := g') (t' := t') (d' := d') u hok hg hch
end

/-! ### the judgements -/
/-- an exception: its class, its own dict's address (where it has one), the abstract heap behind it -/
abbrev XK := Value → Option Addr → Hp → Prop
abbrev St := List (Option V)
abbrev VK := V → Hp → Prop
/-- an expression's reading; a test's; an argument list's -/
abbrev TE := St → Hp → VK → Prop
abbrev TT := St → Hp → (Bool → Hp → Prop) → Prop
abbrev TA := St → Hp → (List V → Hp → Prop) → Prop
/-- what is wanted behind a statement -/
structure Ends where
  nx : St → Hp → Prop
  rt : VK
  bk : St → Hp → Prop := fun _ _ => False
  ct : St → Hp → Prop := fun _ _ => False
abbrev TS := Ends → St → Hp → Prop

def EP (X : Cx) (pins : List (Addr × Obj)) (σ : St) (Q : VK) (u : Value) (s' : Shared) : Prop := ∃ v H', Inv X pins σ H' s' ∧ RelV v u ∧ Q v H'
def TP (X : Cx) (pins : List (Addr × Obj)) (σ : St) (Q : Bool → Hp → Prop) (b : Bool) (s' : Shared) : Prop := ∃ H', Inv X pins σ H' s' ∧ Q b H'
def AP (X : Cx) (pins : List (Addr × Obj)) (σ : St) (Q : List V → Hp → Prop) (us : List Value) (s' : Shared) : Prop := ∃ vs H', Inv X pins σ H' s' ∧ Vals vs us ∧ Q vs H'
def SP (X : Cx) (pins : List (Addr × Obj)) (D : Ends) (f : Flow) (s' : Shared) : Prop :=
  match f with
  | .next => ∃ σ' H', Inv X pins σ' H' s' ∧ D.nx σ' H'
  | .brk => ∃ σ' H', Inv X pins σ' H' s' ∧ D.bk σ' H'
  | .cont => ∃ σ' H', Inv X pins σ' H' s' ∧ D.ct σ' H'
  | .ret u => ∃ v σ' H', Inv X pins σ' H' s' ∧ RelV v u ∧ D.rt v H'

def PE (X : Cx) (e : Expr) (t : TE) : Prop :=
  ∀ (pins : List (Addr × Obj)) (s : Shared) (σ : St) (H : Hp) (Q : VK), Inv X pins σ H s → t σ H Q → wpAny (model X.prog X.w) X.A (eval e X.env) (EP X pins σ Q) X.xe s
def PT (X : Cx) (e : Expr) (t : TT) : Prop :=
  ∀ (pins : List (Addr × Obj)) (s : Shared) (σ : St) (H : Hp) (Q : Bool → Hp → Prop), Inv X pins σ H s → t σ H Q → wpAny (model X.prog X.w) X.A (isTrue e X.env (eval e X.env)) (TP X pins σ Q) X.xe s
/-- a test whatever its 'whole' is (and, or) -/
def PW (X : Cx) (e : Expr) (t : TT) : Prop :=
  ∀ (whole : Sem Value) (pins : List (Addr × Obj)) (s : Shared) (σ : St) (H : Hp) (Q : Bool → Hp → Prop), Inv X pins σ H s → t σ H Q → wpAny (model X.prog X.w) X.A (isTrue e X.env whole) (TP X pins σ Q) X.xe s
theorem PW.pt {X : Cx} {e : Expr} {t : TT} (h : PW X e t) : PT X e t := h _
/-- an argument list (no star), from the left -/
def PA (X : Cx) (es : List Expr) (t : TA) : Prop :=
  ∀ (pos : Pos) (pins : List (Addr × Obj)) (s : Shared) (σ : St) (H : Hp) (Q : List V → Hp → Prop), Inv X pins σ H s → t σ H Q → wpAny (model X.prog X.w) X.A (spliced (backTo pos (starEach es X.env))) (AP X pins σ Q) X.xe s
def PS (X : Cx) (st : Stmt) (t : TS) : Prop :=
  ∀ (pins : List (Addr × Obj)) (s : Shared) (σ : St) (H : Hp) (D : Ends), Inv X pins σ H s → t D σ H → wpAny (model X.prog X.w) X.A (exec st X.env) (SP X pins D) X.xe s
def PSs (X : Cx) (st : List Stmt) (t : TS) : Prop :=
  ∀ (pins : List (Addr × Obj)) (s : Shared) (σ : St) (H : Hp) (D : Ends), Inv X pins σ H s → t D σ H → wpAny (model X.prog X.w) X.A (execs st X.env) (SP X pins D) X.xe s
/-- weaken the end -/
theorem thn {α : Type} {t : Sem α} {Q Q' : α → Shared → Prop} {M : Model} {A : Around} {E : Value → Shared → Prop} {s : Shared} (h : wpAny M A t Q E s) (hQ : ∀ a s, Q a s → Q' a s) : wpAny M A t Q' E s := wpAny_mono h hQ fun _ _ x => x
end L2

namespace L2
open PySem PySem.Spec PyProof.Rows
section
variable {X : Cx}

/-! ### names and constants -/
def tVar (i : Nat) : TE := fun σ H Q => ∃ v, σ[i]? = some (some v) ∧ Q v H
def tC (v : V) : TE := fun _ H Q => Q v H
theorem pe_var {i : Nat} {x : Str} {pos : Pos} (hN : X.N[i]? = some x) (hv : Vis X.env.scope x) (hd : (x == ("__debug__" : Str)) = false := by decide) (hcd : (x == ("__classdict__" : Str)) = false := by decide) : PE X (.Name x pos) (tVar i) := by
  intro pins s σ H Q I h
  obtain ⟨v, e, h⟩ := h
  obtain ⟨m, hn, hl⟩ := I.loc
  obtain ⟨u, r, l⟩ := hl i x v hN e hv
  have fin : EP X pins σ Q u s := ⟨v, H, I, r, h⟩
  rcases l with ⟨hk, hm⟩ | ⟨hk, c, hc, hcell⟩
  · exact wpAny_Name (wpAny_loadName_local I.ok.kind hk hn hm fin) hd
  · rcases hk with hk | hk
    · exact wpAny_Name (wpAny_loadName_cell I.ok.kind hk hc hcell fin) hd
    · exact wpAny_Name (wpAny_loadName_free I.ok.kind hk hc hcell fin hcd) hd
theorem pe_int {i j pos} : PE X (.Constant (.int i) j pos) (tC (.int i)) := fun _ _ _ H _ I h => wpAny_Constant_int ⟨.int i, H, I.tok _, ⟨_, rfl⟩, h⟩
theorem pe_bl {b j pos} : PE X (.Constant (.bool b) j pos) (tC (.bl b)) := fun _ _ _ H _ I h => Constant_bool ⟨.bl b, H, I, rfl, h⟩
theorem pe_non {j pos} : PE X (.Constant .none j pos) (tC .non) := fun _ _ _ H _ I h => Constant_none ⟨.non, H, I, rfl, h⟩
theorem pe_str {x j pos} : PE X (.Constant (.str x) j pos) (tC (.str x)) := fun _ _ _ H _ I h => Calls.Constant_str ⟨.str x, H, I.tok _, ⟨_, rfl⟩, h⟩

/-- a global name of the def -/
def Gl (X : Cx) (x : Str) : Prop := X.env.kindOf x = some .globalImplicit
theorem ld_glob {E : Value → Shared → Prop} {pins : List (Addr × Obj)} {s : Shared} {σ : St} {H : Hp} {x : Str} {u : Value} {pos : Pos} {Q : Value → Shared → Prop} (I : Inv X pins σ H s) (hg : Gl X x) (hm : X.mg x = some u) (h : Q u s)
    (hd : (x == ("__debug__" : Str)) = false := by decide) : wpAny (model X.prog X.w) X.A (eval (.Name x pos) X.env) Q E s :=
  Calls.Name_function_global I.ok.kind hg (Calls.loadGlobal_global (by rw [I.ok.glob]; exact I.mod.glob.keeps I.bk) hm h) hd
theorem ld_blt {E : Value → Shared → Prop} {pins : List (Addr × Obj)} {s : Shared} {σ : St} {H : Hp} {x : Str} {u : Value} {pos : Pos} {Q : Value → Shared → Prop} (I : Inv X pins σ H s) (hg : Gl X x) (hm : X.mg x = none) (hv : bootBuiltins x = some u) (h : Q u s)
    (hn : x ≠ "__name__" := by decide) (hd : (x == ("__debug__" : Str)) = false := by decide) : wpAny (model X.prog X.w) X.A (eval (.Name x pos) X.env) Q E s := by
  obtain ⟨mb, h1, h2⟩ := I.mod.blt
  exact Calls.Name_function_global I.ok.kind hg (Calls.loadGlobal_builtin (by rw [I.ok.glob]; exact I.mod.glob.keeps I.bk) hm (by rw [I.ok.blt]; exact h1.keeps I.bk) ((h2 x hn).trans hv) h) hd
/-- a module's constant, a class, a function, as a value -/
theorem pe_glob {x : Str} {v : V} {u : Value} {pos : Pos} (hg : Gl X x) (hm : X.mg x = some u) (r : RelV v u) (hd : (x == ("__debug__" : Str)) = false := by decide) : PE X (.Name x pos) (tC v) :=
  fun _ _ _ H _ I h => ld_glob I hg hm ⟨v, H, I, r, h⟩ hd
theorem pe_bltn {x : Str} {v : V} {u : Value} {pos : Pos} (hg : Gl X x) (hm : X.mg x = none) (hv : bootBuiltins x = some u) (r : RelV v u) (hn : x ≠ "__name__" := by decide) (hd : (x == ("__debug__" : Str)) = false := by decide) : PE X (.Name x pos) (tC v) :=
  fun _ _ _ H _ I h => ld_blt I hg hm hv ⟨v, H, I, r, h⟩ hn hd

/-! ### arithmetic -/
variable {a b : Expr} {ta tb : TE} {pos : Pos}
/-! ### comparisons -/
/-! ### and, or, not -/
variable {tA tB' : TT} {rest : List Expr}
def tAnd (t u : TT) : TT := fun σ H Q => t σ H fun c H1 => if c = true then u σ H1 Q else Q false H1
def tOr (t u : TT) : TT := fun σ H Q => t σ H fun c H1 => if c = true then Q true H1 else u σ H1 Q
def tNot (t : TT) : TT := fun σ H Q => t σ H fun c H1 => Q (!c) H1
theorem pw_and1 (ha : PT X a tA) : PW X (.BoolOp .And [a] pos) tA := by
  intro wh pins s σ H Q I h
  refine isTrue_and (thn (ha pins s σ H Q I h) fun c s1 e => ?_)
  cases c with
  | true => exact isTrue_and_nil e
  | false => exact e
theorem pw_or1 (ha : PT X a tA) : PW X (.BoolOp .Or [a] pos) tA := by
  intro wh pins s σ H Q I h
  refine isTrue_or (thn (ha pins s σ H Q I h) fun c s1 e => ?_)
  cases c with
  | false => exact isTrue_or_nil e
  | true => exact e
theorem pw_and (ha : PT X a tA) (hb : PW X (.BoolOp .And (b :: rest) pos) tB') : PW X (.BoolOp .And (a :: b :: rest) pos) (tAnd tA tB') := by
  intro wh pins s σ H Q I h
  refine isTrue_and (thn (ha pins s σ H _ I h) fun c s1 ⟨H1, I1, q1⟩ => ?_)
  cases c with
  | true => exact hb wh pins s1 σ H1 Q I1 q1
  | false => exact ⟨H1, I1, q1⟩
theorem pw_or (ha : PT X a tA) (hb : PW X (.BoolOp .Or (b :: rest) pos) tB') : PW X (.BoolOp .Or (a :: b :: rest) pos) (tOr tA tB') := by
  intro wh pins s σ H Q I h
  refine isTrue_or (thn (ha pins s σ H _ I h) fun c s1 ⟨H1, I1, q1⟩ => ?_)
  cases c with
  | true => exact ⟨H1, I1, q1⟩
  | false => exact hb wh pins s1 σ H1 Q I1 q1
theorem pt_not (ha : PT X a tA) : PT X (.UnaryOp .Not a pos) (tNot tA) := by
  intro pins s σ H Q I h
  exact isTrue_not (ha pins s σ H (fun c H1 => Q (!c) H1) I h)
/-- .. as values (bools) -/
def tAndV (ta tb : TE) : TE := fun σ H Q => ta σ H fun x H1 => ∃ c, x = .bl c ∧ if c = true then tb σ H1 Q else Q (.bl false) H1
def tNotV (ta : TE) : TE := fun σ H Q => ta σ H fun x H1 => ∃ c, x = .bl c ∧ Q (.bl (!c)) H1
theorem pe_one {op} {t : TE} (h : PE X a t) : PE X (.BoolOp op [a] pos) t := fun pins s σ H Q I hw => BoolOp_one (h pins s σ H Q I hw)
theorem pe_and (ha : PE X a ta) (hb : PE X (.BoolOp .And (b :: rest) pos) tb) : PE X (.BoolOp .And (a :: b :: rest) pos) (tAndV ta tb) := by
  intro pins s σ H Q I h
  refine BoolOp_and (thn (ha pins s σ H _ I h) fun v s1 ⟨x, H1, I1, r1, q1⟩ => ?_)
  obtain ⟨c, rfl, q1⟩ := q1
  cases r1
  refine wpAny_truthy_bool ?_
  cases c with
  | true => exact hb pins s1 σ H1 Q I1 q1
  | false => exact ⟨.bl false, H1, I1, rfl, q1⟩
theorem pe_not (ha : PE X a ta) : PE X (.UnaryOp .Not a pos) (tNotV ta) := by
  intro pins s σ H Q I h
  refine UnaryOp_ (thn (ha pins s σ H _ I h) fun v s1 ⟨x, H1, I1, r1, q1⟩ => ?_)
  obtain ⟨c, rfl, q1⟩ := q1
  cases r1
  exact not_of (wpAny_truthy_bool ⟨.bl (!c), H1, I1, rfl, q1⟩)
end
end L2

namespace L2
open PySem PySem.Spec PyProof.Rows

/-! ### a list, a tuple that is read: tracked, frozen, or an object of the module -/
def SqL (K : PySem.W.Frag) (H : Hp) (a : Addr) (xs : List V) : Prop :=
  Rd H a (.lst xs) ∨
    ∃ (o : Obj) (its : Array Value) (n : Nat), K.lookup a = some o ∧ o.cls = .type "list" ∧ o.dict = none ∧ o.data = .seq its n ∧ its.size ≤ sizeLine ∧ Vals xs its.toList
def SqT (K : PySem.W.Frag) (H : Hp) (a : Addr) (xs : List V) : Prop :=
  Rd H a (.tup xs) ∨
    ∃ (o : Obj) (its : Array Value) (n : Nat), K.lookup a = some o ∧ o.cls = .type "tuple" ∧ o.data = .seq its n ∧ its.size ≤ sizeLine ∧ Vals xs its.toList
def absV : Value → Option V
  | .none => some .non
  | .bool b => some (.bl b)
  | .int i _ => some (.int i)
  | .str x _ => some (.str x)
  | .bytes b _ => some (.byt b)
  | .float b _ => some (.flt b)
  | .ref a => some (.ref a)
  | .type n => some (.ty n)
  | _ => none
theorem RelV.abs {x : V} {u : Value} (r : RelV x u) : absV u = some x := by
  cases x with
  | non => cases r; rfl
  | bl _ => cases r; rfl
  | int _ => obtain ⟨t, rfl⟩ := r; rfl
  | str _ => obtain ⟨t, rfl⟩ := r; rfl
  | byt _ => obtain ⟨t, rfl⟩ := r; rfl
  | flt _ => obtain ⟨t, rfl⟩ := r; rfl
  | ref _ => cases r; rfl
  | ty _ => cases r; rfl
theorem RelV.inj {x y : V} {u : Value} (r : RelV x u) (q : RelV y u) : x = y := Option.some.inj (r.abs.symm.trans q.abs)
theorem Vals.inj : ∀ {xs ys : List V} {us : List Value}, Vals xs us → Vals ys us → xs = ys
  | _, _, _, .nil, .nil => rfl
  | _, _, _, .cons r t, .cons r' t' => by rw [r.inj r', Vals.inj t t']
section
variable {X : Cx} {pins : List (Addr × Obj)} {σ : St} {H : Hp} {s : Shared} {a : Addr} {xs ys : List V}
theorem SqL.of {K : PySem.W.Frag} (h : H a = some (.lst xs)) : SqL K H a xs := .inl (.inl h)
theorem SqT.of {K : PySem.W.Frag} (h : H a = some (.tup xs)) : SqT K H a xs := .inl (.inl h)
theorem Inv.list (I : Inv X pins σ H s) (h : SqL X.K H a xs) : ∃ its : List Value, Vals xs its ∧ PlainL s.heap a its.toArray ∧ xs.length ≤ sizeLine := by
  rcases h with h | ⟨o, its, n, hk, hc, hd, hs, hz, r⟩
  · obtain ⟨z, its, n, r, e⟩ := h.ok I.hok
    exact ⟨its, r, ⟨_, n, e, rfl, rfl, rfl⟩, z⟩
  · refine ⟨its.toList, r, ⟨o, n, I.kIn a o hk, hc, hd, by simpa using hs⟩, ?_⟩
    have e := r.length
    simp only [Array.length_toList] at e
    omega
theorem Inv.tuple (I : Inv X pins σ H s) (h : SqT X.K H a xs) : ∃ its : List Value, Vals xs its ∧ IsTup s.heap a its.toArray ∧ xs.length ≤ sizeLine := by
  rcases h with h | ⟨o, its, n, hk, hc, hs, hz, r⟩
  · obtain ⟨z, its, r, p⟩ := h.ok I.hok
    exact ⟨its, r, p, z⟩
  · refine ⟨its.toList, r, ⟨o, I.kIn a o hk, hc, n, by simpa using hs⟩, ?_⟩
    have e := r.length
    simp only [Array.length_toList] at e
    omega
theorem Inv.list_inj (I : Inv X pins σ H s) (h : SqL X.K H a xs) (h' : SqL X.K H a ys) : xs = ys := by
  obtain ⟨its, r, ⟨o, n, e, _, _, d⟩, _⟩ := I.list h
  obtain ⟨its', r', ⟨o', n', e', _, _, d'⟩, _⟩ := I.list h'
  rw [e] at e'; cases e'
  rw [d] at d'
  injection d' with d1 _
  have : its = its' := by simpa using congrArg Array.toList d1
  subst this
  exact r.inj r'
end

/-! ### another wish about exceptions -/
abbrev Cx.wish (X : Cx) (E : Value → Shared → Prop) : Cx := { X with xe := E }
/-- no exception leaves -/
abbrev Cx.nox (X : Cx) : Cx := X.wish fun _ _ => False
theorem Cx.Ok.wish {X : Cx} (ok : X.Ok) (E : Value → Shared → Prop) : (X.wish E).Ok :=
  ⟨ok.mod, ok.kind, ok.glob, ok.blt, ok.above, ok.inj, ok.has, ok.cab, ok.hd, ok.frames, ok.stk, ok.exf, ok.bs, ok.bsz, ok.noex, ok.exfs, ok.funs, ok.frf⟩
theorem Cx.Ok.unwish {X : Cx} {E : Value → Shared → Prop} (ok : (X.wish E).Ok) : X.Ok :=
  ⟨ok.mod, ok.kind, ok.glob, ok.blt, ok.above, ok.inj, ok.has, ok.cab, ok.hd, ok.frames, ok.stk, ok.exf, ok.bs, ok.bsz, ok.noex, ok.exfs, ok.funs, ok.frf⟩
section
variable {X : Cx} {pins : List (Addr × Obj)} {σ : St} {H : Hp} {s : Shared} {E : Value → Shared → Prop}
theorem Inv.wish (I : Inv X pins σ H s) (E : Value → Shared → Prop) : Inv (X.wish E) pins σ H s := ⟨I.ok.wish E, I.os, I.bare, I.base, I.loc, I.cell, I.free, I.freeC, I.pin, I.hok, I.len⟩
theorem Inv.unwish (I : Inv (X.wish E) pins σ H s) : Inv X pins σ H s := ⟨I.ok.unwish, I.os, I.bare, I.base, I.loc, I.cell, I.free, I.freeC, I.pin, I.hok, I.len⟩
theorem SP.unwish {D : Ends} {f : Flow} {s' : Shared} (h : SP (X.wish E) pins D f s') : SP X pins D f s' := by
  cases f with
  | next => obtain ⟨σ', H', I, q⟩ := h; exact ⟨σ', H', I.unwish, q⟩
  | brk => obtain ⟨σ', H', I, q⟩ := h; exact ⟨σ', H', I.unwish, q⟩
  | cont => obtain ⟨σ', H', I, q⟩ := h; exact ⟨σ', H', I.unwish, q⟩
  | ret u => obtain ⟨v, σ', H', I, r, q⟩ := h; exact ⟨v, σ', H', I.unwish, r, q⟩
theorem PSs.nox {st : List Stmt} {t : TS} (h : PSs X.nox st t) : PSs X st t := fun pins s σ H D I hw =>
  wpAny_mono (h pins s σ H D (I.wish _) hw) (fun _ _ q => q.unwish) fun _ _ z => False.elim z
end

/-! ### blocks and small statements -/
section
variable {X : Cx} {st : Stmt} {rest : List Stmt} {t u : TS} {e : Expr} {te : TE} {pos : Pos}
def tNext : TS := fun D σ H => D.nx σ H
def tSeq (t u : TS) : TS := fun D σ H => t { D with nx := u D } σ H
theorem pss_nil : PSs X [] tNext := fun _ _ σ H _ I h => wpAny_execs_nil ⟨σ, H, I, h⟩
theorem pss_cons (h1 : PS X st t) (h2 : PSs X rest u) : PSs X (st :: rest) (tSeq t u) := by
  intro pins s σ H D I h
  refine wpAny_execs_cons (thn (h1 pins s σ H { D with nx := u D } I h) fun f s1 q => ?_)
  cases f with
  | next =>
    obtain ⟨σ', H', I', q⟩ := q
    exact h2 pins s1 σ' H' D I' q
  | ret v => exact q
  | brk => exact q
  | cont => exact q
theorem pss_one (h1 : PS X st t) : PSs X [st] t := by
  intro pins s σ H D I h
  refine wpAny_execs_cons (thn (h1 pins s σ H D I h) fun f s1 q => ?_)
  cases f with
  | next => exact wpAny_execs_nil q
  | ret v => exact q
  | brk => exact q
  | cont => exact q
/-- in a def's body nothing is shown -/
theorem Inv.quiet {pins : List (Addr × Obj)} {σ : St} {H : Hp} {s : Shared} (I : Inv X pins σ H s) : interactive X.env = false := by simp [interactive, I.ok.kind]
/-- an expression whose value is dropped -/
def tDrop (te : TE) : TS := fun D σ H => te σ H fun _ H1 => D.nx σ H1
theorem ps_expr (he : PE X e te) (hs : swapsWith e none pos.line X.env = pure false := by rfl) : PS X (.Expr e pos) (tDrop te) := by
  intro pins s σ H D I h
  exact wpAny_Expr_any (thn (he pins s σ H _ I h) fun v s1 ⟨x, H1, I1, r1, q1⟩ => ⟨σ, H1, I1, q1⟩) I.quiet hs
def tRet (te : TE) : TS := fun D σ H => te σ H D.rt
theorem ps_ret (he : PE X e te) : PS X (.Return (some e) pos) (tRet te) := by
  intro pins s σ H D I h
  exact wpAny_Return_some (thn (he pins s σ H _ I h) fun v s1 ⟨x, H1, I1, r1, q1⟩ => ⟨x, σ, H1, I1, r1, q1⟩)
def tIfS (c : TT) (t u : TS) : TS := fun D σ H => c σ H fun b H1 => if b = true then t D σ H1 else u D σ H1
theorem ps_if {c : Expr} {a b : List Stmt} {tc : TT} (hc : PT X c tc) (ha : PSs X a t) (hb : PSs X b u) : PS X (.If c a b pos) (tIfS tc t u) := by
  intro pins s σ H D I h
  refine wpAny_If (thn (hc pins s σ H _ I h) fun d s1 ⟨H1, I1, q1⟩ => ?_)
  cases d with
  | true => exact ha pins s1 σ H1 D I1 q1
  | false => exact hb pins s1 σ H1 D I1 q1
/-- code that the proof never comes to -/
def tNever : TS := fun _ _ _ => False
theorem ps_never : PS X st tNever := fun _ _ _ _ _ _ h => h.elim
end

/-! ### targets -/
abbrev TG := V → St → Hp → (St → Hp → Prop) → Prop
abbrev TGs := List V → St → Hp → (St → Hp → Prop) → Prop
def PG (X : Cx) (target : Expr) (t : TG) : Prop :=
  ∀ (pins : List (Addr × Obj)) (s : Shared) (σ : St) (H : Hp) (v : V) (u : Value) (Q : St → Hp → Prop), Inv X pins σ H s → RelV v u → t v σ H Q →
    wpAny (model X.prog X.w) X.A (assign target X.env u) (fun _ s' => ∃ σ' H', Inv X pins σ' H' s' ∧ Q σ' H') X.xe s
/-- several targets, one after another -/
def PGs (X : Cx) (ts : List Expr) (t : TGs) : Prop :=
  ∀ (pins : List (Addr × Obj)) (s : Shared) (σ : St) (H : Hp) (vs : List V) (us : List Value) (Q : St → Hp → Prop), Inv X pins σ H s → Vals vs us → t vs σ H Q →
    wpAny (model X.prog X.w) X.A (assignInOrder ((assignEach ts X.env).map (·.2)) us) (fun _ s' => ∃ σ' H', Inv X pins σ' H' s' ∧ Q σ' H') X.xe s
/-- o[i] = v, by values -/
abbrev TSet := V → V → V → Hp → (Hp → Prop) → Prop
def PSet (X : Cx) (t : TSet) : Prop :=
  ∀ (pins : List (Addr × Obj)) (s : Shared) (σ : St) (H : Hp) (o i v : V) (ov iv u : Value) (Q : Hp → Prop), Inv X pins σ H s → RelV o ov → RelV i iv → RelV v u → t o i v H Q →
    wpAny (model X.prog X.w) X.A (setItem ov iv u) (fun _ s' => ∃ H', Inv X pins σ H' s' ∧ Q H') X.xe s
section
variable {X : Cx} {pos : Pos}
def gName (i : Nat) : TG := fun v σ H Q => Q (σ.set i (some v)) H
theorem pg_name {i : Nat} {x : Str} (hN : X.N.Nodup) (hi : X.N[i]? = some x) (hx : Loc X.env.scope x) (hf : X.fn x = true ∨ X.env.scope.names.lookup x = some .local := by first | exact .inl rfl | exact .inr rfl | assumption) : PG X (.Name x pos) (gName i) := by
  intro pins s σ H v u Q I r h
  exact wpAny_assign_Name (store_ok I hN hi hx r (fun s' I' => ⟨_, H, I', h⟩) hf)
def gNil : TGs := fun vs σ H Q => vs = [] ∧ Q σ H
def gCons (t : TG) (u : TGs) : TGs := fun vs σ H Q => ∃ v r, vs = v :: r ∧ t v σ H fun σ' H' => u r σ' H' Q
theorem pgs_nil : PGs X [] gNil := by
  intro pins s σ H vs us Q I r h
  obtain ⟨e, h⟩ := h
  subst e
  cases r
  exact assignInOrder_nil ⟨σ, H, I, h⟩
theorem pgs_cons {e : Expr} {es : List Expr} {t : TG} {u : TGs} (h1 : PG X e t) (h2 : PGs X es u)
    (hs : (assignEach (e :: es) X.env).map (·.2) = assign e X.env :: (assignEach es X.env).map (·.2) := by rfl) : PGs X (e :: es) (gCons t u) := by
  intro pins s σ H vs us Q I r h
  obtain ⟨v, vr, e1, h⟩ := h
  subst e1
  cases r with
  | cons r rr =>
    rw [hs]
    refine assignInOrder_cons (thn (h1 pins s σ H _ _ _ I r h) fun _ s1 ⟨σ1, H1, I1, q1⟩ => ?_)
    exact h2 pins s1 σ1 H1 _ _ Q I1 rr q1
/-- (a, b, ..) = a tuple of that length -/
def gTup (K : PySem.W.Frag) (n : Nat) (t : TGs) : TG := fun v σ H Q => ∃ a xs, v = .ref a ∧ SqT K H a xs ∧ xs.length = n ∧ t xs σ H Q
theorem pg_tup {es : List Expr} {k : Nat} {t : TGs} {n : Nat} (hc : X.calm = true) (h : PGs X es t)
    (hn : (assignEach es X.env).length = n := by rfl) (hst : (assignEach es X.env).findIdx? (·.1) = none := by rfl) : PG X (.Tuple es k pos) (gTup X.K n t) := by
  intro pins s σ H v u Q I r hw
  obtain ⟨a, xs, e1, hq, hl, hw⟩ := hw
  subst e1
  cases r
  obtain ⟨its, rv, ht, hz⟩ := I.tuple hq
  refine assign_Tuple_tuple (I.ok.hd hc) ht (by simp [hn, ← hl, rv.length]) hst fun h' hx => ?_
  have I1 : Inv X pins σ H { s with heap := h' } := I.kept (t' := s.toks) fun b o e => hx b o (Nat.ne_of_lt (Heap.lt_size e)) e
  exact h pins _ σ H xs _ Q I1 (by simpa using rv) hw
/-- o[i] = .. -/
def gSub (to ti : TE) (t : TSet) : TG := fun v σ H Q => to σ H fun o H1 => ti σ H1 fun i H2 => t o i v H2 fun H3 => Q σ H3
theorem pg_sub {o i : Expr} {to ti : TE} {t : TSet} (ho : PE X o to) (hi : PE X i ti) (hs : PSet X t)
    (ha : ∀ v, assign (.Subscript o i pos) X.env v = (do
      let ov ← holding [v] (eval o X.env)
      let iv ← holding [v, ov] (eval i X.env)
      standAt pos
      holding [v, ov, iv] (setItem ov iv v)
      release [v, ov, iv] []) := by intro _; rfl) : PG X (.Subscript o i pos) (gSub to ti t) := by
  intro pins s σ H v u Q I r h
  rw [ha]
  refine wpAny_bind (wpAny_holding (thn (ho pins s σ H _ I h) fun ov s1 ⟨x, H1, I1, r1, q1⟩ => ?_))
  refine wpAny_bind (wpAny_holding (thn (hi pins s1 σ H1 _ I1 q1) fun iv s2 ⟨y, H2, I2, r2, q2⟩ => ?_))
  refine wpAny_bind (wpAny_standAt (wpAny_bind (wpAny_holding (thn (hs pins s2 σ H2 x y v ov iv u _ I2 r1 r2 r q2) fun _ s3 ⟨H3, I3, q3⟩ => ?_))))
  exact wpAny_release ⟨σ, H3, I3, q3⟩
/-- target = value -/
def tAsg (te : TE) (g : TG) : TS := fun D σ H => te σ H fun x H1 => g x σ H1 D.nx
theorem ps_asg {tg e : Expr} {te : TE} {g : TG} (he : PE X e te) (hg : PG X tg g) (hs : swapsWithSole [tg] e pos.line X.env = pure false := by rfl) (hw : swappedStores [tg] e X.env = pure none := by rfl)
    (h1 : (assignEach [tg] X.env).map (·.2) = [assign tg X.env] := by rfl) : PS X (.Assign [tg] e pos) (tAsg te g) := by
  intro pins s σ H D I h
  refine wpAny_Assign_stores (thn (he pins s σ H _ I h) fun v s1 ⟨x, H1, I1, r1, q1⟩ => ?_) hs hw
  rw [h1]
  exact thn (hg pins s1 σ H1 x v _ I1 r1 q1) fun _ s2 q => q
/-- name = value -/
theorem ps_set {i : Nat} {x : Str} {e : Expr} {te : TE} {pos' : Pos} (hN : X.N.Nodup) (hi : X.N[i]? = some x) (hx : Loc X.env.scope x) (he : PE X e te) (hs : swapsWith e (some (.Name x pos')) pos.line X.env = pure false := by rfl) (hf : X.fn x = true ∨ X.env.scope.names.lookup x = some .local := by first | exact .inl rfl | exact .inr rfl | assumption) :
    PS X (.Assign [.Name x pos'] e pos) (tAsg te (gName i)) := by
  intro pins s σ H D I h
  refine wpAny_Assign_Name (thn (he pins s σ H _ I h) fun v s1 ⟨y, H1, I1, r1, q1⟩ => ?_) hs
  exact store_ok I1 hN hi hx r1 (fun s2 I2 => ⟨_, H1, I2, q1⟩) hf
end

/-! ### while -/
section
variable {X : Cx} {pos : Pos}
/-- the invariant W with its measure -/
def tWhile (c : TT) (tb : TS) : TS := fun D σ H => ∃ W : Nat → St → Hp → Prop, (∃ m, W m σ H) ∧ ∀ m σ H, W m σ H →
  c σ H fun b H1 => if b = true then ∃ N : St → Hp → Prop, (∀ σ' H', N σ' H' → ∃ m', m' < m ∧ W m' σ' H') ∧ tb { D with nx := N, ct := N, bk := D.nx } σ H1 else D.nx σ H1
theorem ps_while {c : Expr} {body : List Stmt} {tc : TT} {tb : TS} (hp : PassesOwn (model X.prog X.w) X.A X.env X.xe) (hc : PT X c tc) (hb : PSs X body tb) : PS X (.While c body [] pos) (tWhile tc tb) := by
  intro pins s σ H D I h
  obtain ⟨W, ⟨m0, w0⟩, turn⟩ := h
  refine wpAny_While (codeAny_whileLoop (fun n s' => ∃ σ' H', Inv X pins σ' H' s' ∧ W n σ' H') ?_ m0 ⟨σ, H, I, w0⟩)
  rintro n s1 ⟨σ1, H1, I1, w1⟩
  refine wpAny_passesOwn hp (thn (hc pins s1 σ1 H1 _ I1 (turn n σ1 H1 w1)) fun b s2 ⟨H2, I2, q2⟩ => ?_)
  cases b with
  | true =>
    obtain ⟨N, hN, q2⟩ := q2
    rw [if_pos rfl]
    refine wpAny_passesOwn hp (thn (hb pins s2 σ1 H2 _ I2 q2) fun f s3 q3 => ?_)
    cases f with
    | next =>
      obtain ⟨σ3, H3, I3, n3⟩ := q3
      obtain ⟨m', hm, w3⟩ := hN σ3 H3 n3
      exact ⟨m', hm, σ3, H3, I3, w3⟩
    | cont =>
      obtain ⟨σ3, H3, I3, n3⟩ := q3
      obtain ⟨m', hm, w3⟩ := hN σ3 H3 n3
      exact ⟨m', hm, σ3, H3, I3, w3⟩
    | brk => exact q3
    | ret v => exact q3
  | false =>
    rw [if_neg Bool.false_ne_true]
    exact wpAny_execs_nil ⟨σ1, H2, I2, q2⟩
end

/-! ### what a loop or a comprehension walks -/
/-- at turn i: it yields x (the heap may grow), or it stops -/
structure It where
  go : Nat → Hp → Prop
  yld : Nat → Hp → V → Hp → Prop
  stop : Nat → Hp → Prop
/-- the iterator's own objects may turn: they are not the frame's, not pinned, younger than the entry (or a comprehension's own) -/
def FpOk (X : Cx) (pins : List (Addr × Obj)) (H : Hp) (b : Addr) : Prop :=
  H b = none ∧ b ≠ X.env.locals ∧ b ∉ X.fs ∧ (b ∈ X.ex ∨ X.s₀.heap.objs.size ≤ b) ∧ (∀ x c, X.env.cells.lookup x = some c → c ≠ b) ∧ ∀ p ∈ X.pn ++ pins, p.1 ≠ b
theorem Inv.fpOk {X : Cx} {pins : List (Addr × Obj)} {σ : St} {H H' : Hp} {s : Shared} {b : Addr} (I : Inv X pins σ H s) (hb : s.heap.objs.size ≤ b) (hn : H' b = none) : FpOk X pins H' b := by
  refine ⟨hn, Nat.ne_of_gt (Nat.lt_of_lt_of_le I.lt hb), I.nofs hb, .inr (Nat.le_trans I.sz hb), fun x c e z => ?_, fun p hp z => ?_⟩
  · obtain ⟨v, q⟩ := I.cell x c e
    exact absurd (Nat.lt_of_lt_of_le q.lt (by rw [z]; exact hb)) (Nat.lt_irrefl _)
  · exact absurd (Nat.lt_of_lt_of_le (Heap.lt_size (I.pin p hp).1) (by rw [z]; exact hb)) (Nat.lt_irrefl _)
structure Turn (P : Program) (w : World) (K : PySem.W.Frag) (tg : Expr) (J : It) (fp : List Addr) (it : Addr) (tn : Nat → Heap → Prop) : Prop where
  mem : it ∈ fp
  obj : ∀ i h, tn i h → ∀ b ∈ fp, ∃ o, h.get? b = some o ∧ ∀ v, o.data ≠ .cell v
  keep : ∀ i h h', tn i h → (∀ b ∈ fp, ∀ o, h.get? b = some o → h'.get? b = some o) → tn i h'
  item : ∀ (X : Cx), X.prog = P → X.w = w → X.K = K → X.calm = true → ∀ (i : Nat) (pins : List (Addr × Obj)) (s : Shared) (σ : St) (H : Hp) (E : Value → Shared → Prop), Inv X pins σ H s → (∀ b ∈ fp, FpOk X pins H b) → tn i s.heap → J.go i H →
    wpAny (model P w) X.A (pyNext (.ref it)) (fun r s1 => ∃ u, r = some u ∧
      wpAny (model P w) X.A (letOwnedTupleGo tg (.ref it) u) (fun _ s2 => ∃ x H', Inv X pins σ H' s2 ∧ RelV x u ∧ J.yld i H x H' ∧ tn (i + 1) s2.heap ∧ ∀ b ∈ fp, H' b = none) E s1) E s
  done : ∀ (X : Cx), X.prog = P → X.w = w → X.K = K → X.calm = true → ∀ (i : Nat) (pins : List (Addr × Obj)) (s : Shared) (σ : St) (H : Hp) (E : Value → Shared → Prop), Inv X pins σ H s → (∀ b ∈ fp, FpOk X pins H b) → tn i s.heap → J.stop i H →
    wpAny (model P w) X.A (pyNext (.ref it)) (fun r s1 => r = none ∧ Inv X pins σ H s1) E s
  self : ∀ (A : Around) (i : Nat) (s : Shared) (Q : Value → Shared → Prop) (E : Value → Shared → Prop), tn i s.heap → Q (.ref it) s → wpAny (model P w) A (pyIter (.ref it)) Q E s
abbrev TI := St → Hp → (It → Hp → Prop) → Prop
/-- an iterator has come -/
def PIE (X : Cx) (pins : List (Addr × Obj)) (σ : St) (tg : Expr) (R : It → Hp → Prop) (itv : Value) (s2 : Shared) : Prop :=
  ∃ (it : Addr) (fp : List Addr) (tn : Nat → Heap → Prop) (J : It) (H' : Hp), itv = .ref it ∧ Inv X pins σ H' s2 ∧ Turn X.prog X.w X.K tg J fp it tn ∧ tn 0 s2.heap ∧ (∀ b ∈ fp, FpOk X pins H' b) ∧ R J H'
def PI (X : Cx) (tg iter : Expr) (wi : TI) : Prop :=
  ∀ (pins : List (Addr × Obj)) (s : Shared) (σ : St) (H : Hp) (R : It → Hp → Prop), Inv X pins σ H s → wi σ H R →
    wpAny (model X.prog X.w) X.A (eval iter X.env) (fun v s1 => wpAny (model X.prog X.w) X.A (pyIter v) (PIE X pins σ tg R) X.xe s1) X.xe s

/-- the step ahead of the store is nothing for an iterator that keeps no tuple -/
theorem go_of {M : Model} {A : Around} {E : Value → Shared → Prop} {s : Shared} {tg : Expr} {it : Addr} {u : Value} {o : Obj} {n : String} {vs : Array Value} {Q : Unit → Shared → Prop} (ho : s.heap.get? it = some o) (hc : o.cls = .type n) (hd : o.data = .fields vs)
    (hn : ["enumerate", "zip", "dict_itemiterator", "dict_reverseitemiterator", "odict_iterator", "itertools.zip_longest", "itertools.pairwise"].contains n = false) (hQ : Q () s) : wpAny M A (letOwnedTupleGo tg (.ref it) u) Q E s := by
  unfold letOwnedTupleGo
  cases tg <;> first
    | exact wpAny_pure hQ
    | (cases u <;> first
        | exact wpAny_pure hQ
        | (refine wpAny_bind (wpAny_load ho ?_)
           rw [hc, hd]
           show wpAny M A (if (["enumerate", "zip", "dict_itemiterator", "dict_reverseitemiterator", "odict_iterator", "itertools.zip_longest", "itertools.pairwise"].contains n && vs[0]? == some (rawInt _)) = true then _ else _) Q E s
           rw [if_neg (by intro h; rw [hn, Bool.false_and] at h; cases h)]
           exact wpAny_pure hQ))

/-- the list at a, as it stands at each turn (a loop may append to it) -/
def Itl (K : PySem.W.Frag) (a : Addr) : It :=
  ⟨fun i H => ∃ xs x, SqL K H a xs ∧ xs[i]? = some x, fun i H x H' => H' = H ∧ ∀ xs, SqL K H a xs → xs[i]? = some x, fun i H => ∃ xs, SqL K H a xs ∧ xs.length ≤ i⟩
/-- lo, lo + 1, .. (n of them) -/
def Itr (lo : Int) (n : Nat) : It := ⟨fun i _ => i < n, fun i H x H' => H' = H ∧ x = .int (lo + i), fun i _ => n ≤ i⟩
theorem turn_list {P : Program} {w : World} {K : PySem.W.Frag} {tg : Expr} (a it : Addr) : Turn P w K tg (Itl K a) [it] it (fun i h => h.IsListIter it a i) where
  mem := by simp
  obj := fun i h st b hb => by
    have e : b = it := by simpa using hb
    subst e
    obtain ⟨o, e, c, d⟩ := st
    exact ⟨o, e, fun v z => by rw [d] at z; cases z⟩
  keep := fun i h h' st k => st.at fun o e => k it (by simp) o e
  item := by
    intro X hP hw hK hc i pins s σ H E I hf st hg
    subst hP hw hK
    obtain ⟨xs, x, hq, hx⟩ := hg
    obtain ⟨its, rv, p, hz⟩ := I.list hq
    obtain ⟨u, hu, ru⟩ := rv.get hx
    obtain ⟨f0, f1, f2, f3, f4, f5⟩ := hf it (by simp)
    refine wpAny_pyNext_list_item st p.isList (x := u) (by simpa using hu) fun h' st' sb => ?_
    have I1 : Inv X pins σ H { s with heap := h' } := I.turned (t' := s.toks) (fun b o hb e => (sb.2 b hb).trans e) f0 f1 f3 f4 f5
    obtain ⟨o, e, c, d⟩ := id st'
    exact ⟨u, rfl, go_of (s := { s with heap := h' }) e c d (by decide) ⟨x, H, I1, ru, ⟨rfl, fun ys hy => by rw [I.list_inj hy hq]; exact hx⟩, st', fun b hb => (hf b hb).1⟩⟩
  done := by
    intro X hP hw hK hc i pins s σ H E I hf st hg
    subst hP hw hK
    obtain ⟨xs, hq, hx⟩ := hg
    obtain ⟨its, rv, p, hz⟩ := I.list hq
    obtain ⟨f0, f1, f2, f3, f4, f5⟩ := hf it (by simp)
    have hl := rv.length
    exact wpAny_pyNext_list_end (I.ok.hd hc) st p.isList (by simp; omega) fun h' eb => ⟨rfl, I.turned (t' := s.toks) (fun b o hb e => eb b o hb e) f0 f1 f3 f4 f5⟩
  self := fun _ _ _ _ _ st h => wpAny_pyIter_listiter st h
theorem turn_range {P : Program} {w : World} {K : PySem.W.Frag} {tg : Expr} (it : Addr) (lo : Int) (n : Nat) : Turn P w K tg (Itr lo n) [it] it (fun i h => IsRangeIter h it (lo + (i : Nat) * 1) ((n : Int) - (i : Nat)) 1) where
  mem := by simp
  obj := fun i h st b hb => by
    have e : b = it := by simpa using hb
    subst e
    exact ⟨_, st, fun v z => by
      have z' : Data.fields _ = Data.cell v := z
      cases z'⟩
  keep := fun i h h' st k => k it (by simp) _ st
  item := by
    intro X hP hw hK hc i pins s σ H E I hf st hg
    subst hP hw hK
    obtain ⟨f0, f1, f2, f3, f4, f5⟩ := hf it (by simp)
    have W := Walks.range (prog := X.prog) (w := X.w) (I.ok.hd hc) it lo 1 n
    refine W.item i s _ _ hg st fun v h' tk hv st' kk => ?_
    obtain ⟨t, rfl⟩ := hv
    have I1 : Inv X pins σ H { s with heap := h', toks := tk } := I.turned (fun b o hb e => kk b o (by simpa using hb) e) f0 f1 f3 f4 f5
    refine ⟨_, rfl, go_of (s := { s with heap := h', toks := tk }) (n := "range_iterator") st' rfl rfl (by decide) ⟨.int (lo + i), H, I1, ⟨t, ?_⟩, ⟨rfl, rfl⟩, st', fun b hb => (hf b hb).1⟩⟩
    rw [Int.mul_one]
  done := by
    intro X hP hw hK hc i pins s σ H E I hf st hg
    subst hP hw hK
    obtain ⟨f0, f1, f2, f3, f4, f5⟩ := hf it (by simp)
    exact wpAny_pyNext_range_end (I.ok.hd hc) st (by have : n ≤ i := hg; omega) fun h' eb => ⟨rfl, I.turned (t' := s.toks) (fun b o hb e => eb b o hb e) f0 f1 f3 f4 f5⟩
  self := fun _ _ _ _ _ st h => wpAny_pyIter_rangeiter st h
end L2

namespace L2
open PySem PySem.Spec PyProof.Rows
section
variable {X : Cx} {tg : Expr}
def iList (K : PySem.W.Frag) (tl : TE) : TI := fun σ H R => tl σ H fun x H1 => ∃ a, x = .ref a ∧ (∃ xs, SqL K H1 a xs) ∧ R (Itl K a) H1
theorem pi_list {l : Expr} {tl : TE} (hl : PE X l tl) : PI X tg l (iList X.K tl) := by
  intro pins s σ H R I h
  refine thn (hl pins s σ H _ I h) fun v s1 ⟨x, H1, I1, r1, q1⟩ => ?_
  obtain ⟨a, e, ⟨xs, hq⟩, q⟩ := q1
  subst e
  cases r1
  obtain ⟨its, rv, p, hz⟩ := I1.list hq
  refine wpAny_pyIter_list p.isList ?_
  refine ⟨s1.heap.objs.size, [s1.heap.objs.size], _, _, H1, rfl, I1.kept (t' := s1.toks) fun b o e => Heap.get?_push_of_some _ e, turn_list a _, ⟨_, Heap.get?_push_size _ rfl, rfl, rfl⟩, fun b hb => ?_, q⟩
  have e : b = s1.heap.objs.size := by simpa using hb
  subst e
  exact I1.fpOk (Nat.le_refl _) (I1.hok.fresh (Nat.le_refl _))
/-- a range object just made, walked -/
theorem range_it {pins : List (Addr × Obj)} {σ : St} {H : Hp} {s : Shared} {R : It → Hp → Prop} {E : Value → Shared → Prop} {lo hi : Int} {t u v : Tok} {tk : Nat} (I : Inv X pins σ H s) (h1 : -(2 ^ 62) ≤ lo) (h2 : lo < 2 ^ 62) (h3 : -(2 ^ 62) ≤ hi) (h4 : hi < 2 ^ 62)
    (q : R (Itr lo (hi - lo).toNat) H) : wpAny (model X.prog X.w) X.A (pyIter (.ref s.heap.objs.size)) (PIE X pins σ tg R) E { s with heap := s.heap.push { cls := .type "range", data := .fields #[.int lo t, .int hi u, .int 1 v] }, toks := tk } := by
  refine wpAny_pyIter_range (IsRange.new ..) (small_one h1 h2 h3 h4) ?_
  have I1 : Inv X pins σ H { s with heap := s.heap.push { cls := .type "range", data := .fields #[.int lo t, .int hi u, .int 1 v] }, toks := tk } := I.kept fun b o e => Heap.get?_push_of_some _ e
  refine ⟨(s.heap.push { cls := .type "range", data := .fields #[.int lo t, .int hi u, .int 1 v] }).objs.size, [(s.heap.push { cls := .type "range", data := .fields #[.int lo t, .int hi u, .int 1 v] }).objs.size], _, _, H, rfl,
    I1.kept (t' := tk) fun b o e => Heap.get?_push_of_some _ e, turn_range _ lo (hi - lo).toNat, ?_, fun b hb => ?_, q⟩
  · have e1 : lo + ((0 : Nat) : Int) * 1 = lo := by simp
    have e2 : (((hi - lo).toNat : Nat) : Int) - ((0 : Nat) : Int) = Builtin.Range.rangeSize lo hi 1 := by rw [rangeSize_one]; split <;> omega
    show IsRangeIter _ _ (lo + ((0 : Nat) : Int) * 1) ((((hi - lo).toNat : Nat) : Int) - ((0 : Nat) : Int)) 1
    rw [e1, e2]
    exact Heap.get?_push_size _ rfl
  · have e : b = (s.heap.push { cls := .type "range", data := .fields #[.int lo t, .int hi u, .int 1 v] }).objs.size := by simpa using hb
    subst e
    exact I1.fpOk (Nat.le_refl _) (I1.hok.fresh (Nat.le_refl _))
def iRng1 (ta : TA) : TI := fun σ H R => ta σ H fun vs H1 => ∃ j : Int, vs = [.int j] ∧ -(2 ^ 62) ≤ j ∧ j < 2 ^ 62 ∧ R (Itr 0 j.toNat) H1
def iRng2 (ta : TA) : TI := fun σ H R => ta σ H fun vs H1 => ∃ i j : Int, vs = [.int i, .int j] ∧ (-(2 ^ 62) ≤ i ∧ i < 2 ^ 62 ∧ -(2 ^ 62) ≤ j ∧ j < 2 ^ 62) ∧ R (Itr i (j - i).toNat) H1
theorem pi_range1 {a : Expr} {ta : TA} {p pos : Pos} (hg : Gl X "range") (hm : X.mg "range" = none) (ha : PA X [a] ta) (hs : starEach [a] X.env = [(false, eval a X.env)] := by rfl) : PI X tg (.Call (.Name "range" p) [a] [] pos) (iRng1 ta) := by
  intro pins s σ H R I h
  refine Call_ (ld_blt I hg hm boot_range (PyProof.Rows.callWith_type1 (thn (ha pos pins s σ H _ I h) fun us s1 ⟨vs, H1, I1, r1, q1⟩ => ?_) hs rfl))
  obtain ⟨j, e, q1, q2, q⟩ := q1
  subst e
  cases r1 with
  | cons r rr =>
    cases rr
    obtain ⟨t, rfl⟩ := r
    exact call_range_1 (range_it I1 (by omega) (by omega) q1 q2 (by simpa using q))
theorem pi_range2 {a b : Expr} {ta : TA} {p pos : Pos} (hg : Gl X "range") (hm : X.mg "range" = none) (ha : PA X [a, b] ta) (hs : starEach [a, b] X.env = [(false, eval a X.env), (false, eval b X.env)] := by rfl) (hs2 : starEach [b] X.env = [(false, eval b X.env)] := by rfl) :
    PI X tg (.Call (.Name "range" p) [a, b] [] pos) (iRng2 ta) := by
  intro pins s σ H R I h
  refine Call_ (ld_blt I hg hm boot_range (PyProof.Rows.callWith_type1 (thn (ha pos pins s σ H _ I h) fun us s1 ⟨vs, H1, I1, r1, q1⟩ => ?_) (by rw [hs, hs2]) (by rw [hs2]; rfl)))
  obtain ⟨i, j, e, ⟨q1, q2, q3, q4⟩, q⟩ := q1
  subst e
  cases r1 with
  | cons r rr =>
    cases rr with
    | cons r' rr =>
      cases rr
      obtain ⟨t, rfl⟩ := r
      obtain ⟨t', rfl⟩ := r'
      exact call_range_2 (range_it I1 q1 q2 q3 q4 q)

/-! ### for -/
/-- W: the invariant by the turn and a measure; N: what the body is to reach -/
def tFor (wi : TI) (g : TG) (tb : TS) : TS := fun D σ H => wi σ H fun J H1 => ∃ W : Nat → Nat → St → Hp → Prop, (∃ m, W 0 m σ H1) ∧ ∀ i m σ H, W i m σ H →
  (J.stop i H ∧ D.nx σ H) ∨ (J.go i H ∧ ∃ N : St → Hp → Prop, (∀ σ' H', N σ' H' → ∃ m', m' < m ∧ W (i + 1) m' σ' H') ∧ ∀ x H', J.yld i H x H' → g x σ H' fun σ2 H2 => tb { D with nx := N, ct := N, bk := D.nx } σ2 H2)
/-- the records at fp as they stand -/
def pinsAt (fp : List Addr) (h : Heap) : List (Addr × Obj) := fp.filterMap fun b => (h.get? b).map fun o => (b, o)
theorem mem_pinsAt {fp : List Addr} {h : Heap} {b : Addr} {o : Obj} (hb : b ∈ fp) (e : h.get? b = some o) : (b, o) ∈ pinsAt fp h := List.mem_filterMap.mpr ⟨b, hb, by rw [e]; rfl⟩
theorem of_pinsAt {fp : List Addr} {h : Heap} {p : Addr × Obj} (hp : p ∈ pinsAt fp h) : p.1 ∈ fp ∧ h.get? p.1 = some p.2 := by
  obtain ⟨b, hb, e⟩ := List.mem_filterMap.mp hp
  cases q : h.get? b with
  | none => rw [q] at e; cases e
  | some o =>
    rw [q] at e
    have e' : (b, o) = p := Option.some.inj e
    subst e'
    exact ⟨hb, q⟩
theorem Inv.pinned {pins : List (Addr × Obj)} {σ : St} {H : Hp} {s : Shared} {fp : List Addr} (I : Inv X pins σ H s) (hf : ∀ b ∈ fp, FpOk X pins H b) (ho : ∀ b ∈ fp, ∃ o, s.heap.get? b = some o ∧ ∀ v, o.data ≠ .cell v) : Inv X (pins ++ pinsAt fp s.heap) σ H s :=
  I.pins_of fun p hp => (List.mem_append.mp hp).elim (fun z => I.pin p (List.mem_append_right _ z)) fun z => by
    obtain ⟨hb, e⟩ := of_pinsAt z
    obtain ⟨f0, f1, f2, _⟩ := hf p.1 hb
    obtain ⟨o, e', d⟩ := ho p.1 hb
    rw [e] at e'; cases e'
    exact ⟨e, f0, f1, f2, d⟩
theorem Inv.unpinned {pins pl : List (Addr × Obj)} {σ : St} {H : Hp} {s : Shared} (I : Inv X (pins ++ pl) σ H s) : Inv X pins σ H s := I.pins_of fun p hp => I.pin p (List.mem_append_right _ (List.mem_append_left _ hp))
theorem ps_for {iter : Expr} {body : List Stmt} {wi : TI} {g : TG} {tb : TS} {pos : Pos} (hp : PassesOwn (model X.prog X.w) X.A X.env X.xe) (hc : X.calm = true) (hi : PI X tg iter wi) (hg : PG X tg g) (hb : PSs X body tb)
    (hs : ∀ x, foldedSetIterable iter X.env x = pure x := by intro _; rfl) : PS X (.For tg iter body [] pos) (tFor wi g tb) := by
  intro pins s σ H D I h
  refine wpAny_For (thn (hi pins s σ H _ I h) fun v s1 h1 => thn h1 fun itv s2 h2 => ?_) hs
  obtain ⟨it, fp, tn, J, H2, e, I2, T, st2, f2, W, ⟨m0, w0⟩, turn⟩ := h2
  subst e
  -- what stays true of the iterator's objects through the loop
  have stat : ∀ {H' : Hp}, (∀ b ∈ fp, H' b = none) → ∀ b ∈ fp, FpOk X pins H' b := fun hn b hb => ⟨hn b hb, (f2 b hb).2⟩
  refine codeAny_forLoop_any (fun n s' => ∃ i σ' H', Inv X pins σ' H' s' ∧ tn i s'.heap ∧ (∀ b ∈ fp, H' b = none) ∧ W i n σ' H') ?_ m0 ⟨0, σ, H2, I2, st2, fun b hb => (f2 b hb).1, w0⟩
  rintro n s3 ⟨i, σ3, H3, I3, st3, fr3, w3⟩
  rcases turn i n σ3 H3 w3 with ⟨stop, qn⟩ | ⟨go, N, hN, step⟩
  · refine wpAny_passesOwn hp (thn (T.done X rfl rfl rfl hc i pins s3 σ3 H3 X.xe I3 (stat fr3) st3 stop) fun r s4 ⟨hr, I4⟩ => ?_)
    subst hr
    exact wpAny_execs_nil ⟨σ3, H3, I4, qn⟩
  · refine wpAny_passesOwn hp (thn (T.item X rfl rfl rfl hc i pins s3 σ3 H3 X.xe I3 (stat fr3) st3 go) fun r s4 ⟨u, hr, h4⟩ => ?_)
    subst hr
    refine wpAny_passesOwn hp (thn h4 fun _ s5 ⟨x, H5, I5, r5, y5, st5, fr5⟩ => ?_)
    have I5' := I5.pinned (stat fr5) (T.obj _ _ st5)
    refine wpAny_passesOwn hp (thn (hg _ s5 σ3 H5 x u _ I5' r5 (step x H5 y5)) fun _ s6 ⟨σ6, H6, I6, q6⟩ => ?_)
    refine wpAny_passesOwn hp (thn (hb _ s6 σ6 H6 _ I6 q6) fun f s7 q7 => ?_)
    have again : ∀ {σ7 : St} {H7 : Hp}, Inv X (pins ++ pinsAt fp s5.heap) σ7 H7 s7 → N σ7 H7 → ∃ m, m < n ∧ ∃ i σ' H', Inv X pins σ' H' s7 ∧ tn i s7.heap ∧ (∀ b ∈ fp, H' b = none) ∧ W i m σ' H' := fun {σ7 H7} I7 n7 => by
      obtain ⟨m', hm, w7⟩ := hN σ7 H7 n7
      refine ⟨m', hm, i + 1, σ7, H7, I7.unpinned, T.keep _ _ _ st5 fun b hb o e => (I7.pin (b, o) (List.mem_append_right _ (List.mem_append_right _ (mem_pinsAt hb e)))).1, fun b hb => ?_, w7⟩
      obtain ⟨o, e, d⟩ := T.obj _ _ st5 b hb
      exact (I7.pin (b, o) (List.mem_append_right _ (List.mem_append_right _ (mem_pinsAt hb e)))).2.1
    cases f with
    | next => obtain ⟨σ7, H7, I7, n7⟩ := q7; exact again I7 n7
    | cont => obtain ⟨σ7, H7, I7, n7⟩ := q7; exact again I7 n7
    | brk => obtain ⟨σ7, H7, I7, q7⟩ := q7; exact ⟨σ7, H7, I7.unpinned, q7⟩
    | ret v => obtain ⟨x7, σ7, H7, I7, r7, q7⟩ := q7; exact ⟨x7, σ7, H7, I7.unpinned, r7, q7⟩
end

/-! ### the forms one uses -/
end L2

namespace L2
open PySem PySem.Spec PyProof.Rows

abbrev R2 := V → V → Hp → VK → Prop
/-- a two-place operation on values: f is binaryOp op, inplaceOp op or compareOp op -/
def OpR (X : Cx) (f : Value → Value → Sem Value) (r : R2) : Prop :=
  ∀ (pins : List (Addr × Obj)) (s : Shared) (σ : St) (H : Hp) (x y : V) (v u : Value) (Q : VK), Inv X pins σ H s → RelV x v → RelV y u → r x y H Q →
    wpAny (model X.prog X.w) X.A (f v u) (EP X pins σ Q) X.xe s
/-- a one-place operation -/
def UnR (X : Cx) (f : Value → Sem Value) (r : V → Hp → VK → Prop) : Prop :=
  ∀ (pins : List (Addr × Obj)) (s : Shared) (σ : St) (H : Hp) (x : V) (v : Value) (Q : VK), Inv X pins σ H s → RelV x v → r x H Q →
    wpAny (model X.prog X.w) X.A (f v) (EP X pins σ Q) X.xe s
/-- a call of a value that is known (a builtin, a type) with values -/
def CallR (X : Cx) (f : Value) (r : List V → Hp → VK → Prop) : Prop :=
  ∀ (pins : List (Addr × Obj)) (s : Shared) (σ : St) (H : Hp) (xs : List V) (us : List Value) (Q : VK), Inv X pins σ H s → Vals xs us → r xs H Q →
    wpAny (model X.prog X.w) X.A (call f us) (EP X pins σ Q) X.xe s
/-- a value's truth -/
def TruR (X : Cx) (r : V → Hp → (Bool → Hp → Prop) → Prop) : Prop :=
  ∀ (pins : List (Addr × Obj)) (s : Shared) (σ : St) (H : Hp) (x : V) (v : Value) (Q : Bool → Hp → Prop), Inv X pins σ H s → RelV x v → r x H Q →
    wpAny (model X.prog X.w) X.A (truthy v) (TP X pins σ Q) X.xe s

def tOp (r : R2) (ta tb : TE) : TE := fun σ H Q => ta σ H fun x H1 => tb σ H1 fun y H2 => r x y H2 Q
def tUn (r : V → Hp → VK → Prop) (ta : TE) : TE := fun σ H Q => ta σ H fun x H1 => r x H1 Q
/-- ints in, under C, and a value out -/
def rI (C : Int → Int → Prop) (g : Int → Int → V) : R2 := fun x y H Q => ∃ i j, x = .int i ∧ y = .int j ∧ C i j ∧ Q (g i j) H
def rI0 (g : Int → Int → V) : R2 := fun x y H Q => ∃ i j, x = .int i ∧ y = .int j ∧ Q (g i j) H
def rU (g : Int → V) : V → Hp → VK → Prop := fun x H Q => ∃ i, x = .int i ∧ Q (g i) H

section
variable {X : Cx} {a b c : Expr} {ta tb tc : TE} {pos : Pos}

theorem binT (ha : PE X a ta) (hb : PE X b tb) {pins : List (Addr × Obj)} {s : Shared} {σ : St} {H : Hp} {R : V → V → Hp → Prop} (I : Inv X pins σ H s)
    (h : ta σ H fun x H1 => tb σ H1 fun y H2 => R x y H2) {Q : Value → Shared → Prop} {f : Value → Value → Sem Value}
    (hf : ∀ v u s2 x y H2, Inv X pins σ H2 s2 → RelV x v → RelV y u → R x y H2 → wpAny (model X.prog X.w) X.A (f v u) Q X.xe s2) :
    wpAny (model X.prog X.w) X.A (eval a X.env) (fun v s₁ => wpAny (model X.prog X.w) X.A (eval b X.env) (fun u s₂ => wpAny (model X.prog X.w) X.A (f v u) Q X.xe s₂) X.xe s₁) X.xe s := by
  refine thn (ha pins s σ H _ I h) fun v s1 ⟨x, H1, I1, r1, q1⟩ => ?_
  refine thn (hb pins s1 σ H1 _ I1 q1) fun u s2 ⟨y, H2, I2, r2, q2⟩ => ?_
  exact hf v u s2 x y H2 I2 r1 r2 q2

theorem pe_op {op : Operator} {r : R2} (ho : OpR X (binaryOp op) r) (ha : PE X a ta) (hb : PE X b tb) : PE X (.BinOp a op b pos) (tOp r ta tb) := by
  intro pins s σ H Q I h
  exact wpAny_BinOp (binT ha hb I h fun v u s2 x y H2 I2 rx ry q => ho pins s2 σ H2 x y v u Q I2 rx ry q)
theorem pe_un {op : UnaryOp} {r : V → Hp → VK → Prop} (ho : UnR X (unaryOp op) r) (ha : PE X a ta) : PE X (.UnaryOp op a pos) (tUn r ta) := by
  intro pins s σ H Q I h
  exact UnaryOp_ (thn (ha pins s σ H _ I h) fun v s1 ⟨x, H1, I1, r1, q1⟩ => ho pins s1 σ H1 x v Q I1 r1 q1)
/-! ### ints -/
theorem opI {f : Value → Value → Sem Value} {C : Int → Int → Prop} {g : Int → Int → Int}
    (rule : ∀ (i j : Int) (t u : Tok) (s : Shared) (Q : Value → Shared → Prop) (E : Value → Shared → Prop), C i j → Q (.int (g i j) s.toks) { s with toks := s.toks + 1 } → wpAny (model X.prog X.w) X.A (f (.int i t) (.int j u)) Q E s) :
    OpR X f (rI C fun i j => .int (g i j)) := by
  intro pins s σ H x y v u Q I rx ry h
  obtain ⟨i, j, rfl, rfl, hc, q⟩ := h
  obtain ⟨t, rfl⟩ := rx
  obtain ⟨t', rfl⟩ := ry
  exact rule i j t t' s _ _ hc ⟨.int (g i j), H, I.tok _, ⟨_, rfl⟩, q⟩
theorem opI0 {f : Value → Value → Sem Value} {g : Int → Int → Int}
    (rule : ∀ (i j : Int) (t u : Tok) (s : Shared) (Q : Value → Shared → Prop) (E : Value → Shared → Prop), Q (.int (g i j) s.toks) { s with toks := s.toks + 1 } → wpAny (model X.prog X.w) X.A (f (.int i t) (.int j u)) Q E s) :
    OpR X f (rI0 fun i j => .int (g i j)) := by
  intro pins s σ H x y v u Q I rx ry h
  obtain ⟨i, j, rfl, rfl, q⟩ := h
  obtain ⟨t, rfl⟩ := rx
  obtain ⟨t', rfl⟩ := ry
  exact rule i j t t' s _ _ ⟨.int (g i j), H, I.tok _, ⟨_, rfl⟩, q⟩
theorem opB0 {f : Value → Value → Sem Value} {g : Int → Int → Bool}
    (rule : ∀ (i j : Int) (t u : Tok) (s : Shared) (Q : Value → Shared → Prop) (E : Value → Shared → Prop), Q (.bool (g i j)) s → wpAny (model X.prog X.w) X.A (f (.int i t) (.int j u)) Q E s) :
    OpR X f (rI0 fun i j => .bl (g i j)) := by
  intro pins s σ H x y v u Q I rx ry h
  obtain ⟨i, j, rfl, rfl, q⟩ := h
  obtain ⟨t, rfl⟩ := rx
  obtain ⟨t', rfl⟩ := ry
  exact rule i j t t' s _ _ ⟨.bl (g i j), H, I, rfl, q⟩

def CDiv (i j : Int) : Prop := 0 < j ∧ j < 1073741824
def CPow (i j : Int) : Prop := 0 ≤ j ∧ j ≤ 1000000 ∧ i.natAbs < 2 ^ 64
def CMul (i j : Int) : Prop := (-(2 ^ 64) < i ∧ i < 2 ^ 64) ∨ (-(2 ^ 64) < j ∧ j < 2 ^ 64)
theorem CMul.ok {i j : Int} (h : CMul i j) : IntMulOk i j := by
  rcases h with ⟨h1, h2⟩ | ⟨h1, h2⟩
  · exact .of_left (intBits_le_64 h1 h2)
  · exact .of_right (intBits_le_64 h1 h2)
theorem op_add : OpR X (binaryOp .Add) (rI0 fun i j => .int (i + j)) := opI0 fun _ _ _ _ _ _ _ q => add_int q
theorem op_sub : OpR X (binaryOp .Sub) (rI0 fun i j => .int (i - j)) := opI0 fun _ _ _ _ _ _ _ q => sub_int q
theorem op_mul : OpR X (binaryOp .Mult) (rI CMul fun i j => .int (i * j)) := opI fun _ _ _ _ _ _ _ hc q => mul_int q hc.ok
/-- // by a positive divisor -/
theorem op_fdiv : OpR X (binaryOp .FloorDiv) (rI CDiv fun i j => .int (i / j)) := opI fun i j _ _ _ _ _ hc q => by
  have h1 : (0 : Int) < j := hc.1
  have h2 : j < 1073741824 := hc.2
  exact floordiv_int (by omega) (by rw [Int.fdiv_eq_ediv_of_nonneg i (by omega)]; exact q) (.inl (PyProof.noPylong_small (by omega)))
/-- % by a positive divisor of any size -/
theorem op_mod : OpR X (binaryOp .Mod) (rI (fun _ j => 0 < j) fun i j => .int (i % j)) := opI fun i j _ _ _ _ _ hc q => by
  have h1 : (0 : Int) < j := hc
  exact mod_int' (by omega) (by rw [Int.fmod_eq_emod_of_nonneg i (by omega)]; exact q)
theorem op_pow : OpR X (binaryOp .Pow) (rI CPow fun i j => .int (i ^ j.toNat)) := opI fun _ _ _ _ _ _ _ hc q => pow_int_small hc.1 hc.2.1 hc.2.2 q
theorem unI {f : Value → Sem Value} {g : Int → Int}
    (rule : ∀ (i : Int) (t : Tok) (s : Shared) (Q : Value → Shared → Prop) (E : Value → Shared → Prop), Q (.int (g i) s.toks) { s with toks := s.toks + 1 } → wpAny (model X.prog X.w) X.A (f (.int i t)) Q E s) :
    UnR X f (rU fun i => .int (g i)) := by
  intro pins s σ H x v Q I rx h
  obtain ⟨i, rfl, q⟩ := h
  obtain ⟨t, rfl⟩ := rx
  exact rule i t s _ _ ⟨.int (g i), H, I.tok _, ⟨_, rfl⟩, q⟩
theorem un_neg : UnR X (unaryOp .USub) (rU fun i => .int (-i)) := unI fun _ _ _ _ _ q => neg_int q
/-! ### bools among ints: n += (a < b) -/
end

/-! ### comparisons -/
section
variable {X : Cx} {a b c : Expr} {ta tb tc : TE} {pos : Pos}
theorem fin_bl {pins : List (Addr × Obj)} {σ : St} {H : Hp} {s : Shared} {Q : VK} {k k' : Bool} (I : Inv X pins σ H s) (q : Q (.bl k) H) (e : k = k') : EP X pins σ Q (.bool k') s := by
  subst e
  exact ⟨.bl k, H, I, rfl, q⟩
theorem op_lt : OpR X (compareOp .Lt) (rI0 fun i j => .bl (decide (i < j))) := opB0 fun _ _ _ _ _ _ _ q => lt_int q
theorem op_le : OpR X (compareOp .LtE) (rI0 fun i j => .bl (decide (i ≤ j))) := opB0 fun _ _ _ _ _ _ _ q => le_int q
theorem op_gt : OpR X (compareOp .Gt) (rI0 fun i j => .bl (decide (j < i))) := opB0 fun _ _ _ _ _ _ _ q => gt_int q
/-- is None, is not None: the right side a value none -/
theorem op_isN : OpR X (compareOp .Is) (fun x y H Q => y = .non ∧ Q (.bl (decide (x = .non))) H) := by
  intro pins s σ H x y v u Q I rx ry h
  obtain ⟨rfl, q⟩ := h
  cases ry
  refine is_none_gen (fin_bl I q ?_)
  cases x <;> first
    | (cases rx; rfl)
    | (obtain ⟨t, rfl⟩ := rx; rfl)
theorem op_notN : OpR X (compareOp .IsNot) (fun x y H Q => y = .non ∧ Q (.bl (!decide (x = .non))) H) := by
  intro pins s σ H x y v u Q I rx ry h
  obtain ⟨rfl, q⟩ := h
  cases ry
  refine isnot_none_gen (fin_bl I q ?_)
  cases x <;> first
    | (cases rx; rfl)
    | (obtain ⟨t, rfl⟩ := rx; rfl)

/-- two rules for one operation: by cases -/
theorem OpR.or {f : Value → Value → Sem Value} {r r' : R2} (h : OpR X f r) (h' : OpR X f r') : OpR X f (fun x y H Q => r x y H Q ∨ r' x y H Q) := by
  intro pins s σ H x y v u Q I rx ry q
  rcases q with q | q
  · exact h pins s σ H x y v u Q I rx ry q
  · exact h' pins s σ H x y v u Q I rx ry q

theorem nomark (b : Expr) {op : CmpOp} (h : op ≠ .In := by decide) (h2 : op ≠ .NotIn := by decide) : behindInMarks op b = false := by
  have e1 : (op == CmpOp.In) = false := by cases op <;> first | rfl | exact absurd rfl h
  have e2 : (op == CmpOp.NotIn) = false := by cases op <;> first | rfl | exact absurd rfl h2
  cases b <;> simp [behindInMarks, e1, e2]
/-- a comparison as a value; hm: nomark b, or (for in, not in) by with_unfolding_all rfl -/
theorem pe_cmpR {op : CmpOp} {r : R2} (ho : OpR X (compareOp op) r) (ha : PE X a ta) (hb : PE X b tb) (hm : behindInMarks op b = false) : PE X (.Compare a [op] [b] pos) (tOp r ta tb) := by
  intro pins s σ H Q I h
  exact wpAny_Compare1 (binT ha hb I h fun v u s2 x y H2 I2 rx ry q => ho pins s2 σ H2 x y v u Q I2 rx ry q) hm
/-- a reading of a value as a test -/
def tTest (t : TE) : TT := fun σ H Q => t σ H fun x H' => ∃ k, x = .bl k ∧ Q k H'
theorem pt_cmpR {op : CmpOp} {r : R2} (ho : OpR X (compareOp op) r) (ha : PE X a ta) (hb : PE X b tb) (hm : behindInMarks op b = false) : PT X (.Compare a [op] [b] pos) (tTest (tOp r ta tb)) := by
  intro pins s σ H Q I h
  refine wpAny_isTrue_Compare1 (thn (ha pins s σ H _ I h) fun v s1 ⟨x, H1, I1, r1, q1⟩ => thn (hb pins s1 σ H1 _ I1 q1) fun u s2 ⟨y, H2, I2, r2, q2⟩ =>
    thn (ho pins s2 σ H2 x y v u _ I2 r1 r2 q2) fun c s3 ⟨z, H3, I3, r3, k, e, q3⟩ => ?_) hm
  subst e
  cases r3
  exact wpAny_truthy_bool ⟨H3, I3, q3⟩
/-- a op1 b op2 c -/
def tChain (r r' : R2) (ta tb tc : TE) : TE := fun σ H Q => ta σ H fun x H1 => tb σ H1 fun y H2 => r x y H2 fun z H3 => ∃ k, z = .bl k ∧
  (if k = true then tc σ H3 fun w' H4 => r' y w' H4 Q else Q (.bl false) H3)
theorem pe_chain {op op' : CmpOp} {r r' : R2} (ho : OpR X (compareOp op) r) (ho' : OpR X (compareOp op') r') (ha : PE X a ta) (hb : PE X b tb) (hc : PE X c tc)
    (hm : lastMarks [op, op'] [b, c] = false := by with_unfolding_all rfl) : PE X (.Compare a [op, op'] [b, c] pos) (tChain r r' ta tb tc) := by
  intro pins s σ H Q I h
  refine Compare_chain (thn (ha pins s σ H _ I h) fun v s1 ⟨x, H1, I1, r1, q1⟩ => chain_link (thn (hb pins s1 σ H1 _ I1 q1) fun u s2 ⟨y, H2, I2, r2, q2⟩ =>
    thn (ho pins s2 σ H2 x y v u _ I2 r1 r2 q2) fun d s3 ⟨z, H3, I3, r3, k, e, q3⟩ => ?_)) hm
  subst e
  cases r3
  refine wpAny_truthy_bool ?_
  cases k with
  | false => exact ite_ff ⟨.bl false, H3, I3, rfl, q3⟩
  | true => exact ite_tt (chain_last (thn (hc pins s3 σ H3 _ I3 q3) fun w' s4 ⟨z', H4, I4, r4, q4⟩ => ho' pins s4 σ H4 y z' u w' Q I4 r2 r4 q4))
theorem pt_chain {op op' : CmpOp} {r r' : R2} (ho : OpR X (compareOp op) r) (ho' : OpR X (compareOp op') r') (ha : PE X a ta) (hb : PE X b tb) (hc : PE X c tc)
    (hm : lastMarks [op, op'] [b, c] = false := by with_unfolding_all rfl) : PT X (.Compare a [op, op'] [b, c] pos) (tTest (tChain r r' ta tb tc)) := by
  intro pins s σ H Q I h
  refine isTrue_chain (thn (ha pins s σ H _ I h) fun v s1 ⟨x, H1, I1, r1, q1⟩ => test_link (thn (hb pins s1 σ H1 _ I1 q1) fun u s2 ⟨y, H2, I2, r2, q2⟩ =>
    thn (ho pins s2 σ H2 x y v u _ I2 r1 r2 q2) fun d s3 ⟨z, H3, I3, r3, k, e, q3⟩ => ?_)) hm
  subst e
  cases r3
  refine wpAny_truthy_bool ?_
  cases k with
  | false =>
    obtain ⟨k', e', q'⟩ := q3
    cases e'
    exact ite_ff ⟨H3, I3, q'⟩
  | true =>
    refine ite_tt (test_last (thn (hc pins s3 σ H3 _ I3 q3) fun w' s4 ⟨z', H4, I4, r4, q4⟩ => thn (ho' pins s4 σ H4 y z' u w' _ I4 r2 r4 q4) fun d' s5 ⟨z2, H5, I5, r5, k2, e2, q5⟩ => ?_))
    subst e2
    cases r5
    exact wpAny_truthy_bool ⟨H5, I5, q5⟩

/-! ### truth -/
/-- a value's truth by the abstract heap -/
def TruV (K : PySem.W.Frag) (x : V) (H : Hp) (k : Bool) : Prop :=
  match x with
  | .non => k = false
  | .bl b => k = b
  | .int i => k = (i != 0)
  | .str y => y.length ≤ sizeLine ∧ k = ((y.length : Int) != 0)
  | .byt y => y.size ≤ sizeLine ∧ k = ((y.size : Int) != 0)
  | .ref p => (∃ xs, SqL K H p xs ∧ k = !xs.isEmpty) ∨ (∃ xs, SqT K H p xs ∧ k = !xs.isEmpty) ∨ ∃ kvs, H p = some (.dK kvs) ∧ k = !kvs.isEmpty
  | _ => False
theorem isEmpty_kv {κ : Type} {kvs : List (κ × V)} {vs : List (κ × Value)} (r : KV kvs vs) : (!vs.isEmpty) = !kvs.isEmpty := by
  cases r <;> rfl
theorem isEmpty_of {xs : List V} {its : List Value} (r : Vals xs its) : (!its.toArray.isEmpty) = !xs.isEmpty := by
  cases r <;> simp
theorem line63 : (sizeLine : Nat) < 2 ^ 63 := by rw [sizeLine_eq]; decide
theorem tru_ok : TruR X (fun x H Q => ∃ k, TruV X.K x H k ∧ Q k H) := by
  intro pins s σ H x v Q I rx h
  obtain ⟨k, e, q⟩ := h
  have hl := line63
  have hs : sizeLine = 16777216 := sizeLine_eq
  cases x with
  | non =>
    cases rx
    have e' : k = false := e
    subst e'
    exact truthy_none ⟨H, I, q⟩
  | bl b =>
    cases rx
    have e' : k = b := e
    subst e'
    exact wpAny_truthy_bool ⟨H, I, q⟩
  | int i =>
    obtain ⟨t, rfl⟩ := rx
    have e' : k = (i != 0) := e
    subst e'
    exact PySem.P.truthy_int ⟨H, I, q⟩
  | str y =>
    obtain ⟨t, rfl⟩ := rx
    obtain ⟨hy, e'⟩ : y.length ≤ sizeLine ∧ k = ((y.length : Int) != 0) := e
    subst e'
    exact PySem.P.truthy_str (by omega) ⟨H, I.tok _, q⟩
  | byt y =>
    obtain ⟨t, rfl⟩ := rx
    obtain ⟨hy, e'⟩ : y.size ≤ sizeLine ∧ k = ((y.size : Int) != 0) := e
    subst e'
    exact PySem.W.truthy_bytes (by omega) ⟨H, I.tok _, q⟩
  | ref p =>
    cases rx
    have e' : (∃ xs, SqL X.K H p xs ∧ k = !xs.isEmpty) ∨ (∃ xs, SqT X.K H p xs ∧ k = !xs.isEmpty) ∨ ∃ kvs, H p = some (.dK kvs) ∧ k = !kvs.isEmpty := e
    rcases e' with ⟨xs, hx, e'⟩ | ⟨xs, hx, e'⟩ | ⟨kvs, hx, e'⟩
    · subst e'
      obtain ⟨its, r, pl, hz⟩ := I.list hx
      have hlen := r.length
      exact wpAny_truthy_list pl.isList (by simp only [List.size_toArray]; omega) ⟨H, I.tok _, by rw [isEmpty_of r]; exact q⟩
    · subst e'
      obtain ⟨its, r, pl, hz⟩ := I.tuple hx
      have hlen := r.length
      exact truthy_tuple pl (by simp only [List.size_toArray]; omega) ⟨H, I.tok _, by rw [isEmpty_of r]; exact q⟩
    · subst e'
      obtain ⟨hz, hS, vs, r, m⟩ : kvs.length ≤ sizeLine ∧ (p == sysModules) = false ∧ ∃ vs, KV kvs vs ∧ s.heap.DictOf (mixKind X.prog X.w) p vs := I.hok p _ hx
      have hlen : kvs.length = vs.length := Paired.length r
      exact wpAny_truthy_dict hS m (by omega) ⟨H, I.tok _, by rw [isEmpty_kv r]; exact q⟩
  | _ => exact (show False from e).elim
/-- any expression whose test is its value's truth (a name, a call, a subscript, a field ..: he by fun _ => rfl) -/
theorem pt_truth (ha : PE X a ta) (he : ∀ whole, isTrue a X.env whole = (do let v ← whole; standAt a.pos; holding [v] (truthy v))) :
    PT X a (fun σ H Q => ta σ H fun x H' => ∃ k, TruV X.K x H' k ∧ Q k H') := by
  intro pins s σ H Q I h
  exact isTrue_plain (thn (ha pins s σ H _ I h) fun v s1 ⟨x, H1, I1, r1, q1⟩ => tru_ok pins s1 σ H1 x v Q I1 r1 q1) (he _)

/-! ### strs and bytes -/
/-! ### scalar builtins, by CallR -/
theorem vals1 {x : V} {us : List Value} (r : Vals [x] us) : ∃ u, us = [u] ∧ RelV x u := by
  cases r with
  | cons r1 r2 => cases r2; exact ⟨_, rfl, r1⟩
end
end L2

namespace L2
open PySem PySem.Spec PyProof.Rows

/-! ### an instance, its attributes a map -/
structure ObjM (h : Heap) (x dx C : Addr) (mA : Str → Option Value) : Prop where
  obj : h.get? x = some (PySem.W.instObj C dx)
  ns : h.Ns1 dx mA
  ne : dx ≠ x

theorem lookIn_ns {h : Heap} {dx : Addr} {mA : Str → Option Value} (n : h.Ns1 dx mA) : ∃ od, h.get? dx = some od ∧ ∀ name, PySem.W.lookIn name od = some (mA name) := by
  obtain ⟨o, es, ep, ho, hd, hk, _, hm⟩ := n
  refine ⟨o, ho, fun name => ?_⟩
  have e := hm name
  unfold nsFind findBy at e
  rw [← Array.find?_toList] at e
  unfold PySem.W.lookIn
  rw [hd]
  dsimp only
  split
  · rename_i y q
    rw [q] at e
    exact congrArg some e
  · rename_i q
    rw [q] at e
    have a : es.toList.any (·.refKey) = false := by
      rw [List.any_eq_false]
      intro y hy
      obtain ⟨z, t, hkey⟩ := hk y (Array.mem_toList_iff.mp hy)
      simp [DictEntry.refKey, hkey]
    have a' : ¬ es.toList.any (·.refKey) = true := by rw [a]; exact Bool.false_ne_true
    rw [if_neg a']
    exact congrArg some e

theorem ObjM.look {h : Heap} {x dx C : Addr} {mA : Str → Option Value} (I : ObjM h x dx C mA) : ∃ od, PySem.W.InstAt h x (PySem.W.instObj C dx) C (some od) ∧ ∀ name, PySem.W.lookIn name od = some (mA name) :=
  let ⟨od, ho, hl⟩ := lookIn_ns I.ns
  ⟨od, ⟨I.obj, rfl, rfl, ho⟩, hl⟩

section
variable {prog : Program} {w : World} {A : Around} {E : Value → Shared → Prop} {s : Shared} {K : PySem.W.Frag} {x dx C f : Addr} {mA : Str → Option Value} {name : Str} {v : Value}

theorem get_map {expr : Bool} {Q : Value → Shared → Prop} (X : K.In s.heap) (I : ObjM s.heap x dx C mA) (hg : PySem.W.plainGet K C name = true) (hh : PySem.W.hasDictIn K C = true)
    (ha : PySem.W.findIn K (.ref C) name = some none) (hv : mA name = some v) (hv' : PySem.W.handedIn v = true) (h : Q v { s with toks := s.toks + 1 }) :
    wpAny (model prog w) A (getAttr (.ref x) name expr) Q E s := by
  obtain ⟨od, J, hl⟩ := I.look
  exact PySem.W.get_value X J (PySem.W.plainGet_of hg).1 (PySem.W.findObj_own hh ha rfl (by rw [hl, hv])) hv' h

theorem get_meth {pl : Sem Bool} {Q : Value × List Value → Shared → Prop} (X : K.In s.heap) (I : ObjM s.heap x dx C mA) (hg : PySem.W.plainGet K C name = true)
    (hf : PySem.W.findIn K (.ref C) name = some (some (.ref f))) (ht : PySem.W.isFn K (.ref f) = true) (hv : mA name = none) (h : Q (.ref f, [.ref x]) s) :
    wpAny (model prog w) A (getMethod (.ref x) name pl) Q E s := by
  obtain ⟨od, J, hl⟩ := I.look
  exact PySem.W.method_fn X J (PySem.W.plainGet_of hg).1 (PySem.W.plainGet_of hg).2 hf (beq_iff_eq.mp ht) (by show (PySem.W.lookIn name od).map (·.isSome) = some false; rw [hl, hv]; rfl) h

theorem set_map {ns : List Str} {Q : Unit → Shared → Prop} (X : K.In s.heap) (I : ObjM s.heap x dx C mA)
    (hs : PySem.W.findIn K (.ref C) "__setattr__" = some (some (.builtin "object.__setattr__"))) (hp : PySem.W.plainOver K C = true) (ht : PySem.W.takerIn K C name = some none) (hh : PySem.W.hasDictIn K C = true)
    (hw : PySem.Within mA ns) (hsz : ns.length ≤ sizeLine)
    (h : ∀ h', ObjM h' x dx C (fun y => if y = name then some v else mA y) → Heap.SameBut dx s.heap h' → Q () { s with heap := h', toks := s.toks + 2 }) :
    wpAny (model prog w) A (setAttr (.ref x) name v) Q E s := by
  obtain ⟨od, J, hl⟩ := I.look
  refine PySem.W.set_plain X J hs (PySem.W.osa_open (s := { s with toks := s.toks + 1 }) (r := none) X J hp ht fun b => ?_)
  obtain ⟨cd, hc, hd'⟩ := PySem.W.any_some hh
  have hx : s.heap.get? x = some ⟨.ref C, some dx, .plain, #[]⟩ := I.obj
  refine wpAny_bind (wpAny_pure (wpAny_bind (wpAny_bind (wpAny_loadPart hx (wpAny_bind (PySem.W.Looks.here (s := { s with toks := s.toks + 1 }) (PySem.W.looks_clsIn X hc) ?_))))))
  rw [hd']
  refine wpAny_pure (a := some dx) (wpAny_bind (wpAny_pure (wpAny_bind ?_)))
  refine wpAny_nsSet1 (s := { s with toks := s.toks + 1 }) I.ns fun h' hn2 hs2 => ?_
  obtain ⟨oD, esD, epD, hoD, hdD, hcD⟩ := hn2.count (PySem.Within.cons name v hw)
  refine wpAny_bind (wpAny_lookBehind hoD (by rw [hdD]; exact pastItsLine_dict (Nat.le_trans hcD (by rw [List.length_cons]; omega))) ?_)
  exact wpAny_pure (h _ ⟨(hs2.2 _ (Ne.symm I.ne)).trans I.obj, hn2, I.ne⟩ hs2)

/-- C(..): the dict at the heap's end, the instance behind it; then its __init__ -/
theorem make_map {R : Result → Shared → Prop} {vs : List Value} {kw : List (Str × Value)} (X : K.In s.heap) (hm : PySem.W.makesIn K C = true)
    (hi : PySem.W.findIn K (.ref C) "__init__" = some (some (.ref f))) (hf : PySem.W.typeIn K (.ref f) = some (.type "function"))
    (h : codeAny (model prog w) (A.under (.builtin "type.__call__" ⟨.ref C :: vs, kw⟩)) (.call (.ref f) ⟨.ref (s.heap.objs.size + 1) :: vs, kw⟩) (PySem.W.InitBack (s.heap.objs.size + 1) R)
      { s with heap := (s.heap.push PySem.W.emptyDict).push (PySem.W.instObj C s.heap.objs.size) }) :
    codeAny (model prog w) A (.call (.ref C) ⟨vs, kw⟩) R s := by
  obtain ⟨hh, g, d, t, os⟩ := s
  exact PySem.W.make_core (PySem.W.makes_of X hm) (PySem.W.looks_findIn X hi) (fun self => PySem.W.bind_fn X self hf) (.inl rfl) h
end

/-! ### the attributes as a list of pairs -/
def putF (f : Str) (v : V) : List (Str × V) → List (Str × V)
  | [] => [(f, v)]
  | (g, x) :: r => if g = f then (g, v) :: r else (g, x) :: putF f v r
theorem lookup_putF (f g : Str) (v : V) : ∀ fs : List (Str × V), (putF f v fs).lookup g = if g = f then some v else fs.lookup g
  | [] => by
    show List.lookup g [(f, v)] = _
    by_cases h : g = f
    · have hb : (g == f) = true := beq_iff_eq.mpr h
      simp only [List.lookup, hb, if_pos h]
    · have hb : (g == f) = false := beq_eq_false_iff_ne.mpr h
      simp only [List.lookup, hb, if_neg h]
  | (k, x) :: r => by
    have ih := lookup_putF f g v r
    rw [show putF f v ((k, x) :: r) = (if k = f then (k, v) :: r else (k, x) :: putF f v r) from rfl]
    by_cases hk : k = f
    · rw [if_pos hk]
      by_cases h : g = k
      · have hb : (g == k) = true := beq_iff_eq.mpr h
        simp only [List.lookup, hb, if_pos (h.trans hk)]
      · have hb : (g == k) = false := beq_eq_false_iff_ne.mpr h
        simp only [List.lookup, hb, if_neg (fun e : g = f => h (e.trans hk.symm))]
    · rw [if_neg hk]
      by_cases h : g = k
      · have hb : (g == k) = true := beq_iff_eq.mpr h
        simp only [List.lookup, hb, if_neg (fun e : g = f => hk (h.symm.trans e))]
      · have hb : (g == k) = false := beq_eq_false_iff_ne.mpr h
        simp only [List.lookup, hb]
        exact ih
theorem keys_putF (f : Str) (v : V) : ∀ fs : List (Str × V), f ∈ (putF f v fs).map (·.1) ∧ ∀ g, g ∈ fs.map (·.1) → g ∈ (putF f v fs).map (·.1)
  | [] => ⟨by simp [putF], fun g h => by simp at h⟩
  | (k, x) :: r => by
    obtain ⟨i1, i2⟩ := keys_putF f v r
    rw [show putF f v ((k, x) :: r) = (if k = f then (k, v) :: r else (k, x) :: putF f v r) from rfl]
    by_cases hk : k = f
    · rw [if_pos hk]
      subst hk
      exact ⟨by simp, fun g h => by simpa using h⟩
    · rw [if_neg hk]
      refine ⟨?_, fun g h => ?_⟩
      · rw [List.map_cons]
        exact List.mem_cons_of_mem _ i1
      · rw [List.map_cons] at h ⊢
        rcases List.mem_cons.mp h with e | e
        · exact List.mem_cons.mpr (.inl e)
        · exact List.mem_cons_of_mem _ (i2 g e)
theorem length_putF (f : Str) (v : V) : ∀ fs : List (Str × V), (putF f v fs).length ≤ fs.length + 1
  | [] => by simp [putF]
  | (k, x) :: r => by
    have ih := length_putF f v r
    rw [show putF f v ((k, x) :: r) = (if k = f then (k, v) :: r else (k, x) :: putF f v r) from rfl]
    by_cases hk : k = f
    · rw [if_pos hk, List.length_cons, List.length_cons]; omega
    · rw [if_neg hk, List.length_cons, List.length_cons]; omega

theorem RelO.some_of {v : V} {o : Option Value} (r : RelO (some v) o) : ∃ u, o = some u ∧ RelV v u := by
  cases o with
  | none => exact (show False from r).elim
  | some u => exact ⟨u, rfl, r⟩
theorem RelO.none_of {o : Option Value} (r : RelO none o) : o = none := by
  cases o with
  | none => rfl
  | some u => exact (show False from r).elim
theorem handed_of {v : V} {u : Value} (r : RelV v u) : PySem.W.handedIn u = true := by
  cases v with
  | non => cases (show u = Value.none from r); rfl
  | bl b => cases (show u = Value.bool b from r); rfl
  | int i => obtain ⟨t, e⟩ := (show ∃ t, u = Value.int i t from r); cases e; rfl
  | str x => obtain ⟨t, e⟩ := (show ∃ t, u = Value.str x t from r); cases e; rfl
  | byt b => obtain ⟨t, e⟩ := (show ∃ t, u = Value.bytes b t from r); cases e; rfl
  | flt b => obtain ⟨t, e⟩ := (show ∃ t, u = Value.float b t from r); cases e; rfl
  | ref a => cases (show u = Value.ref a from r); rfl
  | ty n => cases (show u = Value.type n from r); rfl

section
variable {P : Program} {w : World} {H H' : Hp} {h h' : Heap} {a C dx : Addr} {fs fs' : List (Str × V)}
theorem ins_get (hok : HOk P w H h) (e : H a = some (.ins C dx fs)) : ∃ mA, ObjM h a dx C mA ∧ (∀ f, RelO (fs.lookup f) (mA f)) ∧ PySem.Within mA (fs.map (·.1)) ∧ fs.length ≤ 1000 ∧ H dx = some (.own a) := by
  obtain ⟨d, z, ne, ob, mA, n, r, q⟩ := (show ObjOk P w H h a (.ins C dx fs) from hok a _ e)
  exact ⟨mA, ⟨ob, n, ne⟩, r, q, z, d⟩
end

/-! ### what of the text a class must have -/
structure Cls (K : PySem.W.Frag) (C : Addr) : Prop where
  pg : PySem.W.plainGet K C Str.empty = true
  hd : PySem.W.hasDictIn K C = true
  po : PySem.W.plainOver K C = true
  sa : PySem.W.findIn K (.ref C) "__setattr__" = some (some (.builtin "object.__setattr__"))
theorem Cls.get {K : PySem.W.Frag} {C : Addr} (c : Cls K C) (f : Str) : PySem.W.plainGet K C f = true := c.pg
/-- no class of it has the name -/
def NoAttr (K : PySem.W.Frag) (C : Addr) (f : Str) : Prop := PySem.W.findIn K (.ref C) f = some none
theorem NoAttr.taker {K : PySem.W.Frag} {C : Addr} {f : Str} (n : NoAttr K C f) : PySem.W.takerIn K C f = some none := by
  unfold PySem.W.takerIn
  rw [show PySem.W.findIn K (.ref C) f = some none from n]
  rfl
/-- a method: a plain def of the class or of one above it -/
structure Meth (K : PySem.W.Frag) (C : Addr) (m : Str) (f : Addr) : Prop where
  at_ : PySem.W.findIn K (.ref C) m = some (some (.ref f))
  fn : PySem.W.isFn K (.ref f) = true
  kp : PySem.W.keepIn K (.ref f) = true

section
variable {X : Cx} {pins : List (Addr × Obj)} {σ : St} {H : Hp} {s : Shared} {a C dx : Addr} {fs : List (Str × V)} {f : Str} {v : V} {A : Around} {E : Value → Shared → Prop}

theorem getattr_ok {b : Bool} {Q : Value → Shared → Prop} (I : Inv X pins σ H s) (e : H a = some (.ins C dx fs)) (c : Cls X.K C) (n : NoAttr X.K C f) (l : fs.lookup f = some v)
    (h : ∀ u s', Inv X pins σ H s' → RelV v u → Q u s') : wpAny (model X.prog X.w) A (getAttr (.ref a) f b) Q E s := by
  obtain ⟨mA, O, r, _, _, _⟩ := ins_get I.hok e
  obtain ⟨u, hu, ru⟩ := RelO.some_of (v := v) (o := mA f) (by rw [← l]; exact r f)
  exact get_map I.kIn O (c.get f) c.hd n hu (handed_of ru) (h u _ (I.tok _) ru)

theorem getmeth_ok {m : Str} {g : Addr} {pl : Sem Bool} {Q : Value × List Value → Shared → Prop} (I : Inv X pins σ H s) (e : H a = some (.ins C dx fs)) (c : Cls X.K C) (k : Meth X.K C m g) (l : fs.lookup m = none)
    (h : Q (.ref g, [.ref a]) s) : wpAny (model X.prog X.w) A (getMethod (.ref a) m pl) Q E s := by
  obtain ⟨mA, O, r, _, _, _⟩ := ins_get I.hok e
  have hn : mA m = none := RelO.none_of (by rw [← l]; exact r m)
  exact get_meth I.kIn O (c.get m) k.at_ k.fn hn h

theorem setattr_ok {y : V} {u : Value} {Q : Unit → Shared → Prop} (I : Inv X pins σ H s) (e : H a = some (.ins C dx fs)) (c : Cls X.K C) (n : NoAttr X.K C f) (hl : fs.length < 1000) (ry : RelV y u)
    (h : ∀ s', Inv X pins σ (upd H a (.ins C dx (putF f y fs))) s' → Q () s') : wpAny (model X.prog X.w) A (setAttr (.ref a) f u) Q E s := by
  obtain ⟨mA, O, r, wi, _, ho⟩ := ins_get I.hok e
  have hz : (fs.map (·.1)).length ≤ sizeLine := by rw [List.length_map, sizeLine_eq]; omega
  refine set_map I.kIn O c.sa c.po n.taker c.hd wi hz fun h' O' sb => h _ ?_
  have hd : ∃ o, h'.get? dx = some o := let ⟨o, _, _, e', _⟩ := O'.ns; ⟨o, e'⟩
  refine I.write (x := a) (e := dx) (by rw [e]; exact True.intro) (.inr ho) (fun b q hb z => (sb.2 b hb).trans z) hd ?_
  refine ⟨by rw [upd_ne O.ne]; exact ho, ?_, O.ne, O'.obj, _, O'.ns, fun g => ?_, fun g hg => ?_⟩
  · have := length_putF f y fs; omega
  · show RelO ((putF f y fs).lookup g) (if g = f then some u else mA g)
    rw [lookup_putF]
    by_cases q : g = f
    · rw [if_pos q, if_pos q]; exact ry
    · rw [if_neg q, if_neg q]; exact r g
  · by_cases q : g = f
    · rw [q]; exact (keys_putF f y fs).1
    · refine (keys_putF f y fs).2 g (wi g fun z => hg ?_)
      show (if g = f then some u else mA g) = none
      rw [if_neg q]; exact z

/-- a new instance, tracked, without attributes -/
theorem Inv.made (I : Inv X pins σ H s) : Inv X pins σ (upd (upd H s.heap.objs.size (.own (s.heap.objs.size + 1))) (s.heap.objs.size + 1) (.ins C s.heap.objs.size []))
    { s with heap := (s.heap.push PySem.W.emptyDict).push (PySem.W.instObj C s.heap.objs.size) } := by
  have e1 : (s.heap.push PySem.W.emptyDict).get? s.heap.objs.size = some PySem.W.emptyDict := Heap.get?_push_size s.heap rfl
  have e2 : ((s.heap.push PySem.W.emptyDict).push (PySem.W.instObj C s.heap.objs.size)).get? (s.heap.objs.size + 1) = some (PySem.W.instObj C s.heap.objs.size) := by
    have := Heap.get?_push_size (s.heap.push PySem.W.emptyDict) (o := PySem.W.instObj C s.heap.objs.size) rfl
    rwa [Heap.size_push] at this
  have e3 : (s.heap.push PySem.W.emptyDict).Ns s.heap.objs.size (fun _ => none) := ⟨PySem.W.emptyDict, #[], _, e1, rfl, (fun e he => absurd he (by simp)), fun _ => rfl⟩
  have I1 := I.laid (a := s.heap.objs.size) (o := .own (s.heap.objs.size + 1)) (h' := s.heap.push PySem.W.emptyDict) (t' := s.toks) (fun b u q => Heap.get?_push_of_some _ q) (Nat.le_refl _) ⟨_, e1⟩
  refine I1.laid (a := s.heap.objs.size + 1) (o := .ins C s.heap.objs.size []) (t' := s.toks) (fun b u q => Heap.get?_push_of_some _ q) (Nat.le_of_eq (Heap.size_push _ _)) ?_
  have ne : s.heap.objs.size ≠ s.heap.objs.size + 1 := Nat.ne_of_lt (Nat.lt_succ_self _)
  refine ⟨by rw [upd_ne ne, upd_same], Nat.zero_le _, ne, e2, fun _ => none, (Heap.Ns1.of_empty e3).at fun o q => Heap.get?_push_of_some _ q, fun _ => True.intro, fun y hy => absurd rfl hy⟩

/-- e.f where nothing but the object is asked: through attributeBase (super) and the last hold -/
theorem attr_of {prog : Program} {w : World} {env : Env} {e : Expr} {f : Str} {pos : Pos} {s : Shared} {Q : Value → Shared → Prop} (hb : attributeBase e f env (eval e env) = eval e env)
    (h : wpAny (model prog w) A (eval e env) (fun o s₁ => wpAny (model prog w) A (getAttr o f true) Q E s₁) E s) : wpAny (model prog w) A (eval (.Attribute e f pos) env) Q E s :=
  Attribute_any_ h (by rw [arm_eval_Attribute, hb])
end

/-! ### readings and rules -/
/-- e.f, an attribute of the instance -/
def tFld (K : PySem.W.Frag) (ta : TE) (f : Str) : TE := fun σ H Q => ta σ H fun x H1 => ∃ a C dx fs v, x = .ref a ∧ H1 a = some (.ins C dx fs) ∧ Cls K C ∧ NoAttr K C f ∧ fs.lookup f = some v ∧ Q v H1
/-- e.f = value -/
def sFld (K : PySem.W.Frag) (ta tv : TE) (f : Str) : TS := fun D σ H => tv σ H fun y H1 => ta σ H1 fun x H2 => ∃ a C dx fs, x = .ref a ∧ H2 a = some (.ins C dx fs) ∧ Cls K C ∧ NoAttr K C f ∧ fs.length < 1000 ∧
  D.nx σ (upd H2 a (.ins C dx (putF f y fs)))
section
variable {X : Cx} {o e value : Expr} {f : Str} {pos pos' tpos : Pos} {ta tv : TE}
theorem pe_fld (he : PE X e ta) (hb : attributeBase e f X.env (eval e X.env) = eval e X.env) : PE X (.Attribute e f pos) (tFld X.K ta f) := by
  intro pins s σ H Q I h
  refine attr_of hb (thn (he pins s σ H _ I h) fun u s1 ⟨x, H1, I1, rx, a, C, dx, fs, v, ex, ea, c, n, l, q⟩ => ?_)
  subst ex
  obtain rfl : u = Value.ref a := rx
  exact getattr_ok I1 ea c n l fun u' s2 I2 ru => ⟨v, H1, I2, ru, q⟩
theorem ps_fld (ha : PE X o ta) (hv : PE X value tv) (hs : swapsWith value (some (.Attribute o f pos')) pos.line X.env = pure false) : PS X (.Assign [.Attribute o f pos'] value pos) (sFld X.K ta tv f) := by
  intro pins s σ H D I h
  refine plainObj_wpAny_Assign_Attribute (thn (hv pins s σ H _ I h) fun u s1 ⟨y, H1, I1, ry, q⟩ => thn (ha pins s1 σ H1 _ I1 q) fun ov s2 ⟨x, H2, I2, rx, a, C, dx, fs, ex, ea, c, n, l, q2⟩ => ?_) hs
  subst ex
  obtain rfl : ov = Value.ref a := rx
  exact setattr_ok I2 ea c n l ry fun s3 I3 => ⟨σ, _, I3, q2⟩
end

/-! ### isinstance -/
section
variable {X : Cx} {pins : List (Addr × Obj)} {σ : St} {H : Hp} {s : Shared} {A : Around} {E : Value → Shared → Prop} {Q : Value → Shared → Prop} {c : Value} {b : Bool}
/-- the type of a value, as the fragment's deciders take it; for an instance its class -/
inductive TyOf (K : PySem.W.Frag) (H : Hp) : V → Value → Prop where
  | non : TyOf K H .non (.type "NoneType")
  | bl (x : Bool) : TyOf K H (.bl x) (.type "bool")
  | int (i : Int) : TyOf K H (.int i) (.type "int")
  | str (x : Str) : TyOf K H (.str x) (.type "str")
  | flt (x : UInt64) : TyOf K H (.flt x) (.type "float")
  | lst {a : Addr} {xs : List V} (e : H a = some (.lst xs)) : TyOf K H (.ref a) (.type "list")
  | frz {a : Addr} {o : Obj} {xs : List V} (e : H a = some (.frz o (.lst xs))) : TyOf K H (.ref a) (.type "list")
  | tup {a : Addr} {xs : List V} (e : H a = some (.tup xs)) : TyOf K H (.ref a) (.type "tuple")
  | dK {a : Addr} {kvs : List (Key × V)} (e : H a = some (.dK kvs)) : TyOf K H (.ref a) (.type "dict")
  | dT {a : Addr} {kvs : List (List Key × V)} (e : H a = some (.dT kvs)) : TyOf K H (.ref a) (.type "dict")
  | ins {a C dx : Addr} {fs : List (Str × V)} (e : H a = some (.ins C dx fs)) (cl : Cls K C) (ha : PySem.W.findIn K (.ref C) "__class__" = some (some (.builtin "object.__class__")))
      (hn : PySem.W.specialIn K (.builtin "object.__class__") "__get__" = some (some (.builtin "getset_descriptor.__get__"))) (htk : PySem.W.takesIn K (.builtin "object.__class__") = some true)
      (hm : PySem.W.mroIn K C (.type "object") = some true) : TyOf K H (.ref a) (.ref C)
/-- isinstance(x, c) for one class c, a built-in or an own one: kitOne's answer -/
theorem isinst_ok {x : V} {u t : Value} (I : Inv X pins σ H s) (rx : RelV x u) (ty : TyOf X.K H x t) (e : PySem.W.kitOne X.K t c = some b) (h : ∀ tk, Q (.bool b) { s with toks := tk }) :
    wpAny (model X.prog X.w) A (call (.builtin "isinstance") [u, c]) Q E s := by
  cases ty with
  | non => cases (show u = Value.none from rx); exact PySem.W.kia_one PySem.W.kitx_none I.kIn True.intro e (fun z => nomatch z) h
  | bl y => cases (show u = Value.bool y from rx); exact PySem.W.kia_one PySem.W.kitx_bool I.kIn True.intro e (fun z => nomatch z) h
  | int i => obtain ⟨t, q⟩ := (show ∃ t, u = Value.int i t from rx); cases q; exact PySem.W.kia_one PySem.W.kitx_int I.kIn True.intro e (fun z => nomatch z) h
  | str y => obtain ⟨t, q⟩ := (show ∃ t, u = Value.str y t from rx); cases q; exact PySem.W.kia_one PySem.W.kitx_str I.kIn True.intro e (fun z => nomatch z) h
  | flt y => obtain ⟨t, q⟩ := (show ∃ t, u = Value.float y t from rx); cases q; exact PySem.W.kia_one PySem.W.kitx_float I.kIn True.intro e (fun z => nomatch z) h
  | @lst a xs ea =>
    cases (show u = Value.ref a from rx)
    obtain ⟨_, _, n, _, h1⟩ := (show ObjOk X.prog X.w H s.heap a (.lst xs) from I.hok a _ ea)
    exact PySem.W.kia_one PySem.W.kitx_list I.kIn ⟨_, h1, rfl⟩ e (fun z => nomatch z) h
  | @frz a ob xs ea =>
    cases (show u = Value.ref a from rx)
    obtain ⟨_, _, _, n, _, h1⟩ := (show ObjOk X.prog X.w H s.heap a (.frz ob (.lst xs)) from I.hok a _ ea)
    exact PySem.W.kia_one PySem.W.kitx_list I.kIn ⟨_, h1, rfl⟩ e (fun z => nomatch z) h
  | @tup a xs ea =>
    cases (show u = Value.ref a from rx)
    obtain ⟨_, _, _, p⟩ := (show ObjOk X.prog X.w H s.heap a (.tup xs) from I.hok a _ ea)
    obtain ⟨o, h1, h2, _⟩ := p
    exact PySem.W.kia_one PySem.W.kitx_tuple I.kIn ⟨o, h1, h2⟩ e (fun z => nomatch z) h
  | @dK a kvs ea =>
    cases (show u = Value.ref a from rx)
    obtain ⟨_, _, vs, _, p⟩ := (show ObjOk X.prog X.w H s.heap a (.dK kvs) from I.hok a _ ea)
    obtain ⟨o, es, ep, h1, h2, _⟩ := p
    exact PySem.W.kia_one PySem.W.kitx_dict I.kIn ⟨o, h1, h2.1⟩ e (fun z => nomatch z) h
  | @dT a kvs ea =>
    cases (show u = Value.ref a from rx)
    obtain ⟨_, _, xs, _, o, es, ep, h1, h2, _⟩ := (show ObjOk X.prog X.w H s.heap a (.dT kvs) from I.hok a _ ea)
    exact PySem.W.kia_one PySem.W.kitx_dict I.kIn ⟨o, h1, h2.1⟩ e (fun z => nomatch z) h
  | @ins a C dx fs ea cl ha hn htk hm =>
    cases (show u = Value.ref a from rx)
    obtain ⟨mA, O, _⟩ := ins_get I.hok ea
    obtain ⟨od, J, _⟩ := O.look
    exact PySem.W.kia_one (PySem.W.kitx_own (cl.get _) cl.hd ha hn htk hm) I.kIn J e (fun z => nomatch z) h
end
end L2

namespace L2
open PySem PySem.Spec PyProof.Rows

/-! ### room -/
structure Room (k : Nat) (A : Around) : Prop where
  hd : A.handled = none
  dp : A.depth + 3 * k + 5 < recursionLimit
  un : A.units + 16 * k + 200 < cLine
theorem Room.mono {j k : Nat} {A : Around} (r : Room k A) (h : j ≤ k) : Room j A := ⟨r.hd, by have := r.dp; omega, by have := r.un; omega⟩
theorem Room.deeper {k : Nat} {A : Around} (r : Room (k + 1) A) (env : Env) : Room k (A.deeper env) :=
  ⟨r.hd, by have := r.dp; show A.depth + 1 + 3 * k + 5 < _; omega, by have := r.un; show A.units + 3 + 16 * k + 200 < _; omega⟩
theorem make_depth {A : Around} {C : Addr} {us : List Value} {kw : List (Str × Value)} : (A.under (.builtin "type.__call__" ⟨.ref C :: us, kw⟩)).depth = A.depth + 1 := by
  first | rfl | simp [Around.under, Code.weight, Code.isCreation, Code.isGuard, Code.isCaller, Code.frames, Code.isFrame, guardIds]
theorem make_units {A : Around} {C : Addr} {us : List Value} {kw : List (Str × Value)} : (A.under (.builtin "type.__call__" ⟨.ref C :: us, kw⟩)).units = A.units + 1 := by
  first | rfl | simp [Around.under, Code.cUnits, Code.frames, Code.isFrame]
theorem Room.make {k : Nat} {A : Around} (r : Room (k + 1) A) (C : Addr) (us : List Value) (kw : List (Str × Value)) : Room k (A.under (.builtin "type.__call__" ⟨.ref C :: us, kw⟩)) :=
  ⟨r.hd, by have := r.dp; rw [make_depth]; omega, by have := r.un; rw [make_units]; omega⟩
theorem Room.depth {k : Nat} {A : Around} (r : Room k A) : A.depth < recursionLimit := by have := r.dp; omega
theorem Room.units {k : Nat} {A : Around} (r : Room k A) : A.units + 64 < cLine := by have := r.un; omega
/-! ### argument lists and displays -/
def tNil : TA := fun _ H Q => Q [] H
def tCons (ta : TE) (tr : TA) : TA := fun σ H Q => ta σ H fun x H1 => tr σ H1 fun xs H2 => Q (x :: xs) H2
section
variable {X : Cx} {e : Expr} {es : List Expr} {te : TE} {t : TA} {pos : Pos}
theorem pa_nil : PA X [] tNil := fun _ _ _ _ H Q I h => Calls.spliced_nil ⟨[], H, I, .nil, h⟩
theorem pa_cons (ha : PE X e te) (hr : PA X es t) (hs : starEach (e :: es) X.env = (false, eval e X.env) :: starEach es X.env := by rfl) : PA X (e :: es) (tCons te t) := by
  intro pos pins s σ H Q I h
  rw [hs]
  show wpAny _ _ (spliced ((false, eval e X.env) :: backTo pos (starEach es X.env))) _ _ s
  refine Calls.spliced_cons (thn (ha pins s σ H _ I h) fun u s1 ⟨x, H1, I1, r1, q1⟩ => ?_)
  exact thn (hr pos pins s1 σ H1 _ I1 q1) fun us s2 ⟨xs, H2, I2, r2, q2⟩ => ⟨x :: xs, H2, I2, .cons r1 r2, q2⟩

/-- a tuple, a list of written items -/
def tTup (t : TA) : TE := fun σ H Q => t σ H fun xs H1 => xs.length ≤ sizeLine ∧ ∀ p, H1 p = none → Q (.ref p) (upd H1 p (.tup xs))
def tLst (t : TA) : TE := fun σ H Q => t σ H fun xs H1 => xs.length ≤ sizeLine ∧ ∀ p, H1 p = none → Q (.ref p) (upd H1 p (.lst xs))
theorem pe_tup {x1} (h : PA X es t) : PE X (.Tuple es x1 pos) (tTup t) := by
  intro pins s σ H Q I hq
  refine wpAny_Tuple_spliced (thn (h pos pins s σ H _ I hq) fun us s1 ⟨xs, H1, I1, r, z, q⟩ => ⟨by rw [← r.length]; exact z, ?_⟩)
  have hf : H1 s1.heap.objs.size = none := I1.hok.fresh (Nat.le_refl _)
  refine ⟨.ref s1.heap.objs.size, upd H1 s1.heap.objs.size (.tup xs), I1.laid (t' := s1.toks) (fun b u e => Heap.get?_push_of_some _ e) (Nat.le_refl _) ?_, rfl, q _ hf⟩
  exact ⟨z, us, r, ⟨_, Heap.get?_push_size _ rfl, rfl, _, rfl⟩⟩
theorem pe_lst (h : PA X es t) : PE X (.List es pos) (tLst t) := by
  intro pins s σ H Q I hq
  refine wpAny_List_spliced (thn (h pos pins s σ H _ I hq) fun us s1 ⟨xs, H1, I1, r, z, q⟩ => ⟨by rw [← r.length]; exact z, ?_⟩)
  have hf : H1 s1.heap.objs.size = none := I1.hok.fresh (Nat.le_refl _)
  refine ⟨.ref s1.heap.objs.size, upd H1 s1.heap.objs.size (.lst xs), I1.laid (t' := s1.toks) (fun b u e => Heap.get?_push_of_some _ e) (Nat.le_refl _) ?_, rfl, q _ hf⟩
  exact ⟨z, us, 0, r, Heap.get?_push_size _ rfl⟩
end

/-! ### what a def promises -/
/-- a def's promise: the bound arguments in the parameters' order, the heap, the wanted end, the wanted exception -/
abbrev Sp := List V → Hp → VK → XK → Prop
/-- how an exception lies behind a call (file 08 gives it): the callers' frames, abstract heap and state ahead of the call, the wish, the exception, the state -/
abbrev CXT := List Env → Hp → Shared → XK → Value → Shared → Prop

/-- the state at a call -/
structure Env0 (P : Program) (w : World) (K : PySem.W.Frag) (mg : Str → Option Value) (base : Heap) (A : Around) (outer : List Env) (s : Shared) (H : Hp) : Prop where
  frames : A.frames = some outer
  mod : Mod K mg base
  bs : ∀ b o, base.get? b = some o → s.heap.get? b = some o ∧ H b = none
  bsz : base.objs.size ≤ s.heap.objs.size
  funs : s.heap.FunFrames base outer
  frf : ∀ b ∈ frs outer, H b = none
  hok : HOk P w H s.heap
  bare : AllBare s.gens
/-- a call's end -/
def CE (outer : List Env) (P : Program) (w : World) (H : Hp) (s : Shared) (Q : VK) (u : Value) (s' : Shared) : Prop :=
  ∃ v H', s'.os = s.os ∧ AllBare s'.gens ∧ Un (frs outer) [] H H' s.heap s'.heap ∧ HOk P w H' s'.heap ∧ RelV v u ∧ Q v H'
def CR (CX : CXT) (outer : List Env) (P : Program) (w : World) (H : Hp) (s : Shared) (Q : VK) (E : XK) (r : Result) (s' : Shared) : Prop :=
  match r with
  | .ok (.ret u) => CE outer P w H s Q u s'
  | .ok _ => False
  | .error e => CX outer H s E e s'
structure FnOk (P : Program) (w : World) (K : PySem.W.Frag) (mg : Str → Option Value) (base : Heap) (CX : CXT) (k : Nat) (f : Addr) (fd : FuncData) (ps : List Str) (sp : Sp) : Prop where
  len : ∀ vs H Q E, sp vs H Q E → vs.length = ps.length
  run : ∀ (A : Around) (outer : List Env) (s : Shared) (H : Hp) (args : Args) (us : List Value) (vs : List V) (Q : VK) (E : XK), Room k A → Env0 P w K mg base A outer s H → BindsTo s fd args (ps.zip us) → Vals vs us → sp vs H Q E →
    codeAny (model P w) A (.call (.ref f) args) (CR CX outer P w H s Q E) s
theorem FnOk.mono {P : Program} {w : World} {K : PySem.W.Frag} {mg : Str → Option Value} {base : Heap} {CX : CXT} {j k : Nat} {f : Addr} {fd : FuncData} {ps : List Str} {sp : Sp} (F : FnOk P w K mg base CX j f fd ps sp) (h : j ≤ k) :
    FnOk P w K mg base CX k f fd ps sp := ⟨F.len, fun A outer s H args us vs Q E hr => F.run A outer s H args us vs Q E (hr.mono h)⟩
/-- a weaker promise -/
theorem FnOk.imp {P : Program} {w : World} {K : PySem.W.Frag} {mg : Str → Option Value} {base : Heap} {CX : CXT} {k : Nat} {f : Addr} {fd : FuncData} {ps : List Str} {sp sp' : Sp} (F : FnOk P w K mg base CX k f fd ps sp)
    (h : ∀ vs H Q E, sp' vs H Q E → sp vs H Q E) : FnOk P w K mg base CX k f fd ps sp' :=
  ⟨fun vs H Q E q => F.len vs H Q E (h _ _ _ _ q), fun A outer s H args us vs Q E hr he hb hv hs => F.run A outer s H args us vs Q E hr he hb hv (h _ _ _ _ hs)⟩

theorem Env0.make {P : Program} {w : World} {K : PySem.W.Frag} {mg : Str → Option Value} {base : Heap} {A : Around} {outer : List Env} {s : Shared} {H : Hp} (e : Env0 P w K mg base A outer s H) (C : Addr) (us : List Value) (kw : List (Str × Value)) :
    Env0 P w K mg base (A.under (.builtin "type.__call__" ⟨.ref C :: us, kw⟩)) outer s H := ⟨by first | exact e.frames | (simpa [Around.under, Code.envs, Code.isFrame, pushEnvs] using e.frames), e.mod, e.bs, e.bsz, e.funs, e.frf, e.hok, e.bare⟩
section
variable {X : Cx} {pins : List (Addr × Obj)} {σ : St} {H : Hp} {s s' : Shared}
/-- from a body: what a callee wants -/
theorem Inv.env0 (I : Inv X pins σ H s) : Env0 X.prog X.w X.K X.mg X.base X.A X.stack s H :=
  ⟨I.ok.frames, I.ok.mod, I.bs, Nat.le_trans I.ok.bsz I.sz, I.stack, I.stkFree, I.hok, I.bare⟩
/-- behind a call -/
theorem Inv.after {Q : VK} {u : Value} (I : Inv X pins σ H s) (h : CE X.stack X.prog X.w H s Q u s') : EP X pins σ Q u s' := by
  obtain ⟨v, H', os, bare, un, hok, r, q⟩ := h
  obtain ⟨hh, g, d, t, os'⟩ := s'
  obtain rfl : os' = s.os := os
  exact ⟨v, H', I.call (h' := hh) (g' := g) (d' := d) (t' := t) (ch := []) un hok bare (fun b z => absurd z (by simp)), r, q⟩
end

/-! ### calls -/
/-- f(..): the written arguments, then the defaults dvs; E: what is wanted of an exception -/
def tCall (sp : Sp) (dvs : List V) (E : XK) (t : TA) : TE := fun σ H Q => t σ H fun vs H1 => sp (vs ++ dvs) H1 Q E
/-- o.m(..) of an instance of the class at C -/
def tMeth (C : Addr) (m : Str) (sp : Sp) (dvs : List V) (E : XK) (ta : TE) (t : TA) : TE := fun σ H Q => ta σ H fun x H1 => ∃ a dx fs, x = .ref a ∧ H1 a = some (.ins C dx fs) ∧ fs.lookup m = none ∧
  t σ H1 fun vs H2 => sp (x :: (vs ++ dvs)) H2 Q E
/-- C(..): a new instance and its dict, then __init__ -/
def tMake (C : Addr) (sp : Sp) (dvs : List V) (E : XK) (t : TA) : TE := fun σ H Q => t σ H fun vs H1 => ∀ x dx, H1 x = none → H1 dx = none → dx ≠ x →
  sp (.ref x :: (vs ++ dvs)) (upd (upd H1 dx (.own x)) x (.ins C dx [])) (fun v H2 => v = .non ∧ Q (.ref x) H2) E

/-- how the parameters are bound: us the positional arguments, kw the keywords' values by name, ds the defaults that fill up -/
def Binds (K : PySem.W.Frag) (fd : FuncData) (ps : List Str) (ds : List Value) : Prop :=
  ∀ (s : Shared) (us : List Value), K.In s.heap → (us ++ ds).length = ps.length → BindsTo s fd ⟨us, []⟩ (ps.zip (us ++ ds))
/-- every parameter is given -/
theorem Binds.all {K : PySem.W.Frag} {fd : FuncData} {ps : List Str} (h : ∀ us : List Value, us.length = ps.length → bindArgs fd ⟨us, []⟩ = pure (ps.zip us)) : Binds K fd ps [] := fun s us _ hl => by
  rw [List.append_nil] at hl ⊢
  exact .of_eq (h us hl)

/-- an exception of a callee reaches what this body wants of exceptions -/
def Passes (CX : CXT) (X : Cx) (E : XK) : Prop := ∀ (pins : List (Addr × Obj)) (σ : St) (H : Hp) (s : Shared) (e : Value) (s' : Shared), Inv X pins σ H s → CX X.stack H s E e s' → X.xe e s'

section
variable {X : Cx} {CX : CXT} {k : Nat} {f C : Addr} {fd : FuncData} {ps : List Str} {sp : Sp} {dvs : List V} {ds : List Value} {E : XK} {x m : Str} {p pos apos : Pos} {e o : Expr} {es : List Expr} {ta : TE} {t : TA}

/-- the callee runs -/
theorem run_fn {pins : List (Addr × Obj)} {σ : St} {H : Hp} {s : Shared} {Q : VK} {us : List Value} {vs : List V} (F : FnOk X.prog X.w X.K X.mg X.base CX k f fd ps sp) (hr : Room k X.A) (hb : Binds X.K fd ps ds) (hd : Vals dvs ds) (hx : Passes CX X E)
    (I : Inv X pins σ H s) (r : Vals vs us) (h : sp (vs ++ dvs) H Q E) : wpAny (model X.prog X.w) X.A (call (.ref f) us) (EP X pins σ Q) X.xe s := by
  have r2 : Vals (vs ++ dvs) (us ++ ds) := r.append hd
  have hl : (us ++ ds).length = ps.length := by rw [← r2.length]; exact F.len _ _ _ _ h
  refine wpAny_call (codeAny_mono (F.run X.A X.stack s H ⟨us, []⟩ (us ++ ds) (vs ++ dvs) Q E hr I.env0 (hb s us I.kIn hl) r2 h) fun r s' hq => ?_)
  cases r with
  | error e => exact hx pins σ H s e s' I hq
  | ok fl =>
    cases fl with
    | ret u => exact I.after hq
    | next => exact False.elim hq
    | brk => exact False.elim hq
    | cont => exact False.elim hq

theorem pe_call (F : FnOk X.prog X.w X.K X.mg X.base CX k f fd ps sp) (hr : Room k X.A) (hg : Gl X x) (hm : X.mg x = some (.ref f)) (hk : PySem.W.keepIn X.K (.ref f) = true) (hb : Binds X.K fd ps ds) (hd : Vals dvs ds) (hx : Passes CX X E)
    (ha : PA X (e :: es) t) (hdb : (x == ("__debug__" : Str)) = false := by decide) (he : starEach (e :: es) X.env = (false, eval e X.env) :: starEach es X.env := by rfl) (hpl : (backTo pos (starEach es X.env)).any (·.1) = false := by rfl) :
    PE X (.Call (.Name x p) (e :: es) [] pos) (tCall sp dvs E t) := by
  intro pins s σ H Q I h
  refine wpAny_Call_Name_kw (ld_glob I hg hm ?_ hdb)
  refine PySem.W.callWith_K (h₀ := X.base) I.ok.mod.kin hk (thn (ha pos pins s σ H _ I h) fun us s1 ⟨vs, H1, I1, r, q⟩ => ⟨I1.kIn, ?_⟩) he hpl
  exact run_fn F hr hb hd hx I1 r q
/-- o.m() -/
theorem pe_meth0 {pl : Sem Bool} (he : PE X o ta) (c : Cls X.K C) (hm : Meth X.K C m f) (F : FnOk X.prog X.w X.K X.mg X.base CX k f fd ps sp) (hr : Room k X.A) (hb : Binds X.K fd ps ds) (hd : Vals dvs ds) (hx : Passes CX X E)
    (ht : eval (.Call (.Attribute o m apos) [] [] pos) X.env = (do
      let ov ← eval o X.env
      standAt apos.atName
      let (f, first) ← holding [ov] (getMethod ov m pl)
      callWith pos f first (backTo pos (starEach [] X.env)) (backToKw pos (keywordEach [] X.env))) := by rfl) :
    PE X (.Call (.Attribute o m apos) [] [] pos) (tMeth C m sp dvs E ta tNil) := by
  intro pins s σ H Q I h
  refine PySem.W.methodCall_KW (pl := pl) (thn (he pins s σ H _ I h) fun u s1 ⟨x, H1, I1, rx, a, dx, fs, ex, ea, l, q⟩ => ?_) ht
  subst ex
  obtain rfl : u = Value.ref a := rx
  refine getmeth_ok I1 ea c hm l ?_
  exact PySem.W.callWith_K0 (first := [.ref a]) I1.kIn hm.kp (run_fn (us := [.ref a]) (vs := [.ref a]) F hr hb hd hx I1 (.cons rfl .nil) q)

/-- what a class must have to be made -/
structure Mk (K : PySem.W.Frag) (C f : Addr) : Prop where
  makes : PySem.W.makesIn K C = true
  init : PySem.W.findIn K (.ref C) "__init__" = some (some (.ref f))
  fn : PySem.W.isFn K (.ref f) = true
  kp : PySem.W.keepIn K (.ref C) = true

theorem run_make {pins : List (Addr × Obj)} {σ : St} {H : Hp} {s : Shared} {Q : VK} {us : List Value} {vs : List V} (M : Mk X.K C f) (F : FnOk X.prog X.w X.K X.mg X.base CX k f fd ps sp) (hr : Room (k + 1) X.A) (hb : Binds X.K fd ps ds) (hd : Vals dvs ds)
    (hx : Passes CX X E) (I : Inv X pins σ H s) (r : Vals vs us)
    (h : ∀ x dx, H x = none → H dx = none → dx ≠ x → sp (.ref x :: (vs ++ dvs)) (upd (upd H dx (.own x)) x (.ins C dx [])) (fun v H2 => v = .non ∧ Q (.ref x) H2) E) :
    wpAny (model X.prog X.w) X.A (call (.ref C) us) (EP X pins σ Q) X.xe s := by
  have hq := h (s.heap.objs.size + 1) s.heap.objs.size (I.hok.fresh (Nat.le_succ _)) (I.hok.fresh (Nat.le_refl _)) (Nat.ne_of_lt (Nat.lt_succ_self _))
  have I2 := Inv.made (C := C) I
  have r2 : Vals (V.ref (s.heap.objs.size + 1) :: (vs ++ dvs)) (Value.ref (s.heap.objs.size + 1) :: (us ++ ds)) := .cons rfl (r.append hd)
  have hl : (Value.ref (s.heap.objs.size + 1) :: us ++ ds).length = ps.length := by
    have e := r2.length
    rw [F.len _ _ _ _ hq] at e
    exact e.symm
  refine wpAny_call (make_map (f := f) I.kIn M.makes M.init (beq_iff_eq.mp M.fn) (codeAny_mono (F.run _ X.stack _ _ ⟨Value.ref (s.heap.objs.size + 1) :: us, []⟩ (Value.ref (s.heap.objs.size + 1) :: (us ++ ds)) _ _ E (hr.make C us [])
    (I2.env0.make C us []) (hb _ (Value.ref (s.heap.objs.size + 1) :: us) I2.kIn hl) r2 hq) fun r s' hq' => ?_))
  cases r with
  | error e => exact hx pins σ _ _ e s' I2 hq'
  | ok fl =>
    cases fl with
    | ret u =>
      obtain ⟨v, H', I3, rv, ev, q3⟩ := I2.after hq'
      subst ev
      exact ⟨rv, ⟨V.ref (s.heap.objs.size + 1), H', I3, rfl, q3⟩⟩
    | next => exact False.elim hq'
    | brk => exact False.elim hq'
    | cont => exact False.elim hq'
theorem pe_make (M : Mk X.K C f) (F : FnOk X.prog X.w X.K X.mg X.base CX k f fd ps sp) (hr : Room (k + 1) X.A) (hg : Gl X x) (hm : X.mg x = some (.ref C)) (hb : Binds X.K fd ps ds) (hd : Vals dvs ds) (hx : Passes CX X E)
    (ha : PA X (e :: es) t) (hdb : (x == ("__debug__" : Str)) = false := by decide) (he : starEach (e :: es) X.env = (false, eval e X.env) :: starEach es X.env := by rfl) (hpl : (backTo pos (starEach es X.env)).any (·.1) = false := by rfl) :
    PE X (.Call (.Name x p) (e :: es) [] pos) (tMake C sp dvs E t) := by
  intro pins s σ H Q I h
  refine wpAny_Call_Name_kw (ld_glob I hg hm ?_ hdb)
  refine PySem.W.callWith_K (h₀ := X.base) I.ok.mod.kin M.kp (thn (ha pos pins s σ H _ I h) fun us s1 ⟨vs, H1, I1, r, q⟩ => ⟨I1.kIn, ?_⟩) he hpl
  exact run_make M F hr hb hd hx I1 r q
end

/-! ### keywords -/
section
variable {X : Cx} {CX : CXT} {k : Nat} {f C : Addr} {fd : FuncData} {ps ks : List Str} {sp : Sp} {E : XK} {x m : Str} {p pos apos kpos : Pos} {e o : Expr} {es : List Expr} {kws : List Keyword} {te ta : TE} {t tk : TA} {nm : Option Str}
variable {g : List Value → List Value → List Value} {gV : List V → List V → List V}
end

/-! ### a def's body keeps its promise -/
/-- names: the parameters first -/
structure FnScope (N P : List Str) (sc : Scope) : Prop where
  kind : sc.kind = .function
  co : sc.isCoroutine = false
  gen : sc.isGenerator = false
  nd : N.Nodup
  pre : N.take P.length = P
  par : ∀ x ∈ P, sc.names.lookup x = some .local ∨ sc.names.lookup x = some .cell
  nofree : ∀ y ∈ sc.names, y.2 ≠ .free

theorem bindL_out {kindOf : Str → Option NameKind} {x : Str} : ∀ {binds : List (Str × Value)} {m : Str → Option Value}, (∀ v, (x, v) ∉ binds) → bindL kindOf binds m x = m x
  | [], _, _ => rfl
  | (n, v) :: r, m, h => by
    unfold bindL
    rw [bindL_out fun w hw => h w (List.mem_cons_of_mem _ hw)]
    split
    · have : x ≠ n := by rintro rfl; exact h v List.mem_cons_self
      simp [this]
    · rfl
theorem bindC_out {kindOf : Str → Option NameKind} {x : Str} : ∀ {binds : List (Str × Value)} {m : Str → Option Value}, (∀ v, (x, v) ∉ binds) → bindC kindOf binds m x = m x
  | [], _, _ => rfl
  | (n, v) :: r, m, h => by
    unfold bindC
    rw [bindC_out fun w hw => h w (List.mem_cons_of_mem _ hw)]
    split
    · rfl
    · have : x ≠ n := by rintro rfl; exact h v List.mem_cons_self
      simp [this]
theorem bindL_get {kindOf : Str → Option NameKind} {x : Str} {v : Value} : ∀ {P : List Str} {vs : List Value} {i : Nat} {m : Str → Option Value}, P.Nodup → P[i]? = some x → vs[i]? = some v → kindOf x = some .local →
    bindL kindOf (P.zip vs) m x = some v
  | [], _, _, _, _, h, _, _ => by simp at h
  | _ :: _, [], _, _, _, _, h, _ => by simp at h
  | p :: P, w :: vs, 0, m, nd, h1, h2, hk => by
    simp at h1 h2; subst h1; subst h2
    show bindL kindOf ((p, w) :: P.zip vs) m p = _
    unfold bindL
    rw [bindL_out fun v hv => (List.nodup_cons.mp nd).1 (List.of_mem_zip hv).1, if_pos hk]
    simp
  | p :: P, w :: vs, i + 1, m, nd, h1, h2, hk => by
    show bindL kindOf ((p, w) :: P.zip vs) m x = _
    unfold bindL
    exact bindL_get (i := i) (List.nodup_cons.mp nd).2 (by simpa using h1) (by simpa using h2) hk
theorem bindC_get {kindOf : Str → Option NameKind} {x : Str} {v : Value} : ∀ {P : List Str} {vs : List Value} {i : Nat} {m : Str → Option Value}, P.Nodup → P[i]? = some x → vs[i]? = some v → kindOf x ≠ some .local →
    bindC kindOf (P.zip vs) m x = some v
  | [], _, _, _, _, h, _, _ => by simp at h
  | _ :: _, [], _, _, _, _, h, _ => by simp at h
  | p :: P, w :: vs, 0, m, nd, h1, h2, hk => by
    simp at h1 h2; subst h1; subst h2
    show bindC kindOf ((p, w) :: P.zip vs) m p = _
    unfold bindC
    rw [bindC_out fun v hv => (List.nodup_cons.mp nd).1 (List.of_mem_zip hv).1, if_neg hk]
    simp
  | p :: P, w :: vs, i + 1, m, nd, h1, h2, hk => by
    show bindC kindOf ((p, w) :: P.zip vs) m x = _
    unfold bindC
    exact bindC_get (i := i) (List.nodup_cons.mp nd).2 (by simpa using h1) (by simpa using h2) hk

/-- the names' values at the entry -/
def start (N : List Str) (vs : List V) : St := vs.map some ++ List.replicate (N.length - vs.length) none

/-- the context of a def's body, at its entry; an exception leaves the frame, then lies as CX says -/
def cxOf (CX : CXT) (P : Program) (w : World) (K : PySem.W.Frag) (mg : Str → Option Value) (base : Heap) (N : List Str) (qual : Str) (scope : Scope) (f : Addr) (cd : Value) (A : Around) (outer : List Env) (s : Shared) (H : Hp) (E : XK) : Cx where
  prog := P
  w := w
  K := K
  mg := mg
  base := base
  A := A.deeper (envOfC qual scope s.heap.objs.size f cd)
  N := N
  s₀ := s
  H₀ := H
  env := envOfC qual scope s.heap.objs.size f cd
  outer := outer
  stack := envOfC qual scope s.heap.objs.size f cd :: outer
  ex := []
  calm := true
  fn := fun _ => true
  pn := []
  xe := fun e s' => wpAny (model P w) (A.deeper (envOfC qual scope s.heap.objs.size f cd)) (leaving (envOfC qual scope s.heap.objs.size f cd) e) (fun _ s'' => CX outer H s E e s'') (fun e' s'' => CX outer H s E e' s'') s'

theorem cell_has {sc : Scope} {n : Nat} {x : Str} (h : sc.names.lookup x = some .cell) : ∃ c, (cellsFrom n sc.names []).lookup x = some c := by
  have q := PySem.W.cellsFrom_some sc.names n [] (.inl h)
  exact Option.isSome_iff_exists.mp q

theorem inv_start {CX : CXT} {P : Program} {w : World} {K : PySem.W.Frag} {mg : Str → Option Value} {base : Heap} {N ps : List Str} {qual : Str} {scope : Scope} {f : Addr} {cd : Value} {A : Around} {outer : List Env} {s s1 : Shared} {H : Hp} {E : XK} {us : List Value} {vs : List V}
    (S : FnScope N ps scope) (hd : A.handled = none) (e0 : Env0 P w K mg base A outer s H) (hl : vs.length = ps.length) (r : Vals vs us)
    (x : InCallC s s.heap.objs.size (bindL (envOfC qual scope s.heap.objs.size f cd).kindOf (ps.zip us) fun _ => none) (cellsFrom (s.heap.objs.size + 1) scope.names []) (bindC (envOfC qual scope s.heap.objs.size f cd).kindOf (ps.zip us) fun _ => none) s1) :
    Inv (cxOf CX P w K mg base N qual scope f cd A outer s H E) [] (start N vs) H s1 := by
  have hpl : ps.length ≤ N.length := by have := congrArg List.length S.pre; rw [List.length_take] at this; omega
  obtain ⟨h1, tk, rfl, hk⟩ := x.done
  have noA : ∀ b : Addr, b ∉ (cxOf CX P w K mg base N qual scope f cd A outer s H E).ex := fun b z => absurd (show b ∈ ([] : List Addr) from z) (by simp)
  refine ⟨⟨e0.mod, S.kind, rfl, rfl, Nat.le_refl _, fun y z c h1 h2 => ?_, fun y hy => ?_, fun y c _ h => ?_, fun _ => hd, Around.frames_deeper e0.frames, .inr ⟨rfl, rfl⟩, fun b z => absurd z (noA b), e0.bs, e0.bsz, fun b _ _ => noA b, fun b z => absurd z (noA b), e0.funs, e0.frf⟩,
    rfl, e0.bare, Un.kept hk, ⟨_, x.toInCall.ns, fun i y v h1 h2 h3 => ?_⟩, fun y c h => ⟨_, x.cell y c h⟩, e0.hok.fresh (Nat.le_refl _), fun y c h => ?_, fun p hp => absurd (show p ∈ ([] : List (Addr × Obj)) from hp) (by simp), e0.hok.kept hk, ?_⟩
  · exact name_of_addr x.apart (PySem.mem_of_lookup h1) (PySem.mem_of_lookup h2)
  · have hy : scope.names.lookup y = some .cell ∨ scope.names.lookup y = some .free := hy
    rcases hy with hy | hy
    · exact cell_has hy
    · exact absurd rfl (S.nofree _ (PySem.mem_of_lookup hy))
  · exact Nat.le_of_lt (x.above y c (PySem.mem_of_lookup h))
  · have hi : i < vs.length := by
      unfold start at h2
      by_cases hi : i < vs.length
      · exact hi
      · rw [List.getElem?_append_right (by simpa using hi)] at h2
        rw [List.getElem?_replicate] at h2
        split at h2 <;> cases h2
    have ha : vs[i]? = some v := by
      unfold start at h2
      rw [List.getElem?_append_left (by simpa using hi), List.getElem?_map] at h2
      cases e : vs[i]? with
      | none => rw [e] at h2; cases h2
      | some a => rw [e] at h2; cases h2; rfl
    obtain ⟨u, hu, rv⟩ := r.get ha
    have hp : ps[i]? = some y := by
      rw [← S.pre, List.getElem?_take_of_lt (by omega)]; exact h1
    have ndP : ps.Nodup := by rw [← S.pre]; exact S.nd.sublist (List.take_sublist _ _)
    refine ⟨u, rv, ?_⟩
    rcases S.par y (List.mem_of_getElem? hp) with k | k
    · exact .inl ⟨k, bindL_get ndP hp hu k⟩
    · obtain ⟨c, e⟩ := cell_has (n := s.heap.objs.size + 1) k
      refine .inr ⟨.inl k, c, e, ?_⟩
      have q := x.cell y c e
      rw [bindC_get ndP hp hu (by show scope.names.lookup y ≠ _; rw [k]; decide)] at q
      exact q
  · exact e0.hok.fresh (Nat.le_of_lt (x.above y c (PySem.mem_of_lookup h)))
  · unfold start
    show _ = N.length
    rw [List.length_append, List.length_map, List.length_replicate]
    omega

/-- THE RULE: a def (or a method) of the text, by its body. The body's reading t is chosen for each entry; it is run at the parameters' values -/
theorem fn_of {CX : CXT} {P : Program} {w : World} {K : PySem.W.Frag} {mg : Str → Option Value} {base : Heap} {k : Nat} {f : Addr} {name qual : Str} {params : Arguments} {body : List Stmt} {scope : Scope} {dV kV doc pm cdv ct oc : Value} {an od : Option Addr}
    {osl : Array (Option Value)} {N ps : List Str} {sp : Sp} (lk : K.lookup f = some ⟨oc, od, .func (PySem.W.fnOf name qual params body scope dV kV doc pm an cdv ct), osl⟩) (hcd : PySem.W.codeIn K cdv qual = true) (S : FnScope N ps scope)
    (len : ∀ vs H Q E, sp vs H Q E → vs.length = ps.length)
    (hbody : ∀ (A : Around) (outer : List Env) (s : Shared) (H : Hp) (vs : List V) (Q : VK) (E : XK), Room k (A.deeper (envOfC qual scope s.heap.objs.size f cdv)) → sp vs H Q E →
      ∃ t, PSs (cxOf CX P w K mg base N qual scope f cdv A outer s H E) body t ∧ t { nx := fun _ H' => Q .non H', rt := Q } (start N vs) H) :
    FnOk P w K mg base CX (k + 1) f (PySem.W.fnOf name qual params body scope dV kV doc pm an cdv ct) ps sp := by
  refine ⟨len, fun A outer s H args us vs Q E hr e0 hb r hsp => ?_⟩
  have hl := len _ _ _ _ hsp
  have KX : K.In s.heap := e0.mod.kin.keeps fun b o e => (e0.bs b o e).1
  have lim : s.heap.NoLimit := e0.mod.nolimit.keeps fun b o e => (e0.bs b o e).1
  have hkind : ∀ y ∈ ps.zip us, scope.names.lookup y.1 = some .local ∨ (scope.names.lookup y.1 = some .cell ∧ ((cellsFrom (s.heap.objs.size + 1) scope.names []).lookup y.1).isSome = true) := fun ⟨n, v⟩ hy => by
    rcases S.par n (List.of_mem_zip hy).1 with q | q
    · exact .inl q
    · exact .inr ⟨q, PySem.W.cellsFrom_some _ _ _ (.inl q)⟩
  refine codeAny_call_function hr.depth (KX _ _ lk) rfl S.co S.gen rfl (PySem.W.codeRec_of KX hcd) (hb _ _ _ _ ?_)
  refine wpAny_newFunctionEnv_cells S.kind hkind fun env he s1 x => ?_
  subst he
  refine ⟨lim.keeps x.toInCall.keep, codeAny_func ?_⟩
  obtain ⟨t, ht, hq⟩ := hbody A outer s H vs Q E (hr.deeper _) hsp
  have I : Inv (cxOf CX P w K mg base N qual scope f cdv A outer s H E) [] (start N vs) H s1 := inv_start S hr.hd e0 hl r x
  refine wpAny_mono (ht [] s1 (start N vs) H _ I hq) (fun fl s' hs => ?_) fun e s' hs => hs
  have fin : ∀ {σ' : St} {H' : Hp} {v : V} {u : Value}, Inv (cxOf CX P w K mg base N qual scope f cdv A outer s H E) [] σ' H' s' → RelV v u → Q v H' → CE outer P w H s Q u s' :=
    fun {σ' H' v u} J rv q => ⟨v, H', J.os, J.bare, J.base, J.hok, rv, q⟩
  cases fl with
  | ret u =>
    obtain ⟨v, σ', H', J, rv, q⟩ := hs
    exact fin J rv q
  | next =>
    obtain ⟨σ', H', J, q⟩ := hs
    exact fin (v := V.non) (u := Value.none) J rfl q
  | brk =>
    obtain ⟨_, _, _, q⟩ := hs
    exact False.elim q
  | cont =>
    obtain ⟨_, _, _, q⟩ := hs
    exact False.elim q
end L2

namespace L2
open PySem PySem.Spec PyProof.Rows
section
variable {X : Cx} {x : Str} {p pos : Pos} {e : Expr} {es : List Expr} {t : TA} {id T : String} {r : List V → Hp → VK → Prop}

def tCB (r : List V → Hp → VK → Prop) (t : TA) : TE := fun σ H Q => t σ H fun vs H1 => r vs H1 Q
/-- f(e, ..), f a built-in function -/
theorem pe_callB (hc : CallR X (.builtin id) r) (hg : Gl X x) (hm : X.mg x = none) (hv : bootBuiltins x = some (.builtin id)) (ha : PA X (e :: es) t) (hn : x ≠ "__name__" := by decide) (hdb : (x == ("__debug__" : Str)) = false := by decide)
    (he : starEach (e :: es) X.env = (false, eval e X.env) :: starEach es X.env := by rfl) (hpl : (backTo pos (starEach es X.env)).any (·.1) = false := by rfl) : PE X (.Call (.Name x p) (e :: es) [] pos) (tCB r t) := by
  intro pins s σ H Q I h
  refine wpAny_Call_Name_kw (ld_blt I hg hm hv ?_ hn hdb)
  exact PyProof.Rows.callWith_builtin1 (thn (ha pos pins s σ H _ I h) fun us s1 ⟨vs, H1, I1, r1, q1⟩ => hc pins s1 σ H1 vs us Q I1 r1 q1) he hpl
/-- T(e, ..), T a built-in type -/
theorem pe_callTy (hc : CallR X (.type T) r) (hg : Gl X x) (hm : X.mg x = none) (hv : bootBuiltins x = some (.type T)) (ha : PA X (e :: es) t) (hn : x ≠ "__name__" := by decide) (hdb : (x == ("__debug__" : Str)) = false := by decide)
    (he : starEach (e :: es) X.env = (false, eval e X.env) :: starEach es X.env := by rfl) (hpl : (backTo pos (starEach es X.env)).any (·.1) = false := by rfl) : PE X (.Call (.Name x p) (e :: es) [] pos) (tCB r t) := by
  intro pins s σ H Q I h
  refine wpAny_Call_Name_kw (ld_blt I hg hm hv ?_ hn hdb)
  exact PyProof.Rows.callWith_type1 (thn (ha pos pins s σ H _ I h) fun us s1 ⟨vs, H1, I1, r1, q1⟩ => hc pins s1 σ H1 vs us Q I1 r1 q1) he hpl
end
end L2

namespace HT
open PySem PyProof.Rows

section
open PySem.SeqAt
open PySem.AutoSeq1 (wpAny_loadPart')
open PySem.MeetsSeq PySem.MeetsSeq2 PySem.MeetsSeq3

end

section
variable {prog : Program} {w : World} {A : Around} {E : Value → Shared → Prop} {s : Shared}

/-- t + u, t not empty -/
theorem cat_tup {t b : Addr} {vs ws : List Value} {Q : Value → Shared → Prop} (ht : IsTup s.heap t vs.toArray) (hb : IsTup s.heap b ws.toArray) (hv : vs ≠ [])
    (h1 : ws = [] → Q (.ref t) s) (h2 : ws ≠ [] → Q (.ref s.heap.objs.size) { s with heap := s.heap.push { cls := .type "tuple", data := .seq (vs ++ ws).toArray } })
    (hsz : vs.length + ws.length ≤ sizeLine) : wpAny (model prog w) A (binaryOp .Add (.ref t) (.ref b)) Q E s := by
  obtain ⟨⟨cls, dd, data, sl⟩, ho, hc, n, hd⟩ := id ht
  obtain ⟨⟨cls2, dd2, data2, sl2⟩, ho2, hc2, n2, hd2⟩ := id hb
  simp only at hc hd hc2 hd2
  subst hc hd hc2 hd2
  have e : vs.toArray ++ ws.toArray = (vs ++ ws).toArray := by simp
  by_cases hw : ws = []
  · exact concat_meets ⟨_, ho, rfl⟩ ⟨_, ho2, rfl⟩ noFill_tuple_add seq_tuple_add PySem.F.slot_tuple_add PySem.F.entry_tuple_add (PySem.F.args_tuple_add_2 _ _)
      (tuple_addW1 t b vs.toArray ws.toArray n n2 dd dd2 sl sl2 (by simpa using hv) (by simp [hw])) ⟨ho, ho2, h1 hw⟩
  · refine concat_meets ⟨_, ho, rfl⟩ ⟨_, ho2, rfl⟩ noFill_tuple_add seq_tuple_add PySem.F.slot_tuple_add PySem.F.entry_tuple_add (PySem.F.args_tuple_add_2 _ _)
      (tuple_addW2 t b vs.toArray ws.toArray n n2 dd dd2 sl sl2 (by simpa using hv) (by simpa using hw) (by rw [List.size_toArray, List.size_toArray]; exact hsz)) ⟨ho, ho2, ?_⟩
    rw [e]
    exact h2 hw

/-! ### t[a:b], not the whole -/
/-- a slice's bound as a place among n (d where it is left out) -/
def sIx (n d : Nat) : Option Int → Nat
  | none => d
  | some v => if v < 0 then (v + (n : Int)).toNat else min v.toNat n
theorem sIx_le (n d : Nat) (hd : d ≤ n) (o : Option Int) : sIx n d o ≤ n := by
  cases o with
  | none => exact hd
  | some v =>
    show (if v < 0 then (v + (n : Int)).toNat else min v.toNat n) ≤ n
    by_cases hv : v < 0
    · rw [if_pos hv]; omega
    · rw [if_neg hv]; exact Nat.min_le_right _ _
theorem clip_eq (v : Int) (n d : Nat) : (if v < 0 then max (v + (n : Int)) 0 else min v (n : Int)) = ((sIx n d (some v) : Nat) : Int) := by
  show (if v < 0 then max (v + (n : Int)) 0 else min v (n : Int)) = (((if v < 0 then (v + (n : Int)).toNat else min v.toNat n) : Nat) : Int)
  by_cases hv : v < 0
  · simp only [if_pos hv]; omega
  · simp only [if_neg hv]; omega
theorem adjust_gen (lo hi : Option Int) (n : Nat) : Builtin.Slice.sliceAdjust lo hi 1 (n : Int) = (((sIx n 0 lo : Nat) : Int), ((sIx n n hi : Nat) : Int)) := by
  have h1 : ¬ ((1 : Int) < 0) := by omega
  unfold Builtin.Slice.sliceAdjust
  simp only [h1, if_false]
  refine Prod.ext ?_ ?_
  · cases lo with
    | none => rfl
    | some v => exact clip_eq v n 0
  · cases hi with
    | none => rfl
    | some v => exact clip_eq v n n
theorem places_gen (i j : Nat) : Builtin.Slice.slicePlaces (i : Int) (j : Int) 1 = j - i := by
  unfold Builtin.Slice.slicePlaces
  have h1 : (1 : Int) > 0 := by omega
  simp only [h1, if_true, Int.ediv_one]
  split <;> omega
theorem slicePart_ {v : Value} {o : Option Int} {Q : Option Int → Shared → Prop} (p : IsPart v o) (h : Q o s) : wpAny (model prog w) A (Builtin.Slice.slicePartIndex v) Q E s := by
  cases p with
  | none => exact slicePart_none h
  | int i t => exact slicePart_int h
theorem sliceApplied_gen {sl : Addr} {vl vu : Value} {lo hi : Option Int} {n : Nat} {Q : Int × Int × Nat → Shared → Prop} (hs : s.heap.IsSliceOf sl vl vu .none) (pl : IsPart vl lo) (pu : IsPart vu hi)
    (h : Q (((sIx n 0 lo : Nat) : Int), 1, sIx n n hi - sIx n 0 lo) s) : wpAny (model prog w) A (Builtin.Slice.sliceApplied (.ref sl) (pure (n : Int))) Q E s := by
  obtain ⟨os, hos, hcs, hds⟩ := id hs
  unfold Builtin.Slice.sliceApplied Builtin.Slice.sliceFields
  refine wpAny_bind (wpAny_bind (wpAny_field hos hds (x := vl) rfl (wpAny_bind (wpAny_field hos hds (x := vu) rfl (wpAny_bind (wpAny_field hos hds (x := .none) rfl (wpAny_pure ?_)))))))
  refine wpAny_bind (slicePart_none ?_)
  show wpAny _ _ (if ((1 : Int) == 0) = true then _ else _) _ _ s
  rw [if_neg (by decide)]
  refine wpAny_bind (slicePart_ pl (wpAny_bind (slicePart_ pu (wpAny_bind (wpAny_pure ?_)))))
  show wpAny _ _ (match Builtin.Slice.sliceAdjust lo hi 1 (n : Int) with | (lo, hi) => pure (lo, (1 : Int), Builtin.Slice.slicePlaces lo hi 1)) _ _ s
  rw [adjust_gen lo hi n]
  show wpAny _ _ (pure (((sIx n 0 lo : Nat) : Int), (1 : Int), Builtin.Slice.slicePlaces ((sIx n 0 lo : Nat) : Int) ((sIx n n hi : Nat) : Int) 1)) _ _ s
  rw [places_gen]
  exact wpAny_pure h
theorem pick_gen (xs : Array Value) (i k : Nat) : ((List.range k).filterMap fun (m : Nat) => xs[((i : Int) + (m : Int) * 1).toNat]?).toArray = ((xs.toList.drop i).take k).toArray := by
  have e : (fun (m : Nat) => xs[((i : Int) + (m : Int) * 1).toNat]?) = fun m => xs[i + m]? := by
    funext m
    have : ((i : Int) + (m : Int) * 1).toNat = i + m := by omega
    rw [this]
  rw [e]
  have := pick_run xs i k
  rw [List.filterMap_map] at this
  have e2 : ((fun x => xs[x]?) ∘ fun x => i + x) = fun m => xs[i + m]? := rfl
  rw [e2] at this
  rw [this]

theorem getItem_tuple_cut {t sl : Addr} {items : Array Value} {vl vu : Value} {lo hi : Option Int} {Q : Value → Shared → Prop} (ht : IsTup s.heap t items) (hs : s.heap.IsSliceOf sl vl vu .none) (pl : IsPart vl lo) (pu : IsPart vu hi)
    (hw : ¬ (sIx items.size 0 lo = 0 ∧ sIx items.size items.size hi = items.size))
    (h : Q (.ref s.heap.objs.size) { s with heap := s.heap.push { cls := .type "tuple", data := .seq ((items.toList.drop (sIx items.size 0 lo)).take (sIx items.size items.size hi - sIx items.size 0 lo)).toArray } })
    (hsz : items.size ≤ sizeLine) : wpAny (model prog w) A (getItem (.ref t) (.ref sl)) Q E s := by
  have htake : sizeOk (.seq ((items.toList.drop (sIx items.size 0 lo)).take (sIx items.size items.size hi - sIx items.size 0 lo)).toArray) := by
    show ((items.toList.drop (sIx items.size 0 lo)).take (sIx items.size items.size hi - sIx items.size 0 lo)).toArray.size ≤ sizeLine
    rw [List.size_toArray, List.length_take, List.length_drop, Array.length_toList]
    omega
  have hj : sIx items.size items.size hi ≤ items.size := sIx_le _ _ (Nat.le_refl _) hi
  obtain ⟨os, hos, hcs, hds⟩ := id hs
  have hTs : s.TypeIs (.ref sl) "slice" := ⟨os, hos, hcs⟩
  unfold getItem
  try with_reducible refine wpAny_holding ?_
  first | refine wpAny_bind (wpAny_pure ?_) | skip
  refine wpAny_bind (wpAny_sequenceKey ht.typeIs (by decide) ?_)
  refine wpAny_bind (wpAny_callSpecial?_slot (name := Str.ofString "__getitem__") ht.typeIs PyProof.Rows.slot_tuple_getitem
    (wpAny_call_entry PyProof.Rows.slot_tuple_getitem ht.typeIs entry_tuple_getitem ?_ (args_tuple_getitem _ _)))
  show wpAny _ _ (Builtin.Tuple.tupleItemsOf (.ref t) >>= _) _ _ s
  refine wpAny_bind (tupleItemsOf_ ht ?_)
  refine wpAny_bind (wpAny_typeOf hTs ?_)
  rw [if_pos (by decide)]
  refine wpAny_bind (sliceApplied_gen hs pl pu ?_)
  have hno : ¬ ((((sIx items.size 0 lo : Nat) : Int) == 0 && (1 : Int) == 1 && (sIx items.size items.size hi - sIx items.size 0 lo) == items.size) = true) := by
    intro q
    rw [Bool.and_eq_true, Bool.and_eq_true] at q
    have q1 : ((sIx items.size 0 lo : Nat) : Int) = 0 := eq_of_beq q.1.1
    have q2 : sIx items.size items.size hi - sIx items.size 0 lo = items.size := eq_of_beq q.2
    exact hw ⟨by omega, by omega⟩
  show wpAny _ _ (if (((sIx items.size 0 lo : Nat) : Int) == 0 && (1 : Int) == 1 && (sIx items.size items.size hi - sIx items.size 0 lo) == items.size) = true then _ else _) _ _ s
  rw [if_neg hno, pick_gen]
  first
    | exact wpAny_bind (m := Builtin.Tuple.tupleExact _) (wpAny_newObj_type (wpAny_pure ⟨_, rfl, wpAny_pure h⟩) htake)
    | exact wpAny_bind (m := Builtin.Tuple.tupleExact _) (wpAny_newObj_type (wpAny_bind (wpAny_pure (wpAny_pure ⟨_, rfl, wpAny_pure h⟩))) htake)
    | exact wpAny_bind (wpAny_bind (m := Builtin.Tuple.tupleExact _) (wpAny_newObj_type (wpAny_pure (wpAny_pure ⟨_, rfl, wpAny_pure h⟩)) htake))
    | exact wpAny_bind (wpAny_bind (m := Builtin.Tuple.tupleExact _) (wpAny_newObj_type (wpAny_pure ⟨_, rfl, wpAny_pure h⟩) htake))
end
end HT

namespace L2
open PySem PySem.Spec PyProof.Rows

/-! ### the parts of a slice -/
abbrev TO := St → Hp → (Option Int → Hp → Prop) → Prop
/-- a slice's part (left out, or an int) -/
def PO (X : Cx) (e : Option Expr) (t : TO) : Prop :=
  ∀ (pins : List (Addr × Obj)) (s : Shared) (σ : St) (H : Hp) (Q : Option Int → Hp → Prop), Inv X pins σ H s → t σ H Q →
    wpAny (model X.prog X.w) X.A (evalPart e X.env) (fun u s' => ∃ o H', Inv X pins σ H' s' ∧ IsPart u o ∧ Q o H') X.xe s
def tNoPart : TO := fun _ H Q => Q none H
def tPart (t : TE) : TO := fun σ H Q => t σ H fun x H1 => ∃ i, x = .int i ∧ Q (some i) H1

section
variable {X : Cx} {e : Expr} {te : TE} {lo hi : Option Expr} {tl th : TO} {pos p2 : Pos}

theorem po_none : PO X none tNoPart := by
  intro pins s σ H Q I h
  rw [evalPart_none]
  exact wpAny_pure ⟨none, H, I, .none, h⟩
theorem po_some (h : PE X e te) : PO X (some e) (tPart te) := by
  intro pins s σ H Q I hw
  rw [evalPart_some]
  refine thn (h pins s σ H _ I hw) fun u s1 ⟨x, H1, I1, r1, q1⟩ => ?_
  obtain ⟨i, rfl, q⟩ := q1
  obtain ⟨t, rfl⟩ := r1
  exact ⟨some i, H1, I1, .int i t, q⟩

/-- what a slice of a value is, by values: the slice object stands at sl -/
def SlR (X : Cx) (r : V → Option Int → Option Int → Hp → VK → Prop) : Prop :=
  ∀ (pins : List (Addr × Obj)) (s : Shared) (σ : St) (H : Hp) (x : V) (v vl vu : Value) (lo hi : Option Int) (sl : Addr) (Q : VK), Inv X pins σ H s → RelV x v → s.heap.IsSliceOf sl vl vu .none → IsPart vl lo → IsPart vu hi → r x lo hi H Q →
    ∃ T id, typeLookup (.type T) "__getitem__" = pure (some (.builtin id)) ∧ s.TypeIs v T ∧ wpAny (model X.prog X.w) X.A (getItem v (.ref sl)) (EP X pins σ Q) X.xe s
theorem SlR.or {r r' : V → Option Int → Option Int → Hp → VK → Prop} (h : SlR X r) (h' : SlR X r') : SlR X (fun x lo hi H Q => r x lo hi H Q ∨ r' x lo hi H Q) := by
  intro pins s σ H x v vl vu lo hi sl Q I rx hs pl pu q
  rcases q with q | q
  · exact h pins s σ H x v vl vu lo hi sl Q I rx hs pl pu q
  · exact h' pins s σ H x v vl vu lo hi sl Q I rx hs pl pu q
def tSl (r : V → Option Int → Option Int → Hp → VK → Prop) (te : TE) (tl th : TO) : TE := fun σ H Q => te σ H fun x H1 => tl σ H1 fun l H2 => th σ H2 fun u H3 => r x l u H3 Q
/-- a[lo:hi], any a -/
theorem pe_slice {r : V → Option Int → Option Int → Hp → VK → Prop} (hr : SlR X r) (he : PE X e te) (hl : PO X lo tl) (hu : PO X hi th) : PE X (.Subscript e (.Slice lo hi none p2) pos) (tSl r te tl th) := by
  intro pins s σ H Q I h
  refine Subscript_ (thn (he pins s σ H _ I h) fun v s1 ⟨x, H1, I1, r1, q1⟩ => ?_)
  refine wpAny_Slice (thn (hl pins s1 σ H1 _ I1 q1) fun vl s2 ⟨l, H2, I2, pl, q2⟩ => thn (hu pins s2 σ H2 _ I2 q2) fun vu s3 ⟨u, H3, I3, pu, q3⟩ => ?_)
  rw [evalPart_none]
  refine wpAny_pure ?_
  have I4 : Inv X pins σ H3 { s3 with heap := s3.heap.push { cls := .type "slice", data := .fields #[vl, vu, .none] } } := I3.kept (t' := s3.toks) fun b ob q => Heap.get?_push_of_some _ q
  obtain ⟨T, id, hT, ht, hg⟩ := hr pins { s3 with heap := s3.heap.push { cls := .type "slice", data := .fields #[vl, vu, .none] } } σ H3 x v vl vu l u s3.heap.objs.size Q I4 r1 (Heap.IsSliceOf.new ..) pl pu q3
  show wpAny (model X.prog X.w) X.A (subscriptTail e (.Slice lo hi none p2) v (.ref s3.heap.objs.size)) (EP X pins σ Q) X.xe { s3 with heap := s3.heap.push { cls := .type "slice", data := .fields #[vl, vu, .none] } }
  exact tail_any (ops := [.ref s3.heap.objs.size, v]) ht hT hg (by with_unfolding_all rfl)

/-- the items of xs[lo:hi] -/
def cutV (xs : List V) (lo hi : Option Int) : List V := (xs.drop (HT.sIx xs.length 0 lo)).take (HT.sIx xs.length xs.length hi - HT.sIx xs.length 0 lo)
theorem cutV_length (xs : List V) (lo hi : Option Int) : (cutV xs lo hi).length ≤ xs.length := by
  unfold cutV
  rw [List.length_take, List.length_drop]
  omega
/-- t[lo:hi], not the whole of it (the whole would be t itself) -/
def rSlT (K : PySem.W.Frag) : V → Option Int → Option Int → Hp → VK → Prop := fun x lo hi H Q => ∃ a xs, x = .ref a ∧ SqT K H a xs ∧
  ¬ (HT.sIx xs.length 0 lo = 0 ∧ HT.sIx xs.length xs.length hi = xs.length) ∧ ∀ p, H p = none → Q (.ref p) (upd H p (.tup (cutV xs lo hi)))
theorem sl_tup : SlR X (rSlT X.K) := by
  intro pins s σ H x v vl vu lo hi sl Q I rx hs pl pu h
  obtain ⟨a, xs, rfl, hx, hw, q⟩ := h
  cases rx
  obtain ⟨its, r, ht, hz⟩ := I.tuple hx
  have hlen : its.toArray.size = xs.length := by rw [List.size_toArray]; exact r.length.symm
  refine ⟨"tuple", _, PyProof.Rows.slot_tuple_getitem.lookup, ht.typeIs, ?_⟩
  refine HT.getItem_tuple_cut ht hs pl pu (by rw [hlen]; exact hw) ?_ (by rw [hlen]; exact hz)
  rw [hlen]
  refine ⟨.ref s.heap.objs.size, _, I.laid (t' := s.toks) (o := .tup (cutV xs lo hi)) (fun b ob q => Heap.get?_push_of_some _ q) (Nat.le_refl _) ?_, rfl, q _ (I.hok.fresh (Nat.le_refl _))⟩
  exact ⟨Nat.le_trans (cutV_length xs lo hi) hz, _, (r.drop (HT.sIx xs.length 0 lo)).take (HT.sIx xs.length xs.length hi - HT.sIx xs.length 0 lo), IsTup.new _ _⟩

/-! ### t < u, t + u -/
/-- t + u, t not empty: u empty gives t itself -/
def rCatT (K : PySem.W.Frag) : R2 := fun x y H Q => ∃ a b xs ys, x = .ref a ∧ y = .ref b ∧ SqT K H a xs ∧ SqT K H b ys ∧ xs ≠ [] ∧ xs.length + ys.length ≤ sizeLine ∧
  (ys = [] → Q (.ref a) H) ∧ (ys ≠ [] → ∀ p, H p = none → Q (.ref p) (upd H p (.tup (xs ++ ys))))
theorem Vals.nil_iff {xs : List V} {us : List Value} (r : Vals xs us) : us = [] ↔ xs = [] := by
  cases r with
  | nil => simp
  | cons _ _ => simp
theorem op_catT : OpR X (binaryOp .Add) (rCatT X.K) := by
  intro pins s σ H x y v u Q I rx ry h
  obtain ⟨a, b, xs, ys, rfl, rfl, ha, hb, hx, hz, q1, q2⟩ := h
  cases rx
  cases ry
  obtain ⟨its, r1, p1, _⟩ := I.tuple ha
  obtain ⟨its2, r2, p2, _⟩ := I.tuple hb
  refine HT.cat_tup p1 p2 (fun z => hx (r1.nil_iff.mp z)) (fun z => ⟨.ref a, H, I, rfl, q1 (r2.nil_iff.mp z)⟩) (fun z => ?_) (by rw [← r1.length, ← r2.length]; exact hz)
  refine ⟨.ref s.heap.objs.size, _, I.laid (t' := s.toks) (o := .tup (xs ++ ys)) (fun b ob q => Heap.get?_push_of_some _ q) (Nat.le_refl _) ?_, rfl, q2 (fun w => z (r2.nil_iff.mpr w)) _ (I.hok.fresh (Nat.le_refl _))⟩
  exact ⟨by rw [List.length_append]; exact hz, _, r1.append r2, IsTup.new _ _⟩
end
end L2

namespace L2
open PySem PySem.Spec PyProof.Rows

/-! ### places -/
/-- the place that an index of any sign means -/
def ixN (n : Nat) (i : Int) : Option Nat := if 0 ≤ i then (if i < n then some i.toNat else none) else if -(n : Int) ≤ i then some (i + n).toNat else none
def atI {α : Type} (xs : List α) (i : Int) : Option α := (ixN xs.length i).bind fun j => xs[j]?
theorem ixN_seq {n : Nat} {i : Int} {j : Nat} (h : ixN n i = some j) : seqIndex? i n = some j ∧ j < n ∧ -(n : Int) ≤ i ∧ i < n := by
  unfold ixN at h
  by_cases h0 : 0 ≤ i
  · rw [if_pos h0] at h
    by_cases h1 : i < n
    · rw [if_pos h1] at h
      have e : i.toNat = j := Option.some.inj h
      exact ⟨by rw [seqIndex_of h0 h1, e], by omega, by omega, h1⟩
    · rw [if_neg h1] at h; cases h
  · rw [if_neg h0] at h
    by_cases h1 : -(n : Int) ≤ i
    · rw [if_pos h1] at h
      have e : (i + n).toNat = j := Option.some.inj h
      exact ⟨by rw [seqIndex_neg (by omega) h1, e], by omega, h1, by omega⟩
    · rw [if_neg h1] at h; cases h
theorem atI_get {α : Type} {xs : List α} {i : Int} {v : α} (h : atI xs i = some v) : ∃ j, seqIndex? i xs.length = some j ∧ xs[j]? = some v ∧ j < xs.length ∧ -(xs.length : Int) ≤ i ∧ i < xs.length := by
  unfold atI at h
  cases e : ixN xs.length i with
  | none => rw [e] at h; cases h
  | some j =>
    rw [e] at h
    obtain ⟨h1, h2, h3, h4⟩ := ixN_seq e
    exact ⟨j, h1, h, h2, h3, h4⟩
theorem atI_nat {α : Type} {xs : List α} {j : Nat} {v : α} (h : xs[j]? = some v) : atI xs (j : Int) = some v := by
  have hj : j < xs.length := (List.getElem?_eq_some_iff.mp h).1
  have e : ixN xs.length (j : Int) = some j := by
    unfold ixN
    rw [if_pos (by omega), if_pos (by omega)]; simp
  unfold atI; rw [e]; exact h
/-! ### what may be subscripted -/
/-- what stands as an index of a plain subscript -/
def PlainIx (b : Expr) : Prop := ∀ o i, subscripted b false o i = operate [o, i] (getItem o i)
/-- a subscript by values -/
def IxR (X : Cx) (r : R2) : Prop :=
  ∀ (value slice : Expr) (pins : List (Addr × Obj)) (s : Shared) (σ : St) (H : Hp) (x y : V) (v u : Value) (Q : VK), Inv X pins σ H s → RelV x v → RelV y u → r x y H Q →
    subscripted slice false v u = operate [v, u] (getItem v u) → wpAny (model X.prog X.w) X.A (subscriptTail value slice v u) (EP X pins σ Q) X.xe s
/-- a call of a builtin's method by values: the receiver, the arguments -/
def MtR (X : Cx) (id : String) (r : V → List V → Hp → VK → Prop) : Prop :=
  ∀ (pins : List (Addr × Obj)) (s : Shared) (σ : St) (H : Hp) (x : V) (xs : List V) (v : Value) (us : List Value) (Q : VK), Inv X pins σ H s → RelV x v → Vals xs us → r x xs H Q →
    wpAny (model X.prog X.w) X.A (call (.builtin id) (v :: us)) (EP X pins σ Q) X.xe s
section
variable {X : Cx} {a b : Expr} {ta tb : TE} {pos : Pos}
theorem IxR.or {r r' : R2} (h : IxR X r) (h' : IxR X r') : IxR X (fun x y H Q => r x y H Q ∨ r' x y H Q) := by
  intro value slice pins s σ H x y v u Q I rx ry q hs
  rcases q with q | q
  · exact h value slice pins s σ H x y v u Q I rx ry q hs
  · exact h' value slice pins s σ H x y v u Q I rx ry q hs
/-- a[b] -/
theorem pe_ix {r : R2} (hr : IxR X r) (ha : PE X a ta) (hb : PE X b tb) (hs : PlainIx b) : PE X (.Subscript a b pos) (tOp r ta tb) := by
  intro pins s σ H Q I h
  exact Subscript_ (binT ha hb I h fun v u s2 x y H2 I2 rx ry q => hr a b pins s2 σ H2 x y v u Q I2 rx ry q (hs _ _))

def rIxL (K : PySem.W.Frag) : R2 := fun x y H Q => ∃ p xs i v, x = .ref p ∧ y = .int i ∧ SqL K H p xs ∧ atI xs i = some v ∧ Q v H
def rIxT (K : PySem.W.Frag) : R2 := fun x y H Q => ∃ p xs i v, x = .ref p ∧ y = .int i ∧ SqT K H p xs ∧ atI xs i = some v ∧ Q v H
theorem ix_list : IxR X (rIxL X.K) := by
  intro value slice pins s σ H x y v u Q I rx ry h hs
  obtain ⟨p, xs, i, z, rfl, rfl, hq, he, q⟩ := h
  cases rx
  obtain ⟨t, rfl⟩ := ry
  obtain ⟨its, r, pl, hz⟩ := I.list hq
  obtain ⟨j, h1, h2, h3, h4, h5⟩ := atI_get he
  obtain ⟨w, ew, rw'⟩ := r.get h2
  have hl := r.length
  have hn := line63
  have fin : EP X pins σ Q w s := ⟨z, H, I, rw', q⟩
  by_cases h0 : 0 ≤ i
  · have hj : i.toNat = j := by
      rw [seqIndex_of h0 h5] at h1
      exact Option.some.inj h1
    exact item_listR pl.isList h0 (by omega) (by rw [hj]; simpa using ew) fin hs
  · have hj : (i + (its.toArray.size : Int)).toNat = j := by
      rw [seqIndex_neg (by omega) h4] at h1
      rw [List.size_toArray, ← hl]
      exact Option.some.inj h1
    exact subscriptTail_builtinR (x := w) pl.isList.typeIs slot_list_getitem.lookup
      (wpAny_getItem_list_neg (Q := fun r s' => r = w ∧ EP X pins σ Q r s') pl.isList (by omega) (by rw [List.size_toArray] <;> omega) (by omega) (by rw [hj]; simpa using ew) ⟨rfl, fin⟩) hs
theorem ix_tup : IxR X (rIxT X.K) := by
  intro value slice pins s σ H x y v u Q I rx ry h hs
  obtain ⟨p, xs, i, z, rfl, rfl, hq, he, q⟩ := h
  cases rx
  obtain ⟨t, rfl⟩ := ry
  obtain ⟨its, r, pl, hz⟩ := I.tuple hq
  obtain ⟨j, h1, h2, h3, h4, h5⟩ := atI_get he
  obtain ⟨w, ew, rw'⟩ := r.get h2
  have hl := r.length
  have hn := line63
  have fin : EP X pins σ Q w s := ⟨z, H, I, rw', q⟩
  exact subscriptTail_builtinR (x := w) pl.typeIs slot_tuple_getitem.lookup
    (getItem_tuple (j := j) (Q := fun r s' => r = w ∧ EP X pins σ Q r s') pl (by omega) (by omega) (by rw [List.size_toArray, ← hl]; exact h1) (by simpa using ew) ⟨rfl, fin⟩) hs
/-! ### xs[i] = v, any sign -/
/-- the list's object behind a store -/
theorem mapSeq_set (its : List Value) (n j : Nat) (u : Value) : Obj.mapSeq (·.setIfInBounds j u) { cls := .type "list", data := .seq its.toArray n } = { cls := .type "list", data := .seq (its.set j u).toArray n } := by
  simp [Obj.mapSeq]
theorem Inv.lst {pins : List (Addr × Obj)} {σ : St} {H : Hp} {s : Shared} {p : Addr} {xs : List V} (I : Inv X pins σ H s) (h : H p = some (.lst xs)) :
    ∃ (its : List Value) (n : Nat), Vals xs its ∧ s.heap.get? p = some { cls := .type "list", data := .seq its.toArray n } ∧ xs.length ≤ sizeLine := by
  obtain ⟨z, its, n, r, e⟩ := I.hok p _ h
  exact ⟨its, n, r, e, z⟩
/-- the list at p is written by an update of its object -/
theorem Inv.lstUpd {pins : List (Addr × Obj)} {σ : St} {H : Hp} {s : Shared} {p : Addr} {xs ys : List V} {its its' : List Value} {n n' : Nat} {f : Obj → Obj} (I : Inv X pins σ H s) (h : H p = some (.lst xs))
    (ho : s.heap.get? p = some { cls := .type "list", data := .seq its.toArray n }) (hf : f { cls := .type "list", data := .seq its.toArray n } = { cls := .type "list", data := .seq its'.toArray n' }) (r : Vals ys its') (hz : ys.length ≤ sizeLine) (t : Nat) :
    Inv X pins σ (upd H p (.lst ys)) { s with heap := s.heap.update p f, toks := t } := by
  have e : (s.heap.update p f).get? p = some { cls := .type "list", data := .seq its'.toArray n' } := by
    rw [Heap.get?_update_self f ho (by rw [hf] <;> rfl), hf]
  refine I.write (x := p) (e := p) (by rw [h]; trivial) (.inl rfl) (fun b u hb q => (Heap.get?_update_other _ _ (Ne.symm hb)).trans q) ⟨_, e⟩ ?_
  exact ⟨hz, its', n', r, e⟩
def rSetL : V → V → V → Hp → (Hp → Prop) → Prop := fun o i v H Q => ∃ p xs k j, o = .ref p ∧ i = .int k ∧ H p = some (.lst xs) ∧ ixN xs.length k = some j ∧ Q (upd H p (.lst (xs.set j v)))
theorem set_list : PSet X rSetL := by
  intro pins s σ H o i v ov iv u Q I ro ri rv h
  obtain ⟨p, xs, k, j, rfl, rfl, hp, hj, q⟩ := h
  cases ro
  obtain ⟨t, rfl⟩ := ri
  obtain ⟨its, n, r, ho, hz⟩ := I.lst hp
  obtain ⟨h1, h2, h3, h4⟩ := ixN_seq hj
  have hl := r.length
  have hn := line63
  have I' : Inv X pins σ (upd H p (.lst (xs.set j v))) { s with heap := s.heap.update p (Obj.mapSeq (·.setIfInBounds j u)) } :=
    I.lstUpd hp ho (mapSeq_set its n j u) (r.set rv j) (by rw [List.length_set]; exact hz) s.toks
  by_cases h0 : 0 ≤ k
  · have hk : k.toNat = j := by
      rw [seqIndex_of h0 h4] at h1
      exact Option.some.inj h1
    exact PySem.W.ki_setAt ho h0 (by omega) (by rw [List.size_toArray, ← hl]; exact h4) (by rw [hk]; exact ⟨_, I', q⟩)
  · have hk : (k + (its.toArray.size : Int)).toNat = j := by
      rw [seqIndex_neg (by omega) h3] at h1
      rw [List.size_toArray, ← hl]
      exact Option.some.inj h1
    exact PySem.W.ki_setBack ho (by omega) (by rw [List.size_toArray, ← hl]; exact h3) (by omega) (by rw [hk]; exact ⟨_, I', q⟩)

/-! ### slices -/
theorem slice_bounds (lo hi : Option Int) (n : Nat) : (sliceBounds lo hi none n).1 = ((HT.sIx n 0 lo : Nat) : Int) ∧ (sliceBounds lo hi none n).2.1 = ((HT.sIx n n hi : Nat) : Int) ∧ (sliceBounds lo hi none n).2.2 = 1 := by
  refine ⟨?_, ?_, rfl⟩
  · cases lo with
    | none => simp [sliceBounds, HT.sIx]
    | some i =>
      simp only [sliceBounds, HT.sIx, Option.getD_none, show (1 : Int) > 0 by decide, if_true]
      by_cases h : i < 0
      · simp only [h, if_true] <;> omega
      · simp only [h, if_false] <;> omega
  · cases hi with
    | none => simp [sliceBounds, HT.sIx]
    | some i =>
      simp only [sliceBounds, HT.sIx, Option.getD_none, show (1 : Int) > 0 by decide, if_true]
      by_cases h : i < 0
      · simp only [h, if_true] <;> omega
      · simp only [h, if_false] <;> omega
theorem slicePick_cut (its : List Value) (lo hi : Option Int) : slicePick its.toArray lo hi none = ((its.drop (HT.sIx its.length 0 lo)).take (HT.sIx its.length its.length hi - HT.sIx its.length 0 lo)).toArray := by
  obtain ⟨h1, h2, h3⟩ := slice_bounds lo hi its.toArray.size
  unfold slicePick
  rw [h1, h2, h3]
  simp only [sliceRange_one, pick_run, List.size_toArray] <;> rfl
/-- xs[lo:hi] of a list: a new list -/
def rSlL (K : PySem.W.Frag) : V → Option Int → Option Int → Hp → VK → Prop := fun x lo hi H Q => ∃ a xs, x = .ref a ∧ SqL K H a xs ∧ ∀ p, H p = none → Q (.ref p) (upd H p (.lst (cutV xs lo hi)))
theorem sl_list : SlR X (rSlL X.K) := by
  intro pins s σ H x v vl vu lo hi sl Q I rx hs pl pu h
  obtain ⟨a, xs, rfl, hx, q⟩ := h
  cases rx
  obtain ⟨its, r, ht, hz⟩ := I.list hx
  have hlen := r.length
  refine ⟨"list", _, slot_list_getitem.lookup, ht.isList.typeIs, ?_⟩
  refine wpAny_getItem_list_slice ht.isList hs pl pu .none (by simp) ?_ (by rw [List.size_toArray] <;> omega)
  rw [slicePick_cut, ← hlen]
  refine ⟨.ref s.heap.objs.size, _, I.laid (t' := s.toks) (o := .lst (cutV xs lo hi)) (fun b ob q => Heap.get?_push_of_some _ q) (Nat.le_refl _) ?_, rfl, q _ (I.hok.fresh (Nat.le_refl _))⟩
  exact ⟨Nat.le_trans (cutV_length xs lo hi) hz, _, 0, (r.drop (HT.sIx xs.length 0 lo)).take (HT.sIx xs.length xs.length hi - HT.sIx xs.length 0 lo), Heap.get?_push_size _ rfl⟩

/-! ### in, not in: flat items -/
def flatV : V → Bool
  | .non => true
  | .bl _ => true
  | .int _ => true
  | .str _ => true
  | _ => false
/-- == of flat values -/
def eqV : V → V → Bool
  | .non, .non => true
  | .bl a, .bl b => a == b
  | .bl a, .int b => (if a then 1 else 0) == b
  | .int a, .bl b => a == (if b then 1 else 0)
  | .int a, .int b => a == b
  | .str a, .str b => a == b
  | _, _ => false
theorem eqAt_V {A : Around} {s : Shared} {y x : V} {u v : Value} (ry : RelV y u) (rx : RelV x v) (fy : flatV y = true) (fx : flatV x = true) : SeqAt.EqAt A s u v (eqV y x) := by
  cases y with
  | non =>
    cases ry
    cases x with
    | non => cases rx; exact SeqAt.EqAt.same _
    | bl b => cases rx; exact SeqAt.EqAt.none_bool b
    | int b => obtain ⟨t, rfl⟩ := rx; exact SeqAt.EqAt.none_int b t
    | str b => obtain ⟨t, rfl⟩ := rx; exact SeqAt.EqAt.none_str b t
    | _ => exact absurd (show false = true from fx) Bool.false_ne_true
  | bl a =>
    cases ry
    cases x with
    | non => cases rx; exact SeqAt.EqAt.bool_none a
    | bl b => cases rx; exact SeqAt.EqAt.bool_bool a b
    | int b => obtain ⟨t, rfl⟩ := rx; exact SeqAt.EqAt.bool_int a b t
    | str b => obtain ⟨t, rfl⟩ := rx; exact SeqAt.EqAt.bool_str a b t
    | _ => exact absurd (show false = true from fx) Bool.false_ne_true
  | int a =>
    obtain ⟨t', rfl⟩ := ry
    cases x with
    | non => cases rx; exact SeqAt.EqAt.int_none a t'
    | bl b => cases rx; exact SeqAt.EqAt.int_bool a t' b
    | int b => obtain ⟨t, rfl⟩ := rx; exact SeqAt.EqAt.int_int a t' b t
    | str b => obtain ⟨t, rfl⟩ := rx; exact SeqAt.EqAt.int_str a t' b t
    | _ => exact absurd (show false = true from fx) Bool.false_ne_true
  | str a =>
    obtain ⟨t', rfl⟩ := ry
    cases x with
    | non => cases rx; exact SeqAt.EqAt.str_none a t'
    | bl b => cases rx; exact SeqAt.EqAt.str_bool a t' b
    | int b => obtain ⟨t, rfl⟩ := rx; exact SeqAt.EqAt.str_int a t' b t
    | str b => obtain ⟨t, rfl⟩ := rx; exact SeqAt.EqAt.str_str a t' b t
    | _ => exact absurd (show false = true from fx) Bool.false_ne_true
  | _ => exact absurd (show false = true from fy) Bool.false_ne_true
/-- the items' answers, read off the values (a value's own answer does not lean on its token) -/
def eqU (x : V) (u : Value) : Bool := match u with
  | .none => eqV .non x
  | .bool b => eqV (.bl b) x
  | .int i _ => eqV (.int i) x
  | .str z _ => eqV (.str z) x
  | _ => false
theorem eqU_of {x y : V} {u : Value} (r : RelV y u) (f : flatV y = true) : eqU x u = eqV y x := by
  cases y with
  | non => cases r; rfl
  | bl b => cases r; rfl
  | int i => obtain ⟨t, rfl⟩ := r; rfl
  | str z => obtain ⟨t, rfl⟩ := r; rfl
  | _ => exact absurd (show false = true from f) Bool.false_ne_true
theorem any_eqU {x : V} : ∀ {xs : List V} {us : List Value}, Vals xs us → xs.all flatV = true → us.any (eqU x) = xs.any fun y => eqV y x
  | _, _, .nil, _ => rfl
  | y :: xs, u :: us, .cons r t, f => by
    rw [List.all_cons, Bool.and_eq_true] at f
    rw [List.any_cons, List.any_cons, eqU_of r f.1, any_eqU t f.2]
theorem mem_eqAt {A : Around} {s : Shared} {x : V} {v : Value} (rx : RelV x v) (fx : flatV x = true) : ∀ {xs : List V} {us : List Value}, Vals xs us → xs.all flatV = true → ∀ u ∈ us, SeqAt.EqAt A s u v (eqU x u)
  | _, _, .nil, _ => fun u hu => by cases hu
  | y :: xs, u :: us, .cons r t, f => fun u' hu => by
    rw [List.all_cons, Bool.and_eq_true] at f
    rcases List.mem_cons.mp hu with rfl | hu
    · rw [eqU_of r f.1]; exact eqAt_V r rx f.1 fx
    · exact mem_eqAt rx fx t f.2 u' hu
def inV (x : V) (xs : List V) : Bool := xs.any fun y => eqV y x
/-- x in a list or tuple of flat items -/
def rIn (K : PySem.W.Frag) (neg : Bool) : R2 := fun x y H Q => ∃ p xs, y = .ref p ∧ (SqL K H p xs ∨ SqT K H p xs) ∧ flatV x = true ∧ xs.all flatV = true ∧ Q (.bl (if neg then !inV x xs else inV x xs)) H
theorem op_in_seq : OpR X (compareOp .In) (rIn X.K false) := by
  intro pins s σ H x y v u Q I rx ry h
  obtain ⟨p, xs, rfl, hq, fx, fs, q⟩ := h
  cases ry
  rcases hq with hq | hq
  · obtain ⟨its, r, pl, hz⟩ := I.list hq
    refine SeqAt.in_listAt (eqU x) pl.isList (fun w hw => mem_eqAt rx fx r fs w (by simpa using hw)) ⟨.bl _, H, I, rfl, ?_⟩
    rw [show its.toArray.any (eqU x) = its.any (eqU x) by simp, any_eqU r fs]
    exact q
  · obtain ⟨its, r, pl, hz⟩ := I.tuple hq
    refine SeqAt.in_tupleAt (eqU x) pl (fun w hw => mem_eqAt rx fx r fs w (by simpa using hw)) ⟨.bl _, H, I, rfl, ?_⟩
    rw [show its.toArray.any (eqU x) = its.any (eqU x) by simp, any_eqU r fs]
    exact q
theorem op_notIn_seq : OpR X (compareOp .NotIn) (rIn X.K true) := by
  intro pins s σ H x y v u Q I rx ry h
  obtain ⟨p, xs, rfl, hq, fx, fs, q⟩ := h
  cases ry
  rcases hq with hq | hq
  · obtain ⟨its, r, pl, hz⟩ := I.list hq
    refine SeqAt.notIn_listAt (eqU x) pl.isList (fun w hw => mem_eqAt rx fx r fs w (by simpa using hw)) ⟨.bl _, H, I, rfl, ?_⟩
    rw [show its.toArray.any (eqU x) = its.any (eqU x) by simp, any_eqU r fs]
    exact q
  · obtain ⟨its, r, pl, hz⟩ := I.tuple hq
    refine SeqAt.notIn_tupleAt (eqU x) pl (fun w hw => mem_eqAt rx fx r fs w (by simpa using hw)) ⟨.bl _, H, I, rfl, ?_⟩
    rw [show its.toArray.any (eqU x) = its.any (eqU x) by simp, any_eqU r fs]
    exact q
/-! ### len, list(x), tuple(x) of any list or tuple that is read -/
theorem call_len_seq : CallR X (.builtin "len") (fun xs H Q => ∃ p ys, xs = [.ref p] ∧ (SqL X.K H p ys ∨ SqT X.K H p ys) ∧ Q (.int ys.length) H) := by
  intro pins s σ H xs us Q I r h
  obtain ⟨p, ys, rfl, hq, q⟩ := h
  obtain ⟨u, rfl, rx⟩ := vals1 r
  cases rx
  have hn := line63
  rcases hq with hq | hq
  · obtain ⟨its, r', pl, hz⟩ := I.list hq
    have hlen := r'.length
    exact Calls.call_len_list pl.isList (by simp only [List.size_toArray] <;> omega) ⟨.int ys.length, H, I.tok _, ⟨s.toks + 1, by rw [List.size_toArray, hlen]⟩, q⟩
  · obtain ⟨its, r', pl, hz⟩ := I.tuple hq
    have hlen := r'.length
    exact len_tuple pl (by simp only [List.size_toArray] <;> omega) ⟨.int ys.length, H, I.tok _, ⟨s.toks + 1, by rw [List.size_toArray, hlen]⟩, q⟩
theorem call_list_of : CallR X (.type "list") (fun xs H Q => ∃ p ys, xs = [.ref p] ∧ (SqL X.K H p ys ∨ SqT X.K H p ys) ∧ ∀ l, H l = none → Q (.ref l) (upd H l (.lst ys))) := by
  intro pins s σ H xs us Q I r h
  obtain ⟨p, ys, rfl, hq, q⟩ := h
  obtain ⟨u, rfl, rx⟩ := vals1 r
  cases rx
  have fin : ∀ (its : List Value), Vals ys its → ys.length ≤ sizeLine → ∀ (h' : Heap) (c' : Nat), (∀ b o', s.heap.get? b = some o' → h'.get? b = some o') →
      h'.get? s.heap.objs.size = some { cls := .type "list", dict := none, data := .seq its.toArray c', slots := #[] } → EP X pins σ Q (.ref s.heap.objs.size) { s with heap := h' } := fun its r' hz h' c' kp e =>
    ⟨.ref s.heap.objs.size, _, I.laid (t' := s.toks) kp (Nat.le_refl _) (show ObjOk X.prog X.w _ h' _ (.lst ys) from ⟨hz, its, c', r', e⟩), rfl, q _ (I.hok.fresh (Nat.le_refl _))⟩
  rcases hq with hq | hq
  · obtain ⟨its, r', pl, hz⟩ := I.list hq
    have hlen := r'.length
    obtain ⟨o, ho, hc, n, hd⟩ := pl.isList
    exact call_list_seq p (.inl rfl) ho hc hd (fun h' c' kp e => fin its r' hz h' c' kp e) (by simp only [List.size_toArray] <;> omega)
  · obtain ⟨its, r', pl, hz⟩ := I.tuple hq
    have hlen := r'.length
    obtain ⟨o, ho, hc, n, hd⟩ := pl
    exact call_list_seq p (.inr rfl) ho hc hd (fun h' c' kp e => fin its r' hz h' c' kp e) (by simp only [List.size_toArray] <;> omega)
/-! ### the call of a builtin's method: o.m(..) -/
/-- the value is of that builtin type -/
def tyV (K : PySem.W.Frag) (T : String) (x : V) (H : Hp) : Prop := match x with
  | .str _ => T = "str"
  | .int _ => T = "int"
  | .ref p => (T = "list" ∧ ∃ xs, SqL K H p xs) ∨ (T = "tuple" ∧ ∃ o, K.lookup p = some o ∧ o.cls = .type "tuple" ∧ o.dict = none) ∨
      (T = "dict" ∧ ((∃ kvs, H p = some (.dK kvs)) ∨ ∃ kvs, H p = some (.dT kvs))) ∨ (T = "set" ∧ ∃ S n, H p = some (.set S n))
  | _ => False
theorem tyV_is {pins : List (Addr × Obj)} {σ : St} {H : Hp} {s : Shared} {T : String} {x : V} {v : Value} (I : Inv X pins σ H s) (r : RelV x v) (ty : tyV X.K T x H) :
    s.TypeIs v T ∧ ∀ a, v = .ref a → ∃ ob, s.heap.get? a = some ob ∧ ob.dict = none := by
  cases x with
  | str z =>
    obtain ⟨t, rfl⟩ := r
    cases (show T = "str" from ty)
    exact ⟨typeIs_str s z t, fun _ e => nomatch e⟩
  | int i =>
    obtain ⟨t, rfl⟩ := r
    cases (show T = "int" from ty)
    exact ⟨typeIs_int s i t, fun _ e => nomatch e⟩
  | ref p =>
    cases r
    rcases ty with ⟨rfl, xs, hq⟩ | ⟨rfl, o, hk, hc, hd⟩ | ⟨rfl, hk⟩ | ⟨rfl, S, n, hk⟩
    · obtain ⟨its, _, pl, _⟩ := I.list hq
      refine ⟨pl.isList.typeIs, fun a e => ?_⟩
      cases e
      obtain ⟨o, n, e, c, hd, _⟩ := pl
      exact ⟨o, e, hd⟩
    · refine ⟨⟨o, I.kIn p o hk, hc⟩, fun a e => ?_⟩
      cases e
      exact ⟨o, I.kIn _ o hk, hd⟩
    · have z : ∃ o, s.heap.get? p = some o ∧ o.ExactDict := by
        rcases hk with ⟨kvs, hk⟩ | ⟨kvs, hk⟩
        · obtain ⟨_, _, _, _, o, _, _, e, ex, _⟩ := I.hok p _ hk
          exact ⟨o, e, ex⟩
        · obtain ⟨_, _, _, _, o, _, _, e, ex, _⟩ := I.hok p _ hk
          exact ⟨o, e, ex⟩
      obtain ⟨o, e, ex⟩ := z
      refine ⟨⟨o, e, ex.1⟩, fun a e2 => ?_⟩
      cases e2
      exact ⟨o, e, ex.2.1⟩
    · obtain ⟨o, _, _, _, e, ex, _⟩ := I.hok p _ hk
      refine ⟨⟨o, e, ex.1⟩, fun a e2 => ?_⟩
      cases e2
      exact ⟨o, e, ex.2.1⟩
  | _ => exact False.elim ty
def tBM0 (K : PySem.W.Frag) (T : String) (r : V → List V → Hp → VK → Prop) (to : TE) : TE := fun σ H Q => to σ H fun x H1 => tyV K T x H1 ∧ r x [] H1 Q
def tBM (K : PySem.W.Frag) (T : String) (r : V → List V → Hp → VK → Prop) (to : TE) (t : TA) : TE := fun σ H Q => to σ H fun x H1 => tyV K T x H1 ∧ t σ H1 fun xs H2 => r x xs H2 Q
variable {o e : Expr} {es : List Expr} {to : TE} {t : TA} {name : Str} {apos cpos : Pos} {T id : String} {r : V → List V → Hp → VK → Prop}
theorem pe_bm0 (pa : PlainAttrs T) (slot : Slot T name id) (hty : typeOf (.builtin id) = pure (.type "method_descriptor")) (hm : MtR X id r) (ho : PE X o to)
    (hbase : attributeBase o name X.env (eval o X.env) = eval o X.env := by rfl) (hline : (apos.endLine == cpos.line) = true := by rfl) : PE X (.Call (.Attribute o name apos) [] [] cpos) (tBM0 X.K T r to) := by
  intro pins s σ H Q I h
  refine wpAny_Call_method0_late hbase hline (thn (ho pins s σ H _ I h) fun v s1 ⟨x, H1, I1, r1, ty, q1⟩ => ?_)
  obtain ⟨h1, h2⟩ := tyV_is I1 r1 ty
  exact ⟨T, id, pa, slot, hty, h1, h2, Calls.callWith_builtin rfl (PySem.evalArgs_none (hm pins s1 σ H1 x [] v [] Q I1 r1 .nil q1))⟩
theorem pe_bm (pa : PlainAttrs T) (slot : Slot T name id) (hty : typeOf (.builtin id) = pure (.type "method_descriptor")) (hm : MtR X id r) (ho : PE X o to) (ha : PA X (e :: es) t)
    (hbase : attributeBase o name X.env (eval o X.env) = eval o X.env := by rfl)
    (hfew : ((backTo cpos (starEach (e :: es) X.env)).all (fun x => !x.1) && (backToKw cpos (keywordEach [] X.env)).all (fun x => x.1.isSome)
      && decide ((e :: es).length + ([] : List Keyword).length + (if ([] : List Keyword).isEmpty then 0 else 1) < 30)) = true := by rfl)
    (hline : (apos.endLine == cpos.line) = true := by rfl) (hs : starEach (e :: es) X.env = (false, eval e X.env) :: starEach es X.env := by rfl) (hplain : (backTo cpos (starEach es X.env)).any (·.1) = false := by rfl) :
    PE X (.Call (.Attribute o name apos) (e :: es) [] cpos) (tBM X.K T r to t) := by
  intro pins s σ H Q I h
  refine wpAny_Call_method_late hbase hfew hline rfl (thn (ho pins s σ H _ I h) fun v s1 ⟨x, H1, I1, r1, ty, q1⟩ => ?_)
  obtain ⟨h1, h2⟩ := tyV_is I1 r1 ty
  refine ⟨T, id, pa, slot, hty, h1, h2, ?_⟩
  have hA := ha cpos pins s1 σ H1 _ I1 q1
  rw [hs] at hA ⊢
  refine Calls.callWith_builtin (by show (false || (backTo cpos (starEach es X.env)).any (·.1)) = false; rw [hplain] <;> rfl) (Calls.evalArgs_plain ?_)
  exact thn hA fun us s2 ⟨vs, H2, I2, r2, q2⟩ => hm pins s2 σ H2 x vs v us Q I2 r1 r2 q2
/- xs.append(e), list.index on a module's tuple .. are MtR facts of 06m -/
end
end L2

namespace L2
open PySem PySem.Spec PyProof.Rows

def MtM (X : Cx) (id : String) (r : V → List V → Hp → VK → Prop) : Prop :=
  ∀ (pins : List (Addr × Obj)) (s : Shared) (σ : St) (H : Hp) (x : V) (xs : List V) (v : Value) (us : List Value) (Q : VK), Inv X pins σ H s → RelV x v → Vals xs us → r x xs H Q →
    wpAny (model X.prog X.w) X.A (call (.builtin id) (v :: us)) (EP X pins σ Q) X.xe s

/-! ### lists of values -/
theorem Vals.one : ∀ {x : V} {us : List Value}, Vals [x] us → ∃ u, us = [u] ∧ RelV x u
  | _, _, .cons r .nil => ⟨_, rfl, r⟩
theorem Vals.two : ∀ {x y : V} {us : List Value}, Vals [x, y] us → ∃ u v, us = [u, v] ∧ RelV x u ∧ RelV y v
  | _, _, _, .cons r (.cons q .nil) => ⟨_, _, rfl, r, q⟩
theorem Vals.zero : ∀ {us : List Value}, Vals [] us → us = []
  | _, .nil => rfl
theorem Vals.dropLast {xs : List V} {us : List Value} (h : Vals xs us) : Vals xs.dropLast us.dropLast := by
  induction h with
  | nil => exact .nil
  | cons r t ih =>
    cases t with
    | nil => exact .nil
    | cons q t' => exact .cons r ih
theorem Vals.reverse {xs : List V} {us : List Value} (h : Vals xs us) : Vals xs.reverse us.reverse := by
  induction h with
  | nil => exact .nil
  | cons r t ih => rw [List.reverse_cons, List.reverse_cons]; exact Vals.append ih (.cons r .nil)
theorem Vals.rep {xs : List V} {us : List Value} (h : Vals xs us) : ∀ k : Nat, Vals (List.replicate k xs).flatten (List.replicate k us).flatten
  | 0 => .nil
  | k + 1 => by
    rw [List.replicate_succ, List.replicate_succ, List.flatten_cons, List.flatten_cons]
    exact Vals.append h (Vals.rep h k)
theorem erase_last {α : Type} (l : List α) : l.eraseIdx (l.length - 1) = l.dropLast := by
  induction l with
  | nil => rfl
  | cons a r ih =>
    cases r with
    | nil => rfl
    | cons b r =>
      have e : (a :: b :: r).length - 1 = ((b :: r).length - 1) + 1 := by
        have h1 : (a :: b :: r).length = r.length + 2 := rfl
        have h2 : (b :: r).length = r.length + 1 := rfl
        omega
      rw [e, List.eraseIdx_cons_succ, ih]
      all_goals rfl
theorem foldl_rep (its : List Value) : ∀ (k : Nat) (acc : List Value),
    List.foldl (fun x1 x2 => x1 ++ x2) acc.toArray (List.replicate k its.toArray) = (acc ++ (List.replicate k its).flatten).toArray
  | 0, acc => by simp
  | k + 1, acc => by
    have e : acc.toArray ++ its.toArray = (acc ++ its).toArray := by simp
    have e2 : (acc ++ its) ++ (List.replicate k its).flatten = acc ++ (List.replicate (k + 1) its).flatten := by
      rw [List.replicate_succ, List.flatten_cons, List.append_assoc]
    rw [← e2, ← foldl_rep its k (acc ++ its), ← e, List.replicate_succ, List.foldl_cons]

section
variable {X : Cx} {pins : List (Addr × Obj)} {σ : St} {H : Hp} {s : Shared} {l b : Addr} {xs ys zs : List V}

/-! ### the two steps: a tracked list is rewritten, a new list is laid -/
theorem Inv.lset {its its' : List Value} {n : Nat} {f : Array Value → Array Value} {t' : Nat} (I : Inv X pins σ H s) (hH : H l = some (.lst xs))
    (e : s.heap.get? l = some { cls := .type "list", data := .seq its.toArray n }) (hf : f its.toArray = its'.toArray) (hv : Vals ys its') (hz : ys.length ≤ sizeLine) :
    Inv X pins σ (upd H l (.lst ys)) { s with heap := s.heap.update l (Obj.mapSeq f), toks := t' } := by
  have q := PySem.IsL.update e f
  rw [hf] at q
  refine I.write (x := l) (e := l) (by rw [hH]; exact trivial) (.inl rfl) (fun b' u hb hu => (Heap.get?_update_other s.heap (Obj.mapSeq f) (Ne.symm hb)).trans hu) ⟨_, q⟩ ?_
  exact ⟨hz, its', _, hv, q⟩
theorem Inv.lnew {its : List Value} {t' : Nat} (I : Inv X pins σ H s) (hv : Vals ys its) (hz : ys.length ≤ sizeLine) :
    Inv X pins σ (upd H s.heap.objs.size (.lst ys)) { s with heap := s.heap.push { cls := .type "list", data := .seq its.toArray }, toks := t' } :=
  I.laid (fun _ _ q => Heap.get?_push_of_some _ q) (Nat.le_refl _) ⟨hz, its, 0, hv, Heap.get?_push_size _ rfl⟩
theorem Inv.fresh (I : Inv X pins σ H s) : H s.heap.objs.size = none := I.hok.fresh (Nat.le_refl _)
theorem Inv.lstM (I : Inv X pins σ H s) (hH : H l = some (.lst xs)) : xs.length ≤ sizeLine ∧ ∃ (its : List Value) (n : Nat), Vals xs its ∧ xs.length = its.length ∧ s.heap.get? l = some { cls := .type "list", data := .seq its.toArray n } := by
  obtain ⟨z, its, n, r, e⟩ := I.hok l _ hH
  exact ⟨z, its, n, r, r.length, e⟩

theorem notLongL {n : Nat} (h : n ≤ sizeLine) : Builtin.List.listTooLong n = false := by
  unfold Builtin.List.listTooLong
  exact decide_eq_false (by omega)
end

section
variable {X : Cx}

/-! ### methods -/
def rAppend : V → List V → Hp → VK → Prop := fun x vs H Q => ∃ l xs y, x = .ref l ∧ vs = [y] ∧ H l = some (.lst xs) ∧ xs.length < sizeLine ∧ Q .non (upd H l (.lst (xs ++ [y])))
theorem mt_append : MtM X "list.append" rAppend := by
  intro pins s σ H x vs v us Q I rx rv h
  obtain ⟨l, xs, y, rfl, rfl, hH, hz, q⟩ := h
  cases rx
  obtain ⟨u, rfl, ru⟩ := rv.one
  obtain ⟨z, its, n, r, hl, e⟩ := I.lstM hH
  refine call_meets F.slot_list_append ⟨_, e, rfl⟩ F.entry_list_append (F.args_list_append_2 _ _) (PySem.list_append l its.toArray n u (by rw [List.size_toArray]; omega)) ⟨e, ?_⟩
  refine ⟨.non, _, I.lset (its' := its ++ [u]) hH e (by simp) (r.append (.cons ru .nil)) ?_, rfl, q⟩
  rw [List.length_append, List.length_singleton]
  omega

def rPop : V → List V → Hp → VK → Prop := fun x vs H Q => ∃ l xs y, x = .ref l ∧ vs = [] ∧ H l = some (.lst xs) ∧ xs[xs.length - 1]? = some y ∧ Q y (upd H l (.lst xs.dropLast))
theorem mt_pop : MtM X "list.pop" rPop := by
  intro pins s σ H x vs v us Q I rx rv h
  obtain ⟨l, xs, y, rfl, rfl, hH, hy, q⟩ := h
  cases rx
  have hus := rv.zero
  subst hus
  obtain ⟨z, its, n, r, hl, e⟩ := I.lstM hH
  obtain ⟨u, hu, ru⟩ := r.get hy
  have hy' : its.toArray[its.toArray.size - 1]? = some u := by
    show its.toArray[its.length - 1]? = some u
    rw [← Array.getElem?_toList, ← hl]
    exact hu
  refine call_meets F.slot_list_pop ⟨_, e, rfl⟩ F.entry_list_pop (F.args_list_pop_1 _) (MeetsSeq.list_pop_last l its.toArray n u hy' (by rw [List.size_toArray]; omega)) ⟨e, ?_⟩
  refine ⟨y, _, I.lset (its' := its.dropLast) hH e ?_ r.dropLast ?_, ru, q⟩
  · show its.toArray.eraseIdxIfInBounds (its.toArray.size - 1) = its.dropLast.toArray
    rw [List.size_toArray, List.eraseIdxIfInBounds_toArray, erase_last]
  · rw [List.length_dropLast]
    omega

def rClear : V → List V → Hp → VK → Prop := fun x vs H Q => ∃ l xs, x = .ref l ∧ vs = [] ∧ H l = some (.lst xs) ∧ Q .non (upd H l (.lst []))
theorem mt_clear : MtM X "list.clear" rClear := by
  intro pins s σ H x vs v us Q I rx rv h
  obtain ⟨l, xs, rfl, rfl, hH, q⟩ := h
  cases rx
  have hus := rv.zero
  subst hus
  obtain ⟨z, its, n, r, hl, e⟩ := I.lstM hH
  refine call_meets F.slot_list_clear ⟨_, e, rfl⟩ F.entry_list_clear (F.args_list_clear_1 _) (AutoSeq1.list_clear_list_0 l its.toArray n (by rw [List.size_toArray]; omega)) ⟨e, ?_⟩
  exact ⟨.non, _, I.lset (its' := []) (ys := []) hH e rfl .nil (Nat.zero_le _), rfl, q⟩

/-! ### list + list, list += list, list * int -/
def rCat : R2 := fun x y H Q => ∃ l b xs zs, x = .ref l ∧ y = .ref b ∧ H l = some (.lst xs) ∧ H b = some (.lst zs) ∧ xs.length + zs.length ≤ sizeLine ∧ ∀ p, H p = none → Q (.ref p) (upd H p (.lst (xs ++ zs)))
theorem op_cat : OpR X (binaryOp .Add) rCat := by
  intro pins s σ H x y v u Q I rx ry h
  obtain ⟨l, b, xs, zs, rfl, rfl, hH, hB, hz, q⟩ := h
  cases rx
  cases ry
  obtain ⟨z, its, n, r, hl, e⟩ := I.lstM hH
  obtain ⟨z2, its2, n2, r2, hl2, e2⟩ := I.lstM hB
  refine PySem.P.add_list e e2 ?_ (by rw [List.size_toArray, List.size_toArray]; omega)
  have ea : its.toArray ++ its2.toArray = (its ++ its2).toArray := by simp
  rw [ea]
  exact ⟨.ref _, _, I.lnew (t' := s.toks) (r.append r2) (by rw [List.length_append]; omega), rfl, q _ I.fresh⟩
/-- a list times an int (a negative one is nothing) -/
def rRep : R2 := fun x y H Q => ∃ l k xs, x = .ref l ∧ y = .int k ∧ H l = some (.lst xs) ∧ -(2 ^ 63) ≤ k ∧ k < 2 ^ 63 ∧ xs.length * k.toNat ≤ sizeLine ∧
  ∀ p, H p = none → Q (.ref p) (upd H p (.lst (List.replicate k.toNat xs).flatten))
theorem len_rep {α : Type} (xs : List α) (k : Nat) : (List.replicate k xs).flatten.length = k * xs.length := by
  induction k with
  | zero => simp
  | succ k ih => rw [List.replicate_succ, List.flatten_cons, List.length_append, ih, Nat.succ_mul, Nat.add_comm]
theorem op_rep : OpR X (binaryOp .Mult) rRep := by
  intro pins s σ H x y v u Q I rx ry h
  obtain ⟨l, k, xs, rfl, rfl, hH, h1, h2, hz, q⟩ := h
  cases rx
  obtain ⟨t, rfl⟩ := ry
  obtain ⟨z, its, n, r, hl, e⟩ := I.lstM hH
  have hlen : its.toArray.size * k.toNat ≤ sizeLine := by rw [List.size_toArray, ← hl]; exact hz
  have hcap : ¬ its.toArray.size * k.toNat > (2 ^ 63 - 1) / 8 := by
    have : (sizeLine : Nat) ≤ (2 ^ 63 - 1) / 8 := by decide
    omega
  have hfit : ¬ (!Builtin.List.listFitsIndex k) = true := by
    rw [fitsIndex_both h1 h2]
    exact Bool.false_ne_true
  have hlong : ¬ Builtin.List.listTooLong (its.toArray.size * k.toNat) = true := by
    rw [notLongL hlen]
    exact Bool.false_ne_true
  have hnew : List.foldl (fun x1 x2 => x1 ++ x2) #[] (List.replicate (if its.toArray.isEmpty = true then 0 else k.toNat) its.toArray) = (List.replicate k.toNat its).flatten.toArray := by
    have f0 : ∀ m : Nat, List.foldl (fun x1 x2 => x1 ++ x2) #[] (List.replicate m its.toArray) = (List.replicate m its).flatten.toArray := fun m => by
      have := foldl_rep its m []
      rw [List.nil_append] at this
      exact this
    rw [f0]
    cases its with
    | nil => simp
    | cons a r' => rw [if_neg (by simp)]
  refine wpAny_binaryOp_repeat_ref (T := "list") (U := "int") (by decide) ⟨_, e, rfl⟩ (fun s' => typeIs_int s' k t) noFill_list_mul F.fills_int_mul F.slot_int_rmul repeat_list F.slot_int_index.lookup
    (call_meets F.slot_int_rmul (typeIs_int s k t) F.entry_int_rmul (F.args_int_rmul_2 _ _) (int___rmul___int_list k t l its.toArray n)
      ⟨e, rfl, ⟨_, e, rfl⟩, call_meets F.slot_list_mul ⟨_, e, rfl⟩ F.entry_list_mul (F.args_list_mul_2 _ _) (AutoListH.list___mul___list_int_3 l its.toArray n k t hfit hcap hlong) ⟨e, ?_⟩⟩)
  rw [hnew]
  exact ⟨.ref _, _, I.lnew (t' := s.toks) (r.rep k.toNat) (by rw [len_rep, Nat.mul_comm]; exact hz), rfl, q _ I.fresh⟩

/-! ### del xs[i] -/
end

/-! ### xs[a:b] = ys -/
section
variable {prog : Program} {w : World} {A : Around} {E : Value → Shared → Prop} {s : Shared}
end

section
variable {X : Cx}
end
end L2

namespace Att
open PySem PySem.W PySem.Calls PyProof.Rows

/-! ### the script -/
theorem ints_of_wellAll {P : Params} {h : Heap} : ∀ (ns : List Int) (vs : List Value), WellAll P h vs (ns.map WData.int) → IntsAre vs ns := by
  intro ns
  induction ns with
  | nil =>
    intro vs w
    rw [List.map_nil] at w
    cases w
    exact .nil
  | cons n ns ih =>
    intro vs w
    rw [List.map_cons] at w
    cases w with
    | cons a b =>
      cases a
      exact .cons _ _ (ih _ b)

theorem script_of {l : OpenLaw} {n : Nat} (hn : l.most = some n) {P : Params} {h : Heap} {args : List WData} {vals : List Value}
    (hpre : l.row.toRowW.claim.pre args = true) (hwl : WellAll P h vals args) :
    ∃ a vs ns, vals = [Value.ref a] ∧ args = [WData.list (ns.map WData.int)] ∧ h.get? a = some { cls := .type "list", data := .seq vs.toArray } ∧ IntsAre vs ns ∧ ns.length ≤ n := by
  have hsh : WShape.hasAll [] args [.list .int] = true := (pre_splitW hpre).1
  have hc : l.pre.holds [] { args := args } = true := (pre_splitW hpre).2
  obtain ⟨d, r, rfl, h1, h2⟩ := hasAllW_cons hsh
  obtain rfl := hasAllW_nil h2
  obtain ⟨xs, rfl, h3⟩ := hasW_list h1
  obtain ⟨ns, rfl⟩ := items_int h3
  have hlen : ns.length ≤ n := by
    unfold OpenLaw.pre at hc
    have h4 : (WTm.not (.lt (.lit (.int (n : Int))) (.len (.arg 0)))).holds [] { args := [.list (ns.map .int)] } = true := by
      have h4 := (holds_andW hc).1
      rw [hn] at h4
      exact h4
    have h5 := condW_of h4 (w_not (w_lt w_lit (w_len_list (w_arg rfl))))
    rw [List.length_map] at h5
    refine Nat.le_of_not_lt fun q => ?_
    have q' : (n : Int) < ((ns.length : Nat) : Int) := by omega
    first
      | (rw [decide_eq_true q'] at h5; exact absurd h5 (by decide))
      | (simp at h5; omega)
  cases hwl with
  | cons w1 w2 =>
    cases w2
    cases w1 with
    | list ho hall => exact ⟨_, _, ns, rfl, rfl, ho, ints_of_wellAll ns _ hall, hlen⟩

theorem post_true (l : OpenLaw) (args : List WData) : l.row.toRowW.claim.post args (.bool true) args = true :=
  postW_of (r := l.row.toRowW) (X := (true == true))
    (show WShape.has [] (.bool true) .bool = true by first | rfl | decide | simp [WShape.has, WShape.arms, WShape.armsAll])
    (show (WTm.eq .res (.lit (.bool true))).value [] { args := args, res := some (.bool true), after := args } = some (.bool (true == true)) from w_eq_bool (w_res rfl) w_lit) rfl

/-! ### the attachment: holds_open's last premise (the goal 'hc' behind k_head) from a wpAny of the law's body -/
/-- the same from a codeAny of the CALL (for a layer whose function contracts speak of calls) -/
theorem attach_call {l : OpenLaw} {n : Nat} {q : Program} {loose : List Str} {XP : (Str → Option Value) → Heap → Prop} {YP : World → Heap → Prop} {d : DefRec}
    (hn : l.most = some n) (hdf : d.params.defaults = [])
    (call : ∀ (w : World) (s₀ s₁ : Shared) (mg mb : Str → Option Value) (fa : Addr) (o : Obj) (pm cd doc : Value) (a : Addr) (vs : List Value) (ns : List Int),
      Ground q loose [] XP w s₀ mg mb s₁.heap → YP w s₁.heap →
      s₁.heap.get? fa = some o → o.data = .func (docDef d.name d.params d.body d.scope pm cd doc) → s₁.heap.CodeRec cd d.name → mg d.name = some (.ref fa) →
      s₁.heap.get? a = some { cls := .type "list", data := .seq vs.toArray } → IntsAre vs ns → ns.length ≤ n → s₁.gens = #[] →
      codeAny (model l.prog w) callerA (.call (.ref fa) ⟨[.ref a], []⟩) (fun r s' => r = .ok (.ret (.bool true)) ∧ OldK s₁.heap s'.heap ∧ s'.os = s₁.os ∧ AllBare s'.gens) s₁) :
    WalkO q loose XP YP l.row.toRowW d [] (fun f vs => PySem.call f vs) := by
  intro w s₀ s₁ mg mb G Y fa o pm cd doc dV kV ho hd hcd hD hmg hg args vals as hpre hlay hrd hwl hlo
  obtain rfl : dV = .none := Dflts.none hD hdf
  obtain rfl : kV = .none := Dflts.noKw hD
  obtain ⟨a, vs, ns, rfl, rfl, hobj, hints, hlen⟩ := script_of hn hpre hwl
  refine enter_call (codeAny_mono (call w s₀ s₁ mg mb fa o pm cd doc a vs ns G Y ho (fd_plain hd) hcd hmg hobj hints hlen hg) fun r s' hq => ?_)
  obtain ⟨rfl, h2, h3, h4⟩ := hq
  exact ⟨.inl ⟨.bool true, .bool true, [], rfl, fun _ => rfl, .bool true, post_true l _, fun _ => ⟨List.Pairwise.nil, fun _ hm => (nomatch hm)⟩⟩, h2, h3, h4⟩

/-! ### rules over ANY heap (no ledger) from facts about the written part K: the library's own take a ledger (News) for what they write -/
section
variable {prog : Program} {w : World} {A : Around} {E : Value → Shared → Prop} {s : Shared} {K : Frag}

/-! the whole heap as the ledger: makes every rule that writes through a ledger a rule over any heap -/
end
end Att

namespace L2
open PySem PySem.Spec PyProof.Rows

theorem vals_ints : ∀ {vs : List Value} {ns : List Int}, IntsAre vs ns → Vals (ns.map V.int) vs
  | _, _, .nil => .nil
  | _, _, .cons n t h => .cons ⟨t, rfl⟩ (vals_ints h)

/-- nothing is tracked but the script, known to the object (or it is an object of the module) -/
def Only (H : Hp) : Prop := ∀ b, H b = none ∨ ∃ o xs, H b = some (.frz o (.lst xs))

/-- THE HEAD: the law's promise, at the heap behind the top. F, the promise of the law's def, may use that base is part of the heap (so K.In base, base.Ns mainGlobals mg stand in Mod) -/
theorem law_call {P : Program} {w : World} {K : PySem.W.Frag} {mg mb : Str → Option Value} {CX : CXT} {k : Nat} {fa a : Addr} {fd : FuncData} {x : Str} {sp : Sp} {s₁ : Shared} {vs : List Value} {ns : List Int}
    (KX : K.In s₁.heap) (hns : s₁.heap.Ns mainGlobals mg) (hb : s₁.heap.Ns builtinsNs mb) (hbb : ∀ x : Str, x ≠ "__name__" → mb x = bootBuiltins x) (hlim : s₁.heap.NoLimit) (hg : s₁.gens = #[])
    (ha : s₁.heap.get? a = some { cls := .type "list", data := .seq vs.toArray }) (hi : IntsAre vs ns) (hl : ns.length ≤ sizeLine) (hr : Room k callerA)
    (F : ∀ base : Heap, K.In base → base.Ns mainGlobals mg → FnOk P w K mg base CX k fa fd [x] sp) (hbind : ∀ (s : Shared) (u : Value), BindsTo s fd ⟨[u], []⟩ [(x, u)])
    (hsp : ∀ H : Hp, Only H → SqL K H a (ns.map V.int) → sp [.ref a] H (fun v _ => v = .bl true) fun _ _ _ => False)
    (hCX : ∀ H e s', CX [] H s₁ (fun _ _ _ => False) e s' → False) :
    codeAny (model P w) callerA (.call (.ref fa) ⟨[.ref a], []⟩) (fun r s' => r = .ok (.ret (.bool true)) ∧ OldK s₁.heap s'.heap ∧ s'.os = s₁.os ∧ AllBare s'.gens) s₁ := by
  have rv := vals_ints hi
  have lenV := hi.length
  -- from an abstract heap in which nothing but the script may be tracked
  have core : ∀ H : Hp, Only H → SqL K H a (ns.map V.int) → HOk P w H s₁.heap → (∀ b, H b ≠ none → b = a) → (H a ≠ none → K.lookup a = none) →
      codeAny (model P w) callerA (.call (.ref fa) ⟨[.ref a], []⟩) (fun r s' => r = .ok (.ret (.bool true)) ∧ OldK s₁.heap s'.heap ∧ s'.os = s₁.os ∧ AllBare s'.gens) s₁ := by
    intro H hO hS hok hA hK
    have base_of : ∀ {b : Addr} {o : Obj}, s₁.heap.get? b = some o → H b = none → (hidT s₁.heap H).get? b = some o := fun e n => hidT_get e n
    have noA : ∀ {b : Addr} {o : Obj} {es : Array DictEntry} {ep : Nat}, s₁.heap.get? b = some o → o.data = .dict es ep → H b = none := fun {b o es ep} e d => by
      cases q : H b with
      | none => rfl
      | some u =>
        have e' : b = a := hA b (by rw [q]; simp)
        subst e'
        rw [ha] at e; cases e
        have d' : Data.seq vs.toArray _ = Data.dict es ep := d
        cases d'
    have nsK : ∀ {b : Addr} {m : Str → Option Value}, s₁.heap.Ns b m → (hidT s₁.heap H).Ns b m := fun {b m} ⟨o, es, ep, e, d, r⟩ => ⟨o, es, ep, base_of e (noA e d), d, r⟩
    have hKb : K.In (hidT s₁.heap H) := fun b o e => base_of (KX b o e) (by
      cases q : H b with
      | none => rfl
      | some u =>
        have e' : b = a := hA b (by rw [q]; simp)
        subst e'
        rw [hK (by rw [q]; simp)] at e; cases e)
    have hM : Mod K mg (hidT s₁.heap H) := ⟨hKb, nsK hns, ⟨mb, nsK hb, hbb⟩, let ⟨mc, h1, h2⟩ := hlim; ⟨mc, nsK h1, h2⟩⟩
    have e0 : Env0 P w K mg (hidT s₁.heap H) callerA [] s₁ H := ⟨rfl, hM, fun b o e => of_hidT e, Nat.le_of_eq (hidT_size _ _), trivial, fun b hb => absurd (show b ∈ ([] : List Addr) from hb) (by simp), hok, .of_eq hg⟩
    refine codeAny_mono ((F _ hKb (nsK hns)).run callerA [] s₁ H ⟨[.ref a], []⟩ [.ref a] [.ref a] _ _ hr e0 (hbind s₁ (.ref a)) (.cons rfl .nil) (hsp H hO hS)) fun r s' h => ?_
    cases r with
    | error e => exact (hCX H e s' h).elim
    | ok fl =>
      cases fl with
      | next => exact False.elim h
      | brk => exact False.elim h
      | cont => exact False.elim h
      | ret u =>
        obtain ⟨v, H', os, bare, un, hok', r', q⟩ := h
        have q' : v = .bl true := q
        subst q'
        obtain rfl : u = Value.bool true := r'
        refine ⟨rfl, OldK.of_keep fun b o e => ?_, os, bare⟩
        cases q : H b with
        | none => exact un.keep b o e q (by intro z; exact absurd (show b ∈ ([] : List Addr) from z) (by simp)) (by simp)
        | some u =>
          rcases hO b with z | ⟨ob, xs, z⟩
          · rw [q] at z; cases z
          · have z2 := un.frzs b ob _ z
            obtain ⟨e1, _⟩ := hok b _ z
            obtain ⟨e2, _⟩ := hok' b _ z2
            rw [e] at e1; cases e1
            exact e2
  cases hk : K.lookup a with
  | some o =>
    -- the script is one of the module's own objects
    have e := KX a o hk
    rw [ha] at e
    cases e
    refine core (fun _ => none) (fun _ => .inl rfl) (.inr ⟨_, vs.toArray, _, hk, rfl, rfl, rfl, by rw [List.size_toArray, lenV]; exact hl, by simpa using rv⟩) (fun b u z => by have z' : (none : Option HO) = some u := z; cases z') (fun b z => absurd rfl z) fun z => absurd rfl z
  | none =>
    refine core (fun b => if b = a then some (.frz { cls := .type "list", data := .seq vs.toArray } (.lst (ns.map V.int))) else none) (fun b => ?_) (.inl (.inr ⟨{ cls := .type "list", data := .seq vs.toArray }, if_pos rfl⟩)) (fun b u z => ?_) (fun b z => ?_) fun _ => hk
    · by_cases hb : b = a
      · exact .inr ⟨_, _, if_pos hb⟩
      · exact .inl (if_neg hb)
    · by_cases hb : b = a
      · have z' := (if_pos hb).symm.trans z
        cases z'
        subst hb
        exact ⟨ha, by rw [List.length_map]; exact hl, vs, _, rv, ha⟩
      · have z' := (if_neg hb).symm.trans z
        cases z'
    · by_cases hb : b = a
      · exact hb
      · exact absurd (if_neg hb) z
end L2

namespace L2
open PySem PySem.Spec PyProof.Rows

/-- the goal that k_head leaves (case hc), from the law's promise. F gives the function object fd (K's own) once, then the promise over every base -/
theorem walk_of {l : PySem.W.OpenLaw} {n k : Nat} {q : Program} {loose : List Str} {XP : (Str → Option Value) → Heap → Prop} {YP : World → Heap → Prop} {d : DefRec} {K : Params → PySem.W.Frag} {CX : World → CXT} {sp : World → Sp} {x : Str}
    (hn : l.most = some n) (hn2 : n ≤ sizeLine) (hdf : d.params.defaults = []) (hr : Room k callerA)
    (hY : ∀ (w : World) (h : Heap), YP w h → (K w.params).In h)
    (F : ∀ (w : World) (mg : Str → Option Value) (fa : Addr) (h : Heap), (K w.params).In h → h.Ns mainGlobals mg → mg d.name = some (.ref fa) →
      ∃ fd : FuncData, (∀ (s : Shared) (u : Value), BindsTo s fd ⟨[u], []⟩ [(x, u)]) ∧
        ∀ base : Heap, (K w.params).In base → base.Ns mainGlobals mg → FnOk l.prog w (K w.params) mg base (CX w) k fa fd [x] (sp w))
    (hsp : ∀ (w : World) (H : Hp) (a : Addr) (ns : List Int), ns.length ≤ n → Only H → SqL (K w.params) H a (ns.map V.int) → sp w [.ref a] H (fun v _ => v = .bl true) fun _ _ _ => False)
    (hCX : ∀ (w : World) (H : Hp) (s : Shared) (e : Value) (s' : Shared), CX w [] H s (fun _ _ _ => False) e s' → False) :
    PySem.W.WalkO q loose XP YP l.row.toRowW d [] (fun f vs => PySem.call f vs) := by
  refine Att.attach_call hn hdf fun w s₀ s₁ mg mb fa o pm cd doc a vs ns G Y ho hd hcd hmg hobj hints hlen hg => ?_
  have KX := hY w _ Y
  obtain ⟨fd, hb, hF⟩ := F w mg fa _ KX G.T.g hmg
  exact law_call KX G.T.g G.T.b G.T.builtins G.T.nolimit hg hobj hints (Nat.le_trans hlen hn2) hr hF hb (fun H hO hS => hsp w H a ns hlen hO hS) fun H e s' => hCX w H s₁ e s'
end L2

/- THE LAST THEOREM (shape; LID, My.* are yours):
   My.Adr: a structure of the addresses that your layer names (classes, functions); My.Txt K t: a structure (Prop) of the equations over K;
   My.txt_mk : {K} {implicit addresses ..} (e1 : nsIn K mainGlobals "law" = some (some (.ref f))) (e2 : K.lookup f = some ⟨oc, od, .func (fnOf "law" "law" params body scope dV kV doc pm an cdv ct), sl⟩) (e3 : codeIn K cdv "law" = true) .. : ∃ t, My.Txt K t

set_option maxRecDepth 100000 in
set_option maxHeartbeats 0 in
theorem PySem.Challenge.cw_LID_holds : PySem.Challenge.rw_LID.Holds := by
  w_on; o_law; k_head; (case hw => w_witness2)
  k_fill
  refine L2.walk_of (l := PySem.Challenge.rw_LID) (n := 63) (k := 40) (x := "script") (CX := fun w => ..) (sp := fun _ => My.sp_law) rfl (by decide) rfl ⟨rfl, by decide, by decide⟩ (fun w h Y => PySem.W.kIn_of Y) ?F ?S ?C
  case F =>
    intro w mg fa h KX G hmg
    have T : ∃ t, My.Txt (L2.KOf KX) t := by
      dsimp only [L2.KOf]                          -- K must stand as «<heap const> w.params» for k_is
      refine' My.txt_mk ?e1 ?e2 ?e3 ..
      (case e1 => PySem.W.k_is)                    -- in the order: a name -> its address -> its object -> its parts
      (case e2 => PySem.W.k_is)
      ..
    obtain ⟨t, T⟩ := T
    have e0 := hmg.symm.trans (PySem.W.mg_of KX G T.law)
    cases e0                                       -- fa is the law's own address
    exact ⟨_, fun s u => .of_eq rfl, fun base kb nb => My.law_fn T kb nb⟩     -- if «.of_eq rfl» comes too early: refine' ⟨_, ?b, fun base kb nb => My.law_fn T kb nb⟩; exact fun s u => .of_eq rfl
  case S => exact fun w H a ns hl hO hS => ..
  case C => exact ..
(the tactic k_is has no namespace: write k_is) -/

/-! SHORT WORDS over the layer: a def of the text, its body, what a loop and a test want. -/
namespace L2
open PySem PySem.Spec PyProof.Rows

/-! ### the text by places -/
/-- the j-th statement of a class's body -/
def inClass (s : Stmt) (j : Nat) : Stmt := match s with
  | .ClassDef _ _ _ body _ _ _ _ _ _ _ => body.getD j (.Pass ⟨0, 0, 0, 0⟩)
  | _ => .Pass ⟨0, 0, 0, 0⟩
def defArgs (s : Stmt) : Arguments := match s with
  | .FunctionDef _ a _ _ _ _ _ _ _ _ => a
  | _ => { posonlyargs := [], args := [], vararg := none, kwonlyargs := [], kw_defaults := [], kwarg := none, defaults := [] }
def defBody (s : Stmt) : List Stmt := match s with
  | .FunctionDef _ _ b _ _ _ _ _ _ _ => b
  | _ => []
def defScope (s : Stmt) : Scope := match s with
  | .FunctionDef _ _ _ _ _ _ sc _ _ _ => sc
  | _ => { kind := .function, names := [], isGenerator := false, isCoroutine := false }

/-! ### no exception leaves a def -/
abbrev CX0 : CXT := fun _ _ _ _ _ _ => False
abbrev E0 : XK := fun _ _ _ => False
theorem pass0 {X : Cx} : Passes CX0 X E0 := fun _ _ _ _ _ _ _ h => h.elim

/-! ### a def (or method) of the text as it stands behind the top -/
structure Fun (K : PySem.W.Frag) (x qual : Str) (st : Stmt) (f : Addr) (fd : FuncData) : Prop where
  ex : ∃ (oc : Value) (od : Option Addr) (kV doc pm : Value) (an : Option Addr) (cdv ct : Value) (osl : Array (Option Value)),
    fd = PySem.W.fnOf x qual (defArgs st) (defBody st) (defScope st) .none kV doc pm an cdv ct ∧ K.lookup f = some ⟨oc, od, .func fd, osl⟩ ∧ PySem.W.codeIn K cdv qual = true
  kp : PySem.W.keepIn K (.ref f) = true
section
variable {P : Program} {w : World} {K : PySem.W.Frag} {mg : Str → Option Value} {base : Heap}
/-- THE RULE for a def: its body as a term of rules, and the reading of that term -/
theorem Fun.ok {x qual : Str} {st : Stmt} {f : Addr} {fd : FuncData} {N ps : List Str} {k : Nat} {sp : Sp} (F : Fun K x qual st f fd) (S : FnScope N ps (defScope st)) (len : ∀ vs H Q E, sp vs H Q E → vs.length = ps.length)
    (hbody : ∀ (cdv : Value) (A : Around) (outer : List Env) (s : Shared) (H : Hp) (vs : List V) (Q : VK) (E : XK), Room k (A.deeper (envOfC qual (defScope st) s.heap.objs.size f cdv)) → sp vs H Q E →
      ∃ t, PSs (cxOf CX0 P w K mg base N qual (defScope st) f cdv A outer s H E).nox (defBody st) t ∧ t { nx := fun _ H' => Q .non H', rt := Q } (start N vs) H) : FnOk P w K mg base CX0 (k + 1) f fd ps sp := by
  obtain ⟨oc, od, kV, doc, pm, an, cdv, ct, osl, rfl, lk, hcd⟩ := F.ex
  refine fn_of lk hcd S len fun A outer s H vs Q E hr hsp => ?_
  obtain ⟨t, h, q⟩ := hbody cdv A outer s H vs Q E hr hsp
  exact ⟨t, h.nox, q⟩
/-- how its arguments bind (no defaults): h is «fun _ _ _ _ _ _ us hl => match us, hl with | [_, _], _ => rfl», one _ a parameter -/
theorem Fun.binds {x qual : Str} {st : Stmt} {f : Addr} {fd : FuncData} {ps : List Str} (F : Fun K x qual st f fd)
    (h : ∀ (kV doc pm : Value) (an : Option Addr) (cdv ct : Value) (us : List Value), us.length = ps.length → bindArgs (PySem.W.fnOf x qual (defArgs st) (defBody st) (defScope st) .none kV doc pm an cdv ct) ⟨us, []⟩ = pure (ps.zip us)) : Binds K fd ps [] := by
  obtain ⟨oc, od, kV, doc, pm, an, cdv, ct, osl, rfl, lk, hcd⟩ := F.ex
  exact .all (h kV doc pm an cdv ct)
theorem fun_mk {x qual : Str} {st : Stmt} {f : Addr} {oc : Value} {od an : Option Addr} {osl : Array (Option Value)} {kV doc pm cdv ct : Value} (l : K.lookup f = some ⟨oc, od, .func (PySem.W.fnOf x qual (defArgs st) (defBody st) (defScope st) .none kV doc pm an cdv ct), osl⟩)
    (c : PySem.W.codeIn K cdv qual = true) (k : PySem.W.keepIn K (.ref f) = true) : Fun K x qual st f (PySem.W.fnOf x qual (defArgs st) (defBody st) (defScope st) .none kV doc pm an cdv ct) := ⟨⟨oc, od, kV, doc, pm, an, cdv, ct, osl, rfl, l, c⟩, k⟩
end
theorem small1000 {n : Nat} (h : n ≤ 1000) : n < sizeLine := Nat.lt_of_le_of_lt h (by decide)

/-! ### expressions in short: the name that stands in the i-th slot -/
section
variable {X : Cx}
theorem pv (i : Nat) {x : Str} {pos : Pos} (hN : X.N[i]? = some x := by rfl) (hv : Vis X.env.scope x := by first | exact Or.inl rfl | exact Or.inr (Or.inl rfl) | exact Or.inr (Or.inr rfl)) (hd : (x == ("__debug__" : Str)) = false := by decide)
    (hcd : (x == ("__classdict__" : Str)) = false := by decide) : PE X (.Name x pos) (tVar i) := pe_var hN hv hd hcd
end

/-! ### tests -/
theorem iteF {A B : Prop} (h : B) : if false = true then A else B := by
  rw [if_neg Bool.false_ne_true]
  exact h
theorem iteT {A B : Prop} (h : A) : if true = true then A else B := by
  rw [if_pos rfl]
  exact h
/-! ### heaps -/
/-- all that was tracked is as it was -/
def Same (H H' : Hp) : Prop := ∀ b o, H b = some o → H' b = some o
theorem Same.refl (H : Hp) : Same H H := fun _ _ h => h
theorem Same.trans {H H1 H2 : Hp} (a : Same H H1) (b : Same H1 H2) : Same H H2 := fun c o h => b c o (a c o h)
theorem Same.free {H H' : Hp} (e : Same H H') {l : Addr} (h : H' l = Option.none) : H l = Option.none := by
  cases q : H l with
  | none => rfl
  | some o =>
    rw [e l o q] at h
    cases h
end L2

set_option Elab.async false
set_option linter.all false
set_option maxRecDepth 100000
namespace L2
open PySem PySem.Spec PyProof.Rows
/-! ### closures -/
def clOf (env : Env) : List (Str × NameKind) → List (Str × Addr) → List (Str × Addr)
  | [], cs => cs
  | (n, k) :: r, cs => if k == NameKind.free then clOf env r ((n, (env.cells.lookup n).getD 0) :: cs) else clOf env r cs
theorem closureFor_clOf {scope : Scope} {env : Env} (h : ∀ x ∈ scope.names, x.2 = .free → ∃ c, env.cells.lookup x.1 = some c) : closureFor scope env = pure (clOf env scope.names []) := by
  simp only [closureFor]
  have go : ∀ (names : List (Str × NameKind)) (cs : List (Str × Addr)), (∀ x ∈ names, x.2 = .free → ∃ c, env.cells.lookup x.1 = some c) →
      (forIn names cs fun x __s => if (x.snd == NameKind.free) = true then (do let a ← cellOf env x.fst; pure (ForInStep.yield ((x.fst, a) :: __s))) else pure (ForInStep.yield __s)) = (pure (clOf env names cs) : Sem _) := by
    intro names
    induction names with
    | nil => intro cs _; rfl
    | cons x r ih =>
      intro cs h
      obtain ⟨n, k⟩ := x
      rw [List.forIn_cons, clOf]
      have hr := fun cs => ih cs fun y hy => h y (List.mem_cons_of_mem _ hy)
      cases hk : k == NameKind.free with
      | false =>
        simp only [hk, Bool.false_eq_true, if_false]
        exact hr cs
      | true =>
        have hk' : k = .free := by simpa using hk
        obtain ⟨c, hc⟩ := h (n, k) List.mem_cons_self hk'
        simp only at hc
        simp only [if_true, cellOf, hc]
        exact hr _
  rw [go _ _ h]
  rfl
theorem clOf_lookup {env : Env} : ∀ (names : List (Str × NameKind)) (cs : List (Str × Addr)), (∀ x ∈ names, x.2 = .free → ∃ c, env.cells.lookup x.1 = some c) → (∀ x c, cs.lookup x = some c → env.cells.lookup x = some c) →
    ∀ x c, (clOf env names cs).lookup x = some c → env.cells.lookup x = some c
  | [], cs, _, hc => hc
  | (n, k) :: r, cs, h, hc => by
    rw [clOf]
    split
    · rename_i hk
      refine clOf_lookup r _ (fun y hy => h y (List.mem_cons_of_mem _ hy)) fun x c e => ?_
      obtain ⟨c', hc'⟩ := h (n, k) List.mem_cons_self (by simpa using hk)
      rw [List.lookup_cons] at e
      split at e
      · rename_i hx
        have hx' : x = n := by simpa using hx
        subst hx'
        simp only at hc'
        rw [hc'] at e ⊢
        exact e
      · exact hc x c e
    · exact clOf_lookup r cs (fun y hy => h y (List.mem_cons_of_mem _ hy)) hc
theorem clOf_has {env : Env} : ∀ (names : List (Str × NameKind)) (cs : List (Str × Addr)) (x : Str), ((x, NameKind.free) ∈ names ∨ ∃ c, cs.lookup x = some c) → ∃ c, (clOf env names cs).lookup x = some c
  | [], cs, x, h => by
    rcases h with h | h
    · cases h
    · exact h
  | (n, k) :: r, cs, x, h => by
    rw [clOf]
    split
    · rename_i hk
      refine clOf_has r _ x ?_
      by_cases e : x = n
      · subst e; exact .inr ⟨(env.cells.lookup x).getD 0, by simp [List.lookup_cons]⟩
      · have ne : (x == n) = false := by simpa using e
        rcases h with h | ⟨c, h⟩
        · rcases List.mem_cons.mp h with z | z
          · cases z; exact absurd rfl e
          · exact .inl z
        · exact .inr ⟨c, by rw [List.lookup_cons, ne]; exact h⟩
    · rename_i hk
      refine clOf_has r cs x ?_
      rcases h with h | h
      · rcases List.mem_cons.mp h with z | z
        · cases z; exact absurd rfl hk
        · exact .inl z
      · exact .inr h

/-! ### a comprehension's names -/
def srcS (src : List (Option Nat)) (σ : St) : St := src.map fun o => o.bind fun i => (σ[i]?).bind id
def SrcOk (scope : Scope) (XN : List Str) : List (Option Nat) → List Str → Prop
  | [], [] => True
  | none :: r, _ :: n => SrcOk scope XN r n
  | some i :: r, x :: n => XN[i]? = some x ∧ scope.names.lookup x = some .free ∧ SrcOk scope XN r n
  | _, _ => False
theorem SrcOk.len {scope : Scope} {XN : List Str} : ∀ {src : List (Option Nat)} {NC : List Str}, SrcOk scope XN src NC → src.length = NC.length
  | [], [], _ => rfl
  | none :: r, _ :: n, h => by have := SrcOk.len (src := r) (NC := n) h; simp [this]
  | some i :: r, _ :: n, h => by have := SrcOk.len (src := r) (NC := n) h.2.2; simp [this]
  | [], _ :: _, h => h.elim
  | none :: _, [], h => h.elim
  | some _ :: _, [], h => h.elim
theorem SrcOk.at {scope : Scope} {XN : List Str} : ∀ {src : List (Option Nat)} {NC : List Str} {j i : Nat} {x : Str}, SrcOk scope XN src NC → src[j]? = some (some i) → NC[j]? = some x → XN[i]? = some x ∧ scope.names.lookup x = some .free
  | [], [], _, _, _, _, h, _ => by simp at h
  | none :: r, _ :: n, 0, _, _, _, h, _ => by simp at h
  | none :: r, _ :: n, j + 1, i, x, h, h1, h2 => SrcOk.at (src := r) (NC := n) (j := j) h (by simpa using h1) (by simpa using h2)
  | some k :: r, y :: n, 0, i, x, h, h1, h2 => by
    have e1 : k = i := by simpa using h1
    have e2 : y = x := by simpa using h2
    subst e1 e2
    exact ⟨h.1, h.2.1⟩
  | some k :: r, _ :: n, j + 1, i, x, h, h1, h2 => SrcOk.at (src := r) (NC := n) (j := j) h.2.2 (by simpa using h1) (by simpa using h2)
  | [], _ :: _, _, _, _, h, _, _ => h.elim
  | none :: _, [], _, _, _, h, _, _ => h.elim
  | some _ :: _, [], _, _, _, h, _, _ => h.elim
structure CompOk (X : Cx) (scope : Scope) : Prop where
  kind : scope.kind = .function
  names : ∀ x ∈ scope.names, x.2 = .local → scope.names.lookup x.1 = some .local
  nocell : ∀ x ∈ scope.names, x.2 ≠ .cell
  free : ∀ x ∈ scope.names, x.2 = .free → X.env.kindOf x.1 = some .cell ∨ X.env.kindOf x.1 = some .free
theorem relabel_lookup {env : Env} : ∀ (names : List (Str × NameKind)) (x : Str),
    (names.map fun (n, k) => if (k == NameKind.free && env.scope.kind == .function && env.kindOf n == some .cell) then (n, NameKind.cell) else (n, k)).lookup x =
      (names.lookup x).map fun k => if (k == NameKind.free && env.scope.kind == .function && env.kindOf x == some .cell) then NameKind.cell else k
  | [], _ => rfl
  | (n, k) :: r, x => by
    have ih := relabel_lookup (env := env) r x
    show List.lookup x ((if (k == NameKind.free && env.scope.kind == .function && env.kindOf n == some .cell) = true then (n, NameKind.cell) else (n, k)) :: _) = _
    cases hx : x == n with
    | true =>
      have e : x = n := by simpa using hx
      subst e
      by_cases hc : (k == NameKind.free && env.scope.kind == .function && env.kindOf x == some .cell) = true
      · rw [if_pos hc, List.lookup_cons, List.lookup_cons]
        simp only [hx]
        show some NameKind.cell = some (if _ then _ else _)
        rw [if_pos hc]
      · rw [if_neg hc, List.lookup_cons, List.lookup_cons]
        simp only [hx]
        show some k = some (if _ then _ else _)
        rw [if_neg hc]
    | false =>
      by_cases hc : (k == NameKind.free && env.scope.kind == .function && env.kindOf n == some .cell) = true
      · rw [if_pos hc]; simp only [List.lookup_cons, hx]; exact ih
      · rw [if_neg hc]; simp only [List.lookup_cons, hx]; exact ih
theorem mem_lookup {names : List (Str × NameKind)} {x : Str} {k : NameKind} (h : names.lookup x = some k) : (x, k) ∈ names := PySem.mem_of_lookup h
/-- the context of a comprehension's block: C its own names, s, H ahead of C; ex the first iterator's records -/
def cxC (X : Cx) (scope : Scope) (NC : List Str) (ex : List Addr) (s : Shared) (H : Hp) : Cx :=
  { X with N := NC, s₀ := s, H₀ := H, env := compEnvC scope (clOf X.env scope.names []) s.heap.objs.size X.env, outer := X.stack, stack := X.stack, ex := ex, fn := fun _ => false, pn := [], xe := fun _ _ => False }
section
variable {X : Cx} {pins : List (Addr × Obj)} {σ : St} {H : Hp} {s : Shared} {scope : Scope} {NC : List Str} {ex : List Addr} {src : List (Option Nat)}
theorem CompOk.cells (c : CompOk X scope) (ok : X.Ok) : ∀ x ∈ scope.names, x.2 = .free → ∃ c, X.env.cells.lookup x.1 = some c := fun x hx e => ok.has x.1 (c.free x hx e)
theorem CompOk.kindC (c : CompOk X scope) {C : Addr} {x : Str} {k : NameKind} (h : (compEnvC scope (clOf X.env scope.names []) C X.env).kindOf x = some k) (hk : k = .cell ∨ k = .free) : scope.names.lookup x = some .free := by
  have h' : (relabel scope X.env).names.lookup x = some k := h
  unfold relabel at h'
  rw [relabel_lookup] at h'
  cases e : scope.names.lookup x with
  | none => rw [e] at h'; cases h'
  | some k' =>
    have nc := c.nocell _ (mem_lookup e)
    rw [e] at h'
    have h2 : (if (k' == NameKind.free && X.env.scope.kind == .function && X.env.kindOf x == some .cell) then NameKind.cell else k') = k := Option.some.inj h'
    by_cases hf : k' = .free
    · rw [hf]
    · have hb : (k' == NameKind.free) = false := by simpa using hf
      rw [hb, Bool.false_and, Bool.false_and, if_neg Bool.false_ne_true] at h2
      rcases hk with z | z
      · rw [h2] at nc; exact absurd z nc
      · rw [h2] at hf; exact absurd z hf
theorem comp_ok (I : Inv X pins σ H s) (c : CompOk X scope) (hf : ∀ b ∈ ex, FpOk X pins H b) (hlt : ∀ b ∈ ex, b < s.heap.objs.size) : (cxC X scope NC ex s H).Ok where
  mod := I.ok.mod
  kind := c.kind
  glob := I.ok.glob
  blt := I.ok.blt
  above := Nat.le_refl _
  inj := fun x y d h1 h2 => I.ok.inj x y d (clOf_lookup _ _ (c.cells I.ok) (fun _ _ z => by cases z) x d h1) (clOf_lookup _ _ (c.cells I.ok) (fun _ _ z => by cases z) y d h2)
  has := fun x hx => clOf_has _ _ x (.inl (mem_lookup (by rcases hx with h | h <;> exact c.kindC h (by simp))))
  cab := fun _ _ z => by cases z
  hd := I.ok.hd
  frames := I.ok.frames
  stk := .inl rfl
  exf := fun b hb => ⟨Nat.ne_of_lt (hlt b hb), fun x d e => (hf b hb).2.2.2.2.1 x d (clOf_lookup _ _ (c.cells I.ok) (fun _ _ z => by cases z) x d e)⟩
  bs := I.bs
  bsz := Nat.le_trans I.ok.bsz I.sz
  noex := fun b o e hb => by
    rcases (hf b hb).2.2.2.1 with z | z
    · exact I.ok.noex b o e z
    · exact absurd (Nat.lt_of_lt_of_le (Heap.lt_size e) (Nat.le_trans I.ok.bsz z)) (Nat.lt_irrefl _)
  exfs := fun b hb z => (List.mem_cons.mp (I.stkSub b z)).elim (hf b hb).2.1 (hf b hb).2.2.1
  funs := I.stack
  frf := I.stkFree
theorem comp_inv {h1 : Heap} {tk : Nat} {ob : Obj} (I : Inv X pins σ H s) (c : CompOk X scope) (hsrc : SrcOk scope X.N src NC) (hf : ∀ b ∈ ex, FpOk X pins H b) (hlt : ∀ b ∈ ex, b < s.heap.objs.size)
    (hns : h1.Ns s.heap.objs.size (fun _ => none)) (hsb : Heap.SameBut s.heap.objs.size (s.heap.push ob) h1) :
    Inv (cxC X scope NC ex s H) [] (srcS src σ) H { s with heap := h1, toks := tk } := by
  have old : ∀ b o, s.heap.get? b = some o → h1.get? b = some o := fun b o e => hsb.extBut b o (Nat.ne_of_lt (Heap.lt_size e)) (Heap.get?_push_of_some _ e)
  have cl : ∀ x d, (clOf X.env scope.names []).lookup x = some d → X.env.cells.lookup x = some d := fun x d => clOf_lookup _ _ (c.cells I.ok) (fun _ _ z => by cases z) x d
  have cellK : ∀ d v, s.heap.IsCell d v → h1.IsCell d v := fun d v ⟨o, ho, hd⟩ => ⟨o, old d o ho, hd⟩
  refine ⟨comp_ok I c hf hlt, rfl, I.bare, Un.kept old, ⟨_, hns, fun j x v e1 e2 e3 => ?_⟩, fun x d e => ?_, I.hok.fresh (Nat.le_refl _), fun x d e => I.freeC x d (cl x d e), fun p hp => absurd (show p ∈ ([] : List (Addr × Obj)) from hp) (by simp), I.hok.kept old, ?_⟩
  · have e2' : (srcS src σ)[j]? = some (some v) := e2
    unfold srcS at e2'
    rw [List.getElem?_map] at e2'
    cases ej : src[j]? with
    | none => rw [ej] at e2'; cases e2'
    | some o =>
      rw [ej] at e2'
      cases o with
      | none => cases e2'
      | some i =>
        have e4 : (σ[i]?).bind id = some v := Option.some.inj e2'
        have e5 : σ[i]? = some (some v) := by
          cases q : σ[i]? with
          | none => rw [q] at e4; cases e4
          | some z => rw [q] at e4; exact congrArg some e4
        obtain ⟨hN, hfr⟩ := hsrc.at ej e1
        have hk := c.free _ (mem_lookup hfr) rfl
        obtain ⟨m, hn, hl⟩ := I.loc
        obtain ⟨u, r, l⟩ := hl i x v hN e5 (hk.elim (fun z => .inr (.inl z)) (fun z => .inr (.inr z)))
        refine ⟨u, r, .inr ⟨?_, ?_⟩⟩
        · show (relabel scope X.env).names.lookup x = _ ∨ (relabel scope X.env).names.lookup x = _
          unfold relabel
          rw [relabel_lookup, hfr]
          by_cases z : (NameKind.free == NameKind.free && X.env.scope.kind == .function && X.env.kindOf x == some .cell) = true
          · left; simp only [Option.map_some, z, if_true]
          · right; simp only [Option.map_some, z]; rfl
        · obtain ⟨d, hd⟩ := clOf_has (env := X.env) scope.names [] x (.inl (mem_lookup hfr))
          refine ⟨d, hd, ?_⟩
          rcases l with ⟨l, _⟩ | ⟨_, d', e, z⟩
          · exfalso; rcases hk with z | z <;> (rw [l] at z; cases z)
          · rw [cl x d hd] at e; cases e; exact cellK d _ z
  · obtain ⟨v, z⟩ := I.cell x d (cl x d e)
    exact ⟨v, cellK d v z⟩
  · show (srcS src σ).length = NC.length
    unfold srcS; rw [List.length_map]; exact hsrc.len
/-- behind the block -/
theorem comp_back {H' : Hp} {σ' : St} {s' : Shared} {h2 : Heap} {pins' : List (Addr × Obj)} (I : Inv X pins σ H s) (hf : ∀ b ∈ ex, FpOk X pins H b) (J : Inv (cxC X scope NC ex s H) pins' σ' H' s')
    (hsb : Heap.SameBut s.heap.objs.size s'.heap h2) : Inv X pins σ H' { s' with heap := h2 } := by
  have up : ∀ b o, b ≠ s.heap.objs.size → s'.heap.get? b = some o → h2.get? b = some o := fun b o hb e => hsb.extBut b o hb e
  have ne : ∀ b o, s.heap.get? b = some o → b ≠ s.heap.objs.size := fun b o e => Nat.ne_of_lt (Heap.lt_size e)
  have u := J.base
  refine I.call' (ch := ex) (show s'.os = s.os from J.os) ⟨fun b o e n hb hx => up b o (ne b o e) (u.keep b o e n hb hx), fun b o e n hb hx => ?_, u.free, fun b o e hx => ?_, u.tups, u.frzs, u.tbls⟩ ?_ J.bare fun b hb => ?_
  · obtain ⟨sl, q⟩ := u.slot b o e n hb hx
    exact ⟨sl, up b _ (ne b o e) q⟩
  · obtain ⟨o', q⟩ := u.there b o e hx
    exact ⟨o', up b o' (ne b o e) q⟩
  · intro b o e
    have nC : ∀ b o, H' b = some o → b ≠ s.heap.objs.size := fun b o e z => by
      have := J.free
      rw [z] at e
      have e' : H' s.heap.objs.size = none := this
      rw [e'] at e; cases e
    refine (J.hok b o e).stay (fun d v hd q => up d v ?_ q) (fun _ q => q) fun _ _ q => q
    rcases hd with z | z
    · rw [z]; exact nC b o e
    · exact nC d _ z
  · obtain ⟨_, f1, _, f3, f4, f5⟩ := hf b hb
    exact ⟨f3, f1, f4, f5⟩
end
/-! ### the tests of a clause -/
def PTs (X : Cx) (ifs : List Expr) (t : TT) : Prop :=
  ∀ (pins : List (Addr × Obj)) (s : Shared) (σ : St) (H : Hp) (Q : Bool → Hp → Prop), Inv X pins σ H s → t σ H Q →
    wpAny (model X.prog X.w) X.A (forIn ifs true fun c r => if r = true then do let ok ← isTrue c X.env (eval c X.env); pure (ForInStep.yield ok) else pure (ForInStep.yield r)) (TP X pins σ Q) X.xe s
def tYes : TT := fun _ H Q => Q true H
theorem pts_nil {X : Cx} : PTs X [] tYes := fun _ _ _ H _ I h => wpAny_tests_nil ⟨H, I, h⟩
theorem pts_one {X : Cx} {c : Expr} {t : TT} (h : PT X c t) : PTs X [c] t := fun pins s σ H Q I q => wpAny_tests_one (h pins s σ H Q I q)
/-! ### a list comprehension of one clause -/
def LCW (J : It) (g : TG) (tt : TT) (te : TE) (D : Addr) (Q : VK) (σ : St) (H : Hp) : Prop :=
  ∃ W : Nat → Nat → St → Hp → Prop, (∃ m, W 0 m σ H) ∧ ∀ i m σ2 H2, W i m σ2 H2 →
    (J.stop i H2 ∧ Q (.ref D) H2) ∨
    (J.go i H2 ∧ ∃ N : St → Hp → Prop, (∀ σ' H', N σ' H' → ∃ m', m' < m ∧ W (i + 1) m' σ' H') ∧ ∀ x H3, J.yld i H2 x H3 → g x σ2 H3 fun σ4 H4 => tt σ4 H4 fun b H5 =>
      if b = true then te σ4 H5 fun v H6 => ∃ ys, H6 D = some (.lst ys) ∧ ys.length < sizeLine ∧ N σ4 (upd H6 D (.lst (ys ++ [v]))) else N σ4 H5)
def tLC (wi : TI) (g : TG) (tt : TT) (te : TE) (src : List (Option Nat)) : TE := fun σ H Q => wi σ H fun J H1 => ∀ D, H1 D = none → LCW J g tt te D Q (srcS src σ) (upd H1 D (.lst []))
section
variable {X : Cx} {elt iter tg : Expr} {ifs : List Expr} {scope : Scope} {pos : Pos} {wi : TI} {g : TG} {tt : TT} {te : TE} {src : List (Option Nat)} {NC : List Str}
/-- the block: from the first iterator on -/
theorem comp_block {pins : List (Addr × Obj)} {σ : St} {s2 : Shared} {H2 : Hp} {it : Addr} {fp : List Addr} {tn : Nat → Heap → Prop} {J : It} {RR : Value → Addr → Result → Shared → Prop} {E : Value → Shared → Prop} {Q : VK}
    (hc : X.calm = true) (c : CompOk X scope) (hsrc : SrcOk scope X.N src NC) (I2 : Inv X pins σ H2 s2) (T : Turn X.prog X.w X.K tg J fp it tn) (st2 : tn 0 s2.heap) (f2 : ∀ b ∈ fp, FpOk X pins H2 b)
    (hg : ∀ s H, PG (cxC X scope NC fp s H) tg g) (ht : ∀ s H, PTs (cxC X scope NC fp s H) ifs tt) (he : ∀ s H, PE (cxC X scope NC fp s H) elt te)
    (hW : ∀ D, H2 D = none → ∃ W : Nat → Nat → St → Hp → Prop, (∃ m, W 0 m (srcS src σ) (upd H2 D (.lst []))) ∧ ∀ i m σ2 H2, W i m σ2 H2 →
      (J.stop i H2 ∧ Q (.ref D) H2) ∨
      (J.go i H2 ∧ ∃ N : St → Hp → Prop, (∀ σ' H', N σ' H' → ∃ m', m' < m ∧ W (i + 1) m' σ' H') ∧ ∀ x H3, J.yld i H2 x H3 → g x σ2 H3 fun σ4 H4 => tt σ4 H4 fun b H5 =>
        if b = true then te σ4 H5 fun v H6 => ∃ ys, H6 D = some (.lst ys) ∧ ys.length < sizeLine ∧ N σ4 (upd H6 D (.lst (ys ++ [v]))) else N σ4 H5))
    (hRR : ∀ D s3 H3 σ' H' s', Inv X pins σ H3 s3 → (∀ b ∈ fp, FpOk X pins H3 b) → Inv (cxC X scope NC fp s3 H3) [] σ' H' s' → Q (.ref D) H' → RR (.ref D) s3.heap.objs.size (.ok .next) s') :
    wpAny (model X.prog X.w) X.A (newList []) (fun acc s₃ => wpAny (model X.prog X.w) X.A (newFunctionEnv scope X.env.globals (clOf X.env scope.names []) [] X.env.qual none .none (some X.env)) (fun cenv s₄ =>
      codeAny (model X.prog X.w) X.A (.compStart (.ListComp elt [⟨tg, iter, ifs, 0⟩] scope pos) 0 (.ref it) acc { cenv with scope := relabel scope X.env }) (RR acc cenv.locals) s₄) E s₃) E s2 := by
  obtain ⟨W, ⟨m0, w0⟩, turn⟩ := hW s2.heap.objs.size I2.fresh
  have I3 : Inv X pins σ (upd H2 s2.heap.objs.size (.lst [])) { s2 with heap := s2.heap.push { cls := .type "list", data := .seq ([] : List Value).toArray } } := I2.lnew (its := []) (t' := s2.toks) .nil (Nat.zero_le _)
  have lt2 : ∀ b ∈ fp, b < s2.heap.objs.size := fun b hb => by
    obtain ⟨o, e, _⟩ := T.obj _ _ st2 b hb
    exact Heap.lt_size e
  have f3 : ∀ b ∈ fp, FpOk X pins (upd H2 s2.heap.objs.size (.lst [])) b := fun b hb => ⟨by rw [upd_ne (Nat.ne_of_lt (lt2 b hb))]; exact (f2 b hb).1, (f2 b hb).2⟩
  refine wpAny_newObj_type ?_
  suffices key : ∀ s3 : Shared, Inv X pins σ (upd H2 s2.heap.objs.size (.lst [])) s3 → (∀ b o, s2.heap.get? b = some o → s3.heap.get? b = some o) →
      wpAny (model X.prog X.w) X.A (newFunctionEnv scope X.env.globals (clOf X.env scope.names []) [] X.env.qual none .none (some X.env)) (fun cenv s₄ =>
        codeAny (model X.prog X.w) X.A (.compStart (.ListComp elt [⟨tg, iter, ifs, 0⟩] scope pos) 0 (.ref it) (.ref s2.heap.objs.size) { cenv with scope := relabel scope X.env }) (RR (.ref s2.heap.objs.size) cenv.locals) s₄) E s3 from
    key _ I3 fun b o e => Heap.get?_push_of_some _ e
  intro s3 I3 up3
  have st3 : tn 0 s3.heap := T.keep _ _ _ st2 fun b _ o e => up3 b o e
  have lt3 : ∀ b ∈ fp, b < s3.heap.objs.size := fun b hb => by
    obtain ⟨o, e, _⟩ := T.obj _ _ st3 b hb
    exact Heap.lt_size e
  generalize hH3 : upd H2 s2.heap.objs.size (.lst []) = H3 at I3 f3 w0
  refine wpAny_newFunctionEnv c.nocell (by intro y hy; simp at hy) (fun h1 hns hsb => ?_) c.kind
  have I4 := comp_inv (src := src) (NC := NC) (ex := fp) (tk := s3.toks + ([] : List (Str × Value)).length) I3 c hsrc f3 lt3 hns hsb
  have st4 : tn 0 h1 := T.keep _ _ _ st3 fun b hb o e => hsb.extBut b o (Nat.ne_of_lt (lt3 b hb)) (Heap.get?_push_of_some _ e)
  generalize hX : cxC X scope NC fp s3 H3 = XC at I4
  have stat : ∀ {H' : Hp}, (∀ b ∈ fp, H' b = none) → ∀ b ∈ fp, FpOk XC [] H' b := fun {H'} hn b hb => by
    subst hX
    refine ⟨hn b hb, Nat.ne_of_lt (lt3 b hb), fun z => ?_, .inl hb, fun x d e => ?_, fun p hp => absurd (show p ∈ ([] : List (Addr × Obj)) from hp) (by simp)⟩
    · exact (I4.ok.exfs b hb) z
    · exact (I4.ok.exf b hb).2 x d e
  have loop : codeAny (model X.prog X.w) X.A (.compLoop (.ListComp elt [⟨tg, iter, ifs, 0⟩] scope pos) 0 (.ref it) (.ref s2.heap.objs.size) XC.env) (RR (.ref s2.heap.objs.size) s3.heap.objs.size)
      { s3 with heap := h1, toks := s3.toks + ([] : List (Str × Value)).length } := by
    refine codeAny_loop rfl (fun n s' => ∃ i σ' H', Inv XC [] σ' H' s' ∧ tn i s'.heap ∧ (∀ b ∈ fp, H' b = none) ∧ W i n σ' H') (fun n s' hI => ?_) m0 ⟨0, _, _, I4, st4, fun b hb => (f3 b hb).1, w0⟩
    obtain ⟨i, σ', H', I5, st5, fr5, w5⟩ := hI
    show wpAny _ X.A ((compTurn (.ListComp elt [⟨tg, iter, ifs, 0⟩] scope pos) 0 (.ref it) (.ref s2.heap.objs.size) XC.env).onRaise (fun x => do noteFrame x XC.env; theTreesLotGoes x)) _ _ s'
    refine wpAny_noted ?_
    rw [compTurn_list]
    have nox : ∀ {α : Type} {t : Sem α} {Q : α → Shared → Prop} {E : Value → Shared → Prop} {s : Shared}, wpAny (model XC.prog XC.w) XC.A t Q XC.xe s → wpAny (model X.prog X.w) X.A t Q E s := fun {α t Q E s} h => by
      subst hX
      exact wpAny_mono h (fun _ _ q => q) fun _ _ f => f.elim
    have hcC : XC.calm = true := by subst hX; exact hc
    have eP : XC.prog = X.prog := by subst hX; rfl
    have ew : XC.w = X.w := by subst hX; rfl
    have eK : XC.K = X.K := by subst hX; rfl
    have eA : XC.A = X.A := by subst hX; rfl
    have hgC : PG XC tg g := by subst hX; exact hg _ _
    have htC : PTs XC ifs tt := by subst hX; exact ht _ _
    have heC : PE XC elt te := by subst hX; exact he _ _
    refine wpAny_bind (wpAny_standAt (wpAny_bind ?_))
    rcases turn i n σ' H' w5 with ⟨stop, qn⟩ | ⟨go, N, hN, step⟩
    · have hd := T.done XC eP ew eK hcC i [] s' σ' H' (notedBy (model X.prog X.w) X.A XC.env fun e s' => RR (.ref s2.heap.objs.size) s3.heap.objs.size (.error e) s') I5 (stat fr5) st5 stop
      rw [eA] at hd
      refine thn hd fun r s6 ⟨hr, I6⟩ => ?_
      subst hr
      refine wpAny_pure ?_
      subst hX
      exact hRR _ s3 H3 σ' H' s6 I3 f3 I6 qn
    · have hd := T.item XC eP ew eK hcC i [] s' σ' H' (notedBy (model X.prog X.w) X.A XC.env fun e s' => RR (.ref s2.heap.objs.size) s3.heap.objs.size (.error e) s') I5 (stat fr5) st5 go
      rw [eA] at hd
      refine thn hd fun r s6 ⟨u, hr, h6⟩ => ?_
      subst hr
      refine wpAny_bind (thn h6 fun _ s7 ⟨x, H7, I7, r7, y7, st7, fr7⟩ => ?_)
      have I7' := I7.pinned (stat fr7) (T.obj _ _ st7)
      have again : ∀ {σ8 : St} {H8 : Hp} {s8 : Shared}, Inv XC ([] ++ pinsAt fp s7.heap) σ8 H8 s8 → N σ8 H8 → ∃ m, m < n ∧ ∃ i σ' H', Inv XC [] σ' H' s8 ∧ tn i s8.heap ∧ (∀ b ∈ fp, H' b = none) ∧ W i m σ' H' := fun {σ8 H8 s8} I8 n8 => by
        obtain ⟨m', hm, w8⟩ := hN σ8 H8 n8
        refine ⟨m', hm, i + 1, σ8, H8, I8.unpinned, T.keep _ _ _ st7 fun b hb o e => (I8.pin (b, o) (List.mem_append_right _ (List.mem_append_right _ (mem_pinsAt hb e)))).1, fun b hb => ?_, w8⟩
        obtain ⟨o, e, d⟩ := T.obj _ _ st7 b hb
        exact (I8.pin (b, o) (List.mem_append_right _ (List.mem_append_right _ (mem_pinsAt hb e)))).2.1
      refine wpAny_bind (nox (thn (hgC _ s7 σ' H7 x u _ I7' r7 (step x H7 y7)) fun _ s8 ⟨σ8, H8, I8, q8⟩ => ?_))
      refine wpAny_bind (nox (thn (htC _ s8 σ8 H8 _ I8 q8) fun b s9 ⟨H9, I9, q9⟩ => ?_))
      cases b with
      | false =>
        rw [if_neg Bool.false_ne_true] at q9
        exact wpAny_pure ⟨by subst hX; rfl, again I9 q9⟩
      | true =>
        rw [if_pos rfl] at q9
        refine wpAny_bind (wpAny_bind (nox (thn (heC _ s9 σ8 H9 _ I9 q9) fun y s10 ⟨v, H10, I10, r10, ys, hD, hz, q10⟩ => ?_)))
        refine wpAny_bind (nox (thn (mt_append _ s10 σ8 H10 (.ref s2.heap.objs.size) [v] _ [y] (fun _ H' => N σ8 H') I10 rfl (.cons r10 .nil) ⟨_, ys, v, rfl, rfl, hD, hz, q10⟩) fun _ s11 ⟨_, H11, I11, _, q11⟩ => ?_))
        exact wpAny_pure (wpAny_pure ⟨by subst hX; rfl, again I11 q11⟩)
  subst hX
  exact codeAny_compStart_list loop (T.self _ 0 _ _ _ st4 loop)
theorem pe_lc (hc : X.calm = true) (c : CompOk X scope) (hsrc : SrcOk scope X.N src NC) (hi : PI X tg iter wi)
    (hg : ∀ ex s H, PG (cxC X scope NC ex s H) tg g) (ht : ∀ ex s H, PTs (cxC X scope NC ex s H) ifs tt) (he : ∀ ex s H, PE (cxC X scope NC ex s H) elt te)
    (hs : ∀ x, foldedSetIterable iter X.env x = pure x := by intro _; rfl) : PE X (.ListComp elt [⟨tg, iter, ifs, 0⟩] scope pos) (tLC wi g tt te src) := by
  intro pins s σ H Q I h
  rw [eval_ListComp]
  refine wpAny_comprehension_free (use := none) rfl hs (closureFor_clOf (c.cells I.ok)) c.kind c.names (thn (hi pins s σ H _ I h) fun v s1 h1 => thn h1 fun itv s2 h2 => ?_)
  obtain ⟨it, fp, tn, J, H2, rfl, I2, T, st2, f2, hW⟩ := h2
  refine comp_block (RR := fun acc C => compPost (model X.prog X.w) X.A X.xe none (EP X pins σ Q) acc C) (Q := Q) hc c hsrc I2 T st2 f2 (hg fp) (ht fp) (he fp) hW ?_
  intro D s3 H3 σ' H' s' I3 f3 J' q
  obtain ⟨m, hn, _⟩ := J'.loc
  exact ⟨m, hn, fun h' sb => ⟨.ref D, H', comp_back I3 f3 J' sb, rfl, q⟩⟩
/-- x = [..]: the store is done ahead of the block's names -/
def tAsgLC (wi : TI) (g : TG) (tt : TT) (te : TE) (src : List (Option Nat)) (i : Nat) : TS := fun D σ H => tLC wi g tt te src σ H fun v H' => D.nx (σ.set i (some v)) H'
theorem ps_setlc {i : Nat} {x : Str} {px spos : Pos} (hc : X.calm = true) (hN : X.N.Nodup) (hi' : X.N[i]? = some x) (hx : Loc X.env.scope x) (c : CompOk X scope) (hsrc : SrcOk scope X.N src NC) (hi : PI X tg iter wi)
    (hg : ∀ ex s H, PG (cxC X scope NC ex s H) tg g) (ht : ∀ ex s H, PTs (cxC X scope NC ex s H) ifs tt) (he : ∀ ex s H, PE (cxC X scope NC ex s H) elt te)
    (hsw : swapsWith (.ListComp elt [⟨tg, iter, ifs, 0⟩] scope pos) (some (.Name x px)) spos.line X.env = pure true)
    (hf : X.fn x = true ∨ X.env.scope.names.lookup x = some .local := by first | exact .inl rfl | exact .inr rfl | assumption)
    (hs : ∀ x, foldedSetIterable iter X.env x = pure x := by intro _; rfl) : PS X (.Assign [.Name x px] (.ListComp elt [⟨tg, iter, ifs, 0⟩] scope pos) spos) (tAsgLC wi g tt te src i) := by
  intro pins s σ H D I h
  rw [exec_Assign_Name_used _ _ _ _ hsw]
  refine wpAny_bind (wpAny_standAt (wpAny_bind ?_))
  show wpAny _ X.A (do let _ ← comprehension (.ListComp elt [⟨tg, iter, ifs, 0⟩] scope pos) scope X.env _ (newList []) false (eval iter X.env) (some (assign (.Name x px) X.env))) _ _ s
  refine wpAny_bind (wpAny_mono (wpAny_comprehension_free (use := some (assign (.Name x px) X.env)) (Q := fun _ s' => SP X pins D .next s') rfl hs (closureFor_clOf (c.cells I.ok)) c.kind c.names
    (thn (hi pins s σ H _ I h) fun v s1 h1 => thn h1 fun itv s2 h2 => ?_)) (fun _ s' hq => wpAny_pure (wpAny_pure hq)) fun _ _ e => e)
  obtain ⟨it, fp, tn, J, H2, rfl, I2, T, st2, f2, hW⟩ := h2
  refine comp_block (RR := fun acc C => compPost (model X.prog X.w) X.A X.xe (some (assign (.Name x px) X.env)) (fun _ s' => SP X pins D .next s') acc C) (Q := fun v H' => D.nx (σ.set i (some v)) H') hc c hsrc I2 T st2 f2 (hg fp) (ht fp) (he fp) hW ?_
  intro a s3 H3 σ' H' s' I3 f3 J' q
  obtain ⟨m, hn, _⟩ := J'.loc
  have IX : Inv X pins σ H' s' := comp_back I3 f3 J' (.refl ..)
  show wpAny _ X.A (assign (.Name x px) X.env (.ref a)) _ _ _
  have nL : s3.heap.objs.size ≠ X.env.locals := Nat.ne_of_gt I3.lt
  have nc : ∀ y d, X.env.cells.lookup y = some d → d ≠ s3.heap.objs.size := fun y d e z => by
    obtain ⟨v, hv⟩ := I3.cell y d e
    have := hv.lt
    rw [z] at this
    exact absurd this (Nat.lt_irrefl _)
  have np : ∀ p ∈ X.pn ++ pins, p.1 ≠ s3.heap.objs.size := fun p hp z => by
    have := Heap.lt_size (I3.pin p hp).1
    rw [z] at this
    exact absurd this (Nat.lt_irrefl _)
  obtain ⟨oC, es, ep, hoC, hdC, rC⟩ := id hn
  have hHC : H' s3.heap.objs.size = none := J'.free
  have IP : Inv X ((s3.heap.objs.size, oC) :: pins) σ H' s' := IX.pins_of fun p hp => by
    rcases List.mem_cons.mp hp with z | z
    · rw [z]
      exact ⟨hoC, hHC, nL, I3.nofs (Nat.le_refl _), fun v w => by rw [hdC] at w; cases w⟩
    · exact IX.pin p (List.mem_append_right _ z)
  refine wpAny_assign_Name (store_ok (x := x) IP hN hi' hx (v := .ref a) rfl (fun s5 I5 => ?_) hf)
  have hC5 := (I5.pin (s3.heap.objs.size, oC) (List.mem_append_right _ List.mem_cons_self)).1
  refine ⟨m, ⟨oC, es, ep, hC5, hdC, rC⟩, fun h6 sb => ?_⟩
  have I5' : Inv X pins (σ.set i (some (.ref a))) H' s5 := I5.pins_of fun p hp => I5.pin p (List.mem_append_right _ (List.mem_cons_of_mem _ hp))
  exact ⟨_, H', I5'.turned (t' := s5.toks) (it := s3.heap.objs.size) (fun b o hb e => sb.extBut b o hb e) hHC nL (.inr I3.sz) nc np, q⟩
end
/-! ### the forms one uses -/
end L2

set_option Elab.async false
set_option linter.all false
set_option maxRecDepth 100000
namespace L2
open PySem PySem.Spec PyProof.Rows
/-! ### records that turn, and a tuple laid -/
section
variable {X : Cx} {pins : List (Addr × Obj)} {σ : St} {H : Hp} {s : Shared} {h' : Heap} {fp : List Addr}
theorem Inv.turnedL {t' : Nat} (I : Inv X pins σ H s) (hf : ∀ b ∈ fp, FpOk X pins H b) (k : ∀ b o, b ∉ fp → s.heap.get? b = some o → h'.get? b = some o) : Inv X pins σ H { s with heap := h', toks := t' } := by
  refine I.step (g' := s.gens) (d' := s.drawn) (ch := fp) (fun b hb => ?_) (fun b o _ _ hc e _ => k b o hc e) (fun b o _ _ hc e _ => ⟨o.slots, k b o hc e⟩) (fun _ _ _ _ n => n)
    (fun b o hc e => ⟨o, k b o hc e⟩) (fun _ _ e => e) (fun _ _ _ e => e) (fun b ps e => ⟨#[], by rw [e]; simp⟩) (fun m hm => ?_) (fun b u e => ?_) I.bare
  · obtain ⟨_, f1, _, f3, f4, f5⟩ := hf b hb
    exact ⟨f3, f1, f4, f5⟩
  · obtain ⟨o, es, ep, ho, r⟩ := hm
    exact ⟨o, es, ep, k _ o (fun z => (hf _ z).2.1 rfl) ho, r⟩
  · have nf : ∀ b u, H b = some u → b ∉ fp := fun b u e z => by rw [(hf b z).1] at e; cases e
    refine (I.hok b u e).stay (fun c v hc q => k c v ?_ q) (fun _ q => q) fun _ _ q => q
    rcases hc with z | z
    · rw [z]; exact nf b u e
    · exact nf c _ z
theorem Inv.turnLay {t' : Nat} {t : Addr} {o : HO} (I : Inv X pins σ H s) (hf : ∀ b ∈ fp, FpOk X pins H b) (k : ∀ b o, b ∉ fp → s.heap.get? b = some o → h'.get? b = some o) (ht : s.heap.objs.size ≤ t)
    (new : ObjOk X.prog X.w (upd H t o) h' t o) : Inv X pins σ (upd H t o) { s with heap := h', toks := t' } := by
  have nt : H t = none := I.hok.fresh ht
  have up : ∀ b u, H b = some u → upd H t o b = some u := fun b u e => by rw [upd_ne (ne_of_none e nt)]; exact e
  refine I.step (g' := s.gens) (d' := s.drawn) (ch := fp) (fun b hb => ?_) (fun b o _ _ hc e _ => k b o hc e) (fun b o _ _ hc e _ => ⟨o.slots, k b o hc e⟩) (fun b o _ e n => ?_)
    (fun b o hc e => ⟨o, k b o hc e⟩) (fun b xs e => up b _ e) (fun b _ _ e => up b _ e) (fun b ps e => ⟨#[], by rw [up b _ e]; simp⟩) (fun m hm => ?_) (fun b u e => ?_) I.bare
  · obtain ⟨_, f1, _, f3, f4, f5⟩ := hf b hb
    exact ⟨f3, f1, f4, f5⟩
  · rw [upd_ne (Nat.ne_of_lt (Nat.lt_of_lt_of_le (Heap.lt_size e) ht))]; exact n
  · obtain ⟨o, es, ep, ho, r⟩ := hm
    exact ⟨o, es, ep, k _ o (fun z => (hf _ z).2.1 rfl) ho, r⟩
  · by_cases hb : b = t
    · subst hb
      rw [upd_same] at e
      cases e
      exact new
    · rw [upd_ne hb] at e
      have nf : ∀ b u, H b = some u → b ∉ fp := fun b u e z => by rw [(hf b z).1] at e; cases e
      refine (I.hok b u e).stay (fun c v hc q => k c v ?_ q) (fun b' q => up b' _ q) fun b' _ q => up b' _ q
      rcases hc with z | z
      · rw [z]; exact nf b u e
      · exact nf c _ z
end
/-! ### enumerate of a list, unpacked -/
def Ite (K : PySem.W.Frag) (a : Addr) : It :=
  ⟨fun i H => ∃ xs x, SqL K H a xs ∧ xs[i]? = some x, fun i H y H' => ∃ t x, y = .ref t ∧ H t = none ∧ H' = upd H t (.tup [.int i, x]) ∧ ∀ xs, SqL K H a xs → xs[i]? = some x, fun i H => ∃ xs, SqL K H a xs ∧ xs.length ≤ i⟩
theorem isTup_pair {h : Heap} {t : Addr} {u v : Value} (e : h.get? t = some { cls := .type "tuple", data := .seq #[u, v] }) : IsTup h t [u, v].toArray := ⟨_, e, rfl, _, rfl⟩
theorem turn_enum {P : Program} {w : World} {K : PySem.W.Frag} {es : List Expr} {k1} {tp : Pos} (a e it : Addr) (ne : e ≠ it) :
    Turn P w K (.Tuple es k1 tp) (Ite K a) [e, it] e (fun i h => (∃ old, IsEnum h e it i old) ∧ h.IsListIter it a i) where
  mem := by simp
  obj := fun i h st b hb => by
    obtain ⟨⟨old, he⟩, o, e2, c, d⟩ := st
    rcases List.mem_cons.mp hb with z | z
    · subst z
      exact ⟨_, he, fun v w => by cases w⟩
    · have z' : b = it := by simpa using z
      subst z'
      exact ⟨o, e2, fun v z => by rw [d] at z; cases z⟩
  keep := fun i h h' st k => by
    obtain ⟨⟨old, he⟩, st2⟩ := st
    exact ⟨⟨old, k e (by simp) _ he⟩, st2.at fun o q => k it (by simp) o q⟩
  item := by
    intro X hP hw hK hc i pins s σ H E I hf st hg
    subst hP hw hK
    obtain ⟨xs, x, hq, hx⟩ := hg
    obtain ⟨its, rv, p, hz⟩ := I.list hq
    obtain ⟨u, hu, ru⟩ := rv.get hx
    obtain ⟨⟨old, he⟩, hit⟩ := st
    refine wpAny_pyNext_enum_item he hit p.isList (x := u) (by simpa using hu) ne fun h' he' hit' ht' hsz' kk => ?_
    have k2 : ∀ b o, b ∉ [e, it] → s.heap.get? b = some o → h'.get? b = some o := fun b o hb q => kk b o (fun z => hb (by simp [z])) (fun z => hb (by simp [z])) q
    have I1 : Inv X pins σ (upd H s.heap.objs.size (.tup [.int i, x])) { s with heap := h', toks := s.toks + 1 } :=
      I.turnLay hf k2 (Nat.le_refl _) ⟨by show 2 ≤ sizeLine; decide, [.int i s.toks, u], .cons ⟨_, rfl⟩ (.cons ru .nil), isTup_pair ht'⟩
    refine ⟨_, rfl, wpAny_letOwnedTupleGo_enum he' fun h2 he2 sb => ?_⟩
    have lt : ∀ b ∈ [e, it], b < s.heap.objs.size := fun b hb => by
      rcases List.mem_cons.mp hb with z | z
      · rw [z]; exact Heap.lt_size he
      · obtain ⟨o, e2, _⟩ := hit
        have z' : b = it := by simpa using z
        rw [z']; exact Heap.lt_size e2
    have hf1 : ∀ b ∈ [e, it], FpOk X pins (upd H s.heap.objs.size (.tup [.int i, x])) b := fun b hb => ⟨by rw [upd_ne (Nat.ne_of_lt (lt b hb))]; exact (hf b hb).1, (hf b hb).2⟩
    refine ⟨.ref s.heap.objs.size, _, I1.turnedL (t' := s.toks + 1) hf1 (fun b o hb q => sb.extBut b o (fun z => hb (by simp [z])) q), rfl, ⟨_, x, rfl, I.hok.fresh (Nat.le_refl _), rfl, fun ys hy => by rw [I.list_inj hy hq]; exact hx⟩, ⟨⟨u, ?_⟩, hit'.extBut sb.extBut (Ne.symm ne)⟩, fun b hb => (hf1 b hb).1⟩
    have z : ((i + 1 : Nat) : Int) = (i : Int) + 1 := by omega
    rw [z]
    exact he2
  done := by
    intro X hP hw hK hc i pins s σ H E I hf st hg
    subst hP hw hK
    obtain ⟨xs, hq, hx⟩ := hg
    obtain ⟨its, rv, p, hz⟩ := I.list hq
    have hl := rv.length
    obtain ⟨⟨old, he⟩, hit⟩ := st
    exact wpAny_pyNext_enum_end (I.ok.hd hc) he hit p.isList (by simp; omega) fun h' eb => ⟨rfl, I.turnedL (t' := s.toks) hf fun b o hb q => eb b o (fun z => hb (by simp [z])) q⟩
  self := fun _ _ _ _ _ st h => by
    obtain ⟨⟨old, he⟩, _⟩ := st
    exact wpAny_pyIter_enum he h
section
variable {X : Cx}
def iEnum (K : PySem.W.Frag) (ta : TA) : TI := fun σ H R => ta σ H fun vs H1 => ∃ a, vs = [.ref a] ∧ (∃ xs, H1 a = some (.lst xs)) ∧ R (Ite K a) H1
theorem pi_enum {a : Expr} {ta : TA} {p pos : Pos} {es : List Expr} {k1} {tp : Pos} (hg : Gl X "enumerate") (hm : X.mg "enumerate" = none) (ha : PA X [a] ta) (hs : starEach [a] X.env = [(false, eval a X.env)] := by rfl) :
    PI X (.Tuple es k1 tp) (.Call (.Name "enumerate" p) [a] [] pos) (iEnum X.K ta) := by
  intro pins s σ H R I h
  refine Call_ (ld_blt I hg hm boot_enumerate (PyProof.Rows.callWith_type1 (thn (ha pos pins s σ H _ I h) fun us s1 ⟨vs, H1, I1, r1, q1⟩ => ?_) hs rfl))
  obtain ⟨l, e, ⟨xs, hl⟩, q⟩ := q1
  subst e
  obtain ⟨u, rfl, ru⟩ := r1.one
  cases ru
  obtain ⟨z, its, n, rv, hlen, e⟩ := I1.lstM hl
  refine call_enumerate_1 e fun h' he hit hsz kk => ?_
  refine wpAny_pyIter_enum he ?_
  have hne : s1.heap.objs.size + 1 ≠ s1.heap.objs.size := Nat.succ_ne_self _
  refine ⟨s1.heap.objs.size + 1, [s1.heap.objs.size + 1, s1.heap.objs.size], _, _, H1, rfl, I1.kept (t' := s1.toks) kk, turn_enum l _ _ hne, ⟨⟨_, he⟩, hit⟩, fun b hb => ?_, q⟩
  have hb' : s1.heap.objs.size ≤ b := by
    rcases List.mem_cons.mp hb with z | z
    · rw [z]; exact Nat.le_succ _
    · have z' : b = s1.heap.objs.size := by simpa using z
      rw [z']; exact Nat.le_refl _
  exact I1.fpOk hb' (I1.hok.fresh hb')
end
end L2


namespace Wb
abbrev W := List (List Nat)
def row (w : W) (p : Nat) : List Nat := w.getD p []
inductive Reach (w : W) : Nat → Nat → Prop
  | refl (p) : Reach w p p
  | step {p q r} : Reach w p q → r ∈ row w q → Reach w p r
structure Good (w : W) : Prop where
  rng : ∀ p q, q ∈ row w p → q < w.length
  irr : ∀ p, p ∉ row w p
  nod : ∀ p, (row w p).Nodup
  sym : ∀ p q, q ∈ row w p → p ∈ row w q
  con : ∀ p, p < w.length → Reach w 0 p
theorem row_lt {w : W} {p q : Nat} (h : q ∈ row w p) : p < w.length := by
  apply Classical.byContradiction; intro hn
  unfold row at h
  rw [List.getD_eq_getElem?_getD, List.getElem?_eq_none (by omega)] at h
  simp at h
theorem row_get {w : W} {p : Nat} (h : p < w.length) : w[p]? = some (row w p) := by
  unfold row; rw [List.getD_eq_getElem?_getD, List.getElem?_eq_getElem h]; rfl
theorem row_of {w : W} {p : Nat} {r : List Nat} (h : w[p]? = some r) : row w p = r := by
  unfold row; rw [List.getD_eq_getElem?_getD, h]; rfl
theorem row_out {w : W} {p : Nat} (h : w.length ≤ p) : row w p = [] := by
  unfold row; rw [List.getD_eq_getElem?_getD, List.getElem?_eq_none h]; rfl
theorem Reach.trans {w : W} {p q r : Nat} (h : Reach w p q) (h' : Reach w q r) : Reach w p r := by
  induction h' with
  | refl => exact h
  | step _ hr ih => exact .step ih hr
theorem Reach.symm {w : W} (hs : ∀ p q, q ∈ row w p → p ∈ row w q) {p q : Nat} (h : Reach w p q) : Reach w q p := by
  induction h with
  | refl => exact .refl _
  | step _ hr ih => exact (Reach.step (.refl _) (hs _ _ hr)).trans ih
theorem Reach.mono {w w' : W} (hm : ∀ p q, q ∈ row w p → q ∈ row w' p) {p q : Nat} (h : Reach w p q) : Reach w' p q := by
  induction h with
  | refl => exact .refl _
  | step _ hr ih => exact .step ih (hm _ _ hr)
/-! insertion -/
def ins {α : Type} (xs : List α) (i : Nat) (x : α) : List α := xs.take i ++ x :: xs.drop i
theorem ins_perm {α : Type} (xs : List α) (i : Nat) (x : α) : (ins xs i x).Perm (x :: xs) := by
  unfold ins
  have h := @List.perm_middle _ x (xs.take i) (xs.drop i)
  rw [List.take_append_drop] at h
  exact h
theorem mem_ins {α : Type} {xs : List α} {i : Nat} {x a : α} : a ∈ ins xs i x ↔ a = x ∨ a ∈ xs := by
  rw [(ins_perm xs i x).mem_iff, List.mem_cons]
theorem nodup_ins {α : Type} {xs : List α} {i : Nat} {x : α} (h : xs.Nodup) (hx : x ∉ xs) : (ins xs i x).Nodup := by
  rw [(ins_perm xs i x).nodup_iff, List.nodup_cons]; exact ⟨hx, h⟩
theorem ins_len {α : Type} (xs : List α) (i : Nat) (x : α) : (ins xs i x).length = xs.length + 1 := by
  rw [(ins_perm xs i x).length_eq]; rfl
/-! a row set -/
/-- points numbered anew, turns begun elsewhere -/
theorem good_ren {w w' : W} {ord : Nat → Nat} (g : Good w) (hl : w'.length = w.length) (into : ∀ p, p < w.length → ord p < w.length)
    (inj : ∀ p q, p < w.length → q < w.length → ord p = ord q → p = q) (sur : ∀ y, y < w.length → ∃ p, p < w.length ∧ ord p = y)
    (hrow : ∀ p, p < w.length → (row w' (ord p)).Perm ((row w p).map ord)) : Good w' := by
  have mem : ∀ p q, p < w.length → (q ∈ row w' (ord p) ↔ ∃ a, a ∈ row w p ∧ ord a = q) := fun p q hp => by
    rw [(hrow p hp).mem_iff, List.mem_map]
  have reach : ∀ {p q}, Reach w p q → Reach w' (ord p) (ord q) := fun {p q} h => by
    induction h with
    | refl => exact .refl _
    | step _ hr ih => exact .step ih ((mem _ _ (row_lt hr)).mpr ⟨_, hr, rfl⟩)
  refine ⟨fun y q hy => ?_, fun y hy => ?_, fun y => ?_, fun y q hy => ?_, fun y hy => ?_⟩
  · obtain ⟨p, hp, rfl⟩ := sur y (by have := row_lt hy; omega)
    obtain ⟨a, ha, rfl⟩ := (mem p q hp).mp hy
    rw [hl]; exact into a (g.rng _ _ ha)
  · obtain ⟨p, hp, rfl⟩ := sur y (by have := row_lt hy; omega)
    obtain ⟨a, ha, e⟩ := (mem p _ hp).mp hy
    have := inj a p (g.rng _ _ ha) hp e
    subst this; exact g.irr _ ha
  · by_cases hy : y < w.length
    · obtain ⟨p, hp, rfl⟩ := sur y hy
      rw [(hrow p hp).nodup_iff]
      unfold List.Nodup
      rw [List.pairwise_map]
      refine List.Pairwise.imp_of_mem ?_ (g.nod p)
      intro a b ha hb ne e
      exact ne (inj a b (g.rng _ _ ha) (g.rng _ _ hb) e)
    · rw [row_out (by omega)]; exact List.nodup_nil
  · obtain ⟨p, hp, rfl⟩ := sur y (by have := row_lt hy; omega)
    obtain ⟨a, ha, rfl⟩ := (mem p q hp).mp hy
    exact (mem a _ (g.rng _ _ ha)).mpr ⟨p, g.sym _ _ ha, rfl⟩
  · rw [hl] at hy
    obtain ⟨p, hp, rfl⟩ := sur y hy
    obtain ⟨z, hz, e0⟩ := sur 0 (by omega)
    have h1 := reach (((g.con z hz).symm g.sym).trans (g.con p hp))
    rw [e0] at h1; exact h1
/-! darts, and the round from one of them -/
def succR (l : List Nat) (x : Nat) : Nat := l.getD ((l.idxOf x + 1) % l.length) 0
def nxt (w : W) (d : Nat × Nat) : Nat × Nat := (d.2, succR (row w d.2) d.1)
def Dart (w : W) (d : Nat × Nat) : Prop := d.2 ∈ row w d.1
theorem succR_get {l : List Nat} {x : Nat} (h : x ∈ l) : l[(l.idxOf x + 1) % l.length]? = some (succR l x) := by
  have hp : 0 < l.length := List.length_pos_of_mem h
  unfold succR
  rw [List.getD_eq_getElem?_getD, List.getElem?_eq_getElem (Nat.mod_lt _ hp)]; rfl
theorem succR_mem {l : List Nat} {x : Nat} (h : x ∈ l) : succR l x ∈ l := List.mem_of_getElem? (succR_get h)
theorem mod_inj {a b n : Nat} (ha : a < n) (hb : b < n) (e : (a + 1) % n = (b + 1) % n) : a = b := by
  by_cases h1 : a + 1 = n
  · by_cases h2 : b + 1 = n
    · omega
    · rw [h1, Nat.mod_self, Nat.mod_eq_of_lt (by omega)] at e; omega
  · by_cases h2 : b + 1 = n
    · rw [h2, Nat.mod_self, Nat.mod_eq_of_lt (by omega)] at e; omega
    · rw [Nat.mod_eq_of_lt (by omega), Nat.mod_eq_of_lt (by omega)] at e; omega
theorem succR_inj {l : List Nat} {x y : Nat} (nd : l.Nodup) (hx : x ∈ l) (hy : y ∈ l) (e : succR l x = succR l y) : x = y := by
  have hp : 0 < l.length := List.length_pos_of_mem hx
  have h1 := succR_get hx
  have h2 := succR_get hy
  rw [e] at h1
  have lx := List.idxOf_lt_length_iff.mpr hx
  have ly := List.idxOf_lt_length_iff.mpr hy
  obtain ⟨a1, b1⟩ := List.getElem?_eq_some_iff.mp h1
  obtain ⟨a2, b2⟩ := List.getElem?_eq_some_iff.mp h2
  have q := (List.getElem_inj nd).mp (b1.trans b2.symm)
  have q2 := mod_inj lx ly q
  have e1 := List.getElem_idxOf lx
  have e2 := List.getElem_idxOf ly
  rw [← e1, ← e2]
  simp only [q2]
theorem nxt_dart {w : W} {d : Nat × Nat} (g : Good w) (h : Dart w d) : Dart w (nxt w d) := succR_mem (g.sym _ _ h)
theorem nxt_inj {w : W} {d e : Nat × Nat} (g : Good w) (h : Dart w d) (h' : Dart w e) (q : nxt w d = nxt w e) : d = e := by
  have e2 : d.2 = e.2 := congrArg Prod.fst q
  have e1 : succR (row w d.2) d.1 = succR (row w e.2) e.1 := congrArg Prod.snd q
  rw [← e2] at e1
  have h1 : d.1 ∈ row w d.2 := g.sym _ _ h
  have h2 : e.1 ∈ row w d.2 := by rw [e2]; exact g.sym _ _ h'
  exact Prod.ext (succR_inj (g.nod _) h1 h2 e1) e2
def darts (w : W) : List (Nat × Nat) := (List.range w.length).flatMap fun p => (row w p).map fun q => (p, q)
theorem mem_darts {w : W} {d : Nat × Nat} : d ∈ darts w ↔ Dart w d := by
  unfold darts Dart
  rw [List.mem_flatMap]
  constructor
  · rintro ⟨p, _, h⟩
    obtain ⟨q, hq, rfl⟩ := List.mem_map.mp h
    exact hq
  · intro h
    exact ⟨d.1, List.mem_range.mpr (row_lt h), List.mem_map.mpr ⟨d.2, h, rfl⟩⟩
theorem len_le_of_subset {α : Type} [DecidableEq α] : ∀ {l m : List α}, l.Nodup → (∀ x ∈ l, x ∈ m) → l.length ≤ m.length
  | [], _, _, _ => Nat.zero_le _
  | a :: r, m, nd, h => by
    have nd' := List.nodup_cons.mp nd
    have am := h a List.mem_cons_self
    have ih := len_le_of_subset (l := r) (m := m.erase a) nd'.2 fun x hx => (List.mem_erase_of_ne (fun (e : x = a) => nd'.1 (by rw [← e]; exact hx))).mpr (h x (List.mem_cons_of_mem _ hx))
    rw [List.length_erase_of_mem am] at ih
    have := List.length_pos_of_mem am
    simp only [List.length_cons]; omega
theorem row_len {w : W} (g : Good w) (p : Nat) : (row w p).length ≤ w.length := by
  have := len_le_of_subset (m := List.range w.length) (g.nod p) fun x hx => List.mem_range.mpr (g.rng _ _ hx)
  simpa using this
theorem flat_len {α β : Type} {f : α → List β} {k : Nat} : ∀ {l : List α}, (∀ x ∈ l, (f x).length ≤ k) → (l.flatMap f).length ≤ l.length * k
  | [], _ => by simp
  | a :: r, h => by
    have ih := flat_len (f := f) (k := k) (l := r) fun x hx => h x (List.mem_cons_of_mem _ hx)
    have := h a List.mem_cons_self
    rw [List.flatMap_cons, List.length_append, List.length_cons, Nat.succ_mul]; omega
theorem darts_len {w : W} (g : Good w) : (darts w).length ≤ w.length * w.length := by
  have := flat_len (f := fun p => (row w p).map fun q => (p, q)) (k := w.length) (l := List.range w.length) fun x _ => by rw [List.length_map]; exact row_len g x
  rw [List.length_range] at this
  exact this
/-! what is reached from 0 -/
/-- a set of points that has 0 and is closed along ties is all of them -/
theorem closed_all {w : W} (g : Good w) {S : Nat → Prop} (h0 : S 0) (hc : ∀ p q, S p → q ∈ row w p → S q) : ∀ p, p < w.length → S p := fun p hp => by
  have : ∀ {a b}, Reach w a b → S a → S b := fun {a b} h ha => by
    induction h with
    | refl => exact ha
    | step _ hr ih => exact hc _ _ ih hr
  exact this (g.con p hp) h0
/-! the ties, sorted -/
end Wb

set_option Elab.async false
set_option linter.all false
set_option maxRecDepth 100000
namespace L2
open PySem PySem.Spec PyProof.Rows
section
variable {X : Cx}
theorem Vals.ins {x : V} {u : Value} (r : RelV x u) {xs : List V} {us : List Value} (i : Nat) (h : Vals xs us) : Vals (Wb.ins xs i x) (Wb.ins us i u) := (h.take i).append (.cons r (h.drop i))
/-- xs.insert(i, y), i in 0 .. len -/
def rInsert : V → List V → Hp → VK → Prop := fun x vs H Q => ∃ l xs i y, x = .ref l ∧ vs = [.int i, y] ∧ H l = some (.lst xs) ∧ 0 ≤ i ∧ i ≤ xs.length ∧ xs.length < sizeLine ∧ Q .non (upd H l (.lst (Wb.ins xs i.toNat y)))
theorem mt_insert : MtM X "list.insert" rInsert := by
  intro pins s σ H x vs v us Q I rx rv h
  obtain ⟨l, xs, i, y, rfl, rfl, hH, h0, h1, hz, q⟩ := h
  cases rx
  obtain ⟨u1, u2, rfl, ⟨t, rfl⟩, ru⟩ := rv.two
  obtain ⟨z, its, n, r, hl, e⟩ := I.lstM hH
  have hlt := line63
  have hfit : ¬ (!Builtin.List.listFitsIndex i) = true := by
    rw [fitsIndex_both (by omega) (by omega)]
    exact Bool.false_ne_true
  refine call_meets F.slot_list_insert ⟨_, e, rfl⟩ F.entry_list_insert (F.args_list_insert_3 _ _ _) (AutoSeq1.list_insert_list_int_val_1 l its.toArray n i t u2 hfit (by rw [List.size_toArray]; omega)) ⟨e, ?_⟩
  refine ⟨.non, _, I.lset (its' := Wb.ins its i.toNat u2) hH e ?_ (r.ins ru i.toNat) ?_, rfl, q⟩
  · have hi : ¬ i < 0 := by omega
    have hm : min i.toNat its.length = i.toNat := by omega
    simp only [hi, if_false, List.size_toArray, hm]
    apply Array.toList_inj.mp
    unfold Wb.ins
    simp
    exact List.take_of_length_le (by rw [List.length_drop]; omega)
  · rw [Wb.ins_len]; omega
/-- xs.index(y): the first place at which it stands -/
def rIndex (K : PySem.W.Frag) : V → List V → Hp → VK → Prop := fun x vs H Q => ∃ (l : Addr) (xs : List V) (y : V) (j : Nat) (z : V), x = .ref l ∧ vs = [y] ∧ H l = some (.lst xs) ∧ flatV y = true ∧ xs.all flatV = true ∧ xs[j]? = some z ∧ eqV z y = true ∧
  (∀ (m : Nat) z, m < j → xs[m]? = some z → eqV z y = false) ∧ Q (.int j) H
theorem mt_index : MtM X "list.index" (rIndex X.K) := by
  intro pins s σ H x vs v us Q I rx rv h
  obtain ⟨l, xs, y, j, z, rfl, rfl, hH, fy, fs, hz, ez, hno, q⟩ := h
  cases rx
  obtain ⟨u, rfl, ru⟩ := rv.one
  obtain ⟨hsz, its, n, r, hl, e⟩ := I.lstM hH
  obtain ⟨w, hw, rw'⟩ := r.get hz
  have hj : j < its.toArray.size := by
    obtain ⟨h1, _⟩ := List.getElem?_eq_some_iff.mp hw
    simpa using h1
  have flat : ∀ (m : Nat) z, xs[m]? = some z → flatV z = true := fun m z h => (List.all_eq_true.mp fs) z (List.mem_of_getElem? h)
  have hwj : its.toArray[j] = w := by
    obtain ⟨h1, h2⟩ := List.getElem?_eq_some_iff.mp hw
    simpa using h2
  have hlt := line63
  have hj' : j < xs.length := by
    obtain ⟨h1, _⟩ := List.getElem?_eq_some_iff.mp hz
    exact h1
  refine call_meets F.slot_list_index ⟨_, e, rfl⟩ F.entry_list_index (F.args_list_index_2 _ _) (SeqAt.list_indexAt l its.toArray n none #[] u (eqU y) j hj (by omega) ?_ ?_) ⟨e, fun w hw => mem_eqAt ru fy r fs w (by simpa using hw), ?_⟩
  · rw [hwj, eqU_of rw' (flat j z hz)]; exact ez
  · intro m hm hmj
    have hm' : m < its.length := by simpa using hm
    obtain ⟨zm, hzm⟩ : ∃ zm, xs[m]? = some zm := ⟨_, List.getElem?_eq_getElem (by omega)⟩
    obtain ⟨wm, hwm, rwm⟩ := r.get hzm
    have ewm : its.toArray[m] = wm := by
      obtain ⟨h1, h2⟩ := List.getElem?_eq_some_iff.mp hwm
      simpa using h2
    rw [ewm, eqU_of rwm (flat m zm hzm)]
    exact hno m zm hmj hzm
  · exact ⟨.int j, H, I.tok _, ⟨_, rfl⟩, q⟩
end
end L2

set_option Elab.async false
set_option linter.all false
set_option maxRecDepth 100000
namespace L2
open PySem PySem.Spec PyProof.Rows
/-! ### == and != of data at any depth -/
mutual
inductive Dp (K : PySem.W.Frag) (H : Hp) : V → PyData → Prop
  | non : Dp K H .non .none
  | bl (b : Bool) : Dp K H (.bl b) (.bool b)
  | int (i : Int) : Dp K H (.int i) (.int i)
  | str (x : Str) (h : PyData.strOk x = true) : Dp K H (.str x) (.str x)
  | lst {a : Addr} {xs : List V} {ds : List PyData} : SqL K H a xs → DpAll K H xs ds → Dp K H (.ref a) (.list ds)
  | tup {a : Addr} {xs : List V} {ds : List PyData} : SqT K H a xs → DpAll K H xs ds → Dp K H (.ref a) (.tuple ds)
inductive DpAll (K : PySem.W.Frag) (H : Hp) : List V → List PyData → Prop
  | nil : DpAll K H [] []
  | cons {v : V} {vs : List V} {d : PyData} {ds : List PyData} : Dp K H v d → DpAll K H vs ds → DpAll K H (v :: vs) (d :: ds)
end
section
variable {X : Cx} {pins : List (Addr × Obj)} {σ : St} {H : Hp} {s : Shared}
mutual
theorem Dp.reads (I : Inv X pins σ H s) : ∀ {v : V} {d : PyData} {u : Value}, Dp X.K H v d → RelV v u → (∃ as, Reads s.heap u d as) ∧ d.canLay0 = true
  | _, _, _, .non, r => by cases r; exact ⟨⟨_, .none⟩, rfl⟩
  | _, _, _, .bl b, r => by cases r; exact ⟨⟨_, .bool b⟩, rfl⟩
  | _, _, _, .int i, r => by obtain ⟨t, rfl⟩ := r; exact ⟨⟨_, .int i t⟩, rfl⟩
  | _, _, _, .str x h, r => by obtain ⟨t, rfl⟩ := r; exact ⟨⟨_, .str x t⟩, by simpa [PyData.canLay0] using h⟩
  | _, _, _, .lst h a, r => by
    cases r
    obtain ⟨its, rv, pl, hz⟩ := I.list h
    obtain ⟨⟨as, ra⟩, c⟩ := DpAll.reads I a rv
    obtain ⟨o, ho, hc, n, hd⟩ := pl.isList
    exact ⟨⟨_, .list ho hc hd (by simpa using ra)⟩, by simpa [PyData.canLay0] using c⟩
  | _, _, _, .tup h a, r => by
    cases r
    obtain ⟨its, rv, pl, hz⟩ := I.tuple h
    obtain ⟨⟨as, ra⟩, c⟩ := DpAll.reads I a rv
    obtain ⟨o, ho, hc, n, hd⟩ := pl
    exact ⟨⟨_, .tuple ho hc hd (by simpa using ra)⟩, by simpa [PyData.canLay0] using c⟩
theorem DpAll.reads (I : Inv X pins σ H s) : ∀ {vs : List V} {ds : List PyData} {us : List Value}, DpAll X.K H vs ds → Vals vs us → (∃ as, ReadsAll s.heap us ds as) ∧ PyData.canLayAll0 ds = true
  | _, _, _, .nil, .nil => ⟨⟨_, .nil⟩, by simp [PyData.canLayAll0]⟩
  | _, _, _, .cons a as, .cons r rs => by
    obtain ⟨⟨x, h1⟩, c1⟩ := Dp.reads I a r
    obtain ⟨⟨y, h2⟩, c2⟩ := DpAll.reads I as rs
    exact ⟨⟨_, .cons h1 h2⟩, by simp [PyData.canLayAll0, c1, c2]⟩
end
end
section
variable {X : Cx}
def rEqD (K : PySem.W.Frag) : R2 := fun x y H Q => ∃ d e, Dp K H x d ∧ Dp K H y e ∧ d.depth ≤ 64 ∧ Q (.bl (PyData.eqv d e)) H
def rNeD (K : PySem.W.Frag) : R2 := fun x y H Q => ∃ d e, Dp K H x d ∧ Dp K H y e ∧ d.depth ≤ 64 ∧ Q (.bl (!PyData.eqv d e)) H
theorem op_eqD (hu : X.A.units + 64 < cLine) : OpR X (compareOp .Eq) (rEqD X.K) := by
  intro pins s σ H x y v u Q I rx ry h
  obtain ⟨d, e, hd, he, hz, q⟩ := h
  obtain ⟨⟨as, r1⟩, c1⟩ := hd.reads I rx
  obtain ⟨⟨bs, r2⟩, c2⟩ := he.reads I ry
  exact SeqAt.compareEq_reads r1 r2 c1 c2 (by have := Nat.min_le_left d.depth e.depth; omega) ⟨.bl _, H, I, rfl, q⟩
theorem op_neD (hu : X.A.units + 64 < cLine) : OpR X (compareOp .NotEq) (rNeD X.K) := by
  intro pins s σ H x y v u Q I rx ry h
  obtain ⟨d, e, hd, he, hz, q⟩ := h
  obtain ⟨⟨as, r1⟩, c1⟩ := hd.reads I rx
  obtain ⟨⟨bs, r2⟩, c2⟩ := he.reads I ry
  exact SeqAt.compareNe_reads r1 r2 c1 c2 (by have := Nat.min_le_left d.depth e.depth; omega) ⟨.bl _, H, I, rfl, q⟩
end
/-! the data of this law -/
def nD (n : Nat) : PyData := .int n
def rowD (r : List Nat) : PyData := .list (r.map nD)
theorem eqvAll_map {α : Type} {f : α → PyData} (hf : ∀ a b, PyData.eqv (f a) (f b) = true ↔ a = b) : ∀ xs ys : List α, PyData.eqvAll (xs.map f) (ys.map f) = true ↔ xs = ys
  | [], [] => by simp [PyData.eqvAll]
  | [], _ :: _ => by simp [PyData.eqvAll]
  | _ :: _, [] => by simp [PyData.eqvAll]
  | a :: xs, b :: ys => by
    have ih := eqvAll_map hf xs ys
    simp [PyData.eqvAll, hf, ih]
theorem eqv_nD (a b : Nat) : PyData.eqv (nD a) (nD b) = true ↔ a = b := by
  simp [nD, PyData.eqv]
  omega
theorem eqv_rowD (a b : List Nat) : PyData.eqv (rowD a) (rowD b) = true ↔ a = b := by
  unfold rowD
  rw [PyData.eqv]
  exact eqvAll_map eqv_nD a b
theorem depthAll_map {α : Type} {f : α → PyData} {k : Nat} (hf : ∀ a, (f a).depth ≤ k) : ∀ xs : List α, PyData.depthAll (xs.map f) ≤ k
  | [] => by simp [PyData.depthAll]
  | a :: xs => by
    have := hf a
    have ih := depthAll_map hf xs
    simp [PyData.depthAll]
    omega
theorem depth_rowD (a : List Nat) : (rowD a).depth ≤ 2 := by
  unfold rowD
  rw [PyData.depth]
  have := depthAll_map (f := nD) (k := 1) (fun n => by simp [nD, PyData.depth]) a
  omega
def webD (w : List (List Nat)) : PyData := .list (w.map rowD)
theorem eqv_webD (a b : List (List Nat)) : PyData.eqv (webD a) (webD b) = true ↔ a = b := by
  unfold webD
  rw [PyData.eqv]
  exact eqvAll_map eqv_rowD a b
theorem depth_webD (a : List (List Nat)) : (webD a).depth ≤ 3 := by
  unfold webD
  rw [PyData.depth]
  have := depthAll_map (f := rowD) (k := 2) depth_rowD a
  omega
end L2

set_option Elab.async false
set_option linter.all false
set_option maxRecDepth 100000
namespace L2
open PySem PySem.Spec PyProof.Rows
theorem Vals.of_get : ∀ {xs : List V} {us : List Value}, xs.length = us.length → (∀ (k : Nat) x u, xs[k]? = some x → us[k]? = some u → RelV x u) → Vals xs us
  | [], [], _, _ => .nil
  | [], _ :: _, h, _ => by simp at h
  | _ :: _, [], h, _ => by simp at h
  | x :: xs, u :: us, h, r => .cons (r 0 x u rfl rfl) (Vals.of_get (by simpa using h) fun k y w h1 h2 => r (k + 1) y w (by simpa using h1) (by simpa using h2))
section
variable {X : Cx}
/-- all(xs), a list of bools -/
theorem call_all (hc : X.calm = true) : CallR X (.builtin "all") (fun xs H Q => ∃ (p : Addr) (bs : List Bool), xs = [.ref p] ∧ H p = some (.lst (bs.map V.bl)) ∧ Q (.bl (bs.all id)) H) := by
  intro pins s σ H xs us Q I rv h
  obtain ⟨p, bs, rfl, hp, q⟩ := h
  obtain ⟨u, rfl, ru⟩ := rv.one
  cases ru
  obtain ⟨its, r, pl, hz⟩ := I.list (SqL.of hp)
  have hl := r.length
  rw [List.length_map] at hl
  refine call_all_walk (wpAny_pyIter_list pl.isList ?_)
  have hne : p ≠ s.heap.objs.size := by
    obtain ⟨o, ho, _⟩ := pl.isList
    exact Nat.ne_of_lt (Heap.lt_size ho)
  have itv : ∀ i : Nat, i < its.length → ∃ b, bs[i]? = some b ∧ its[i]? = some (.bool b) := fun i hi => by
    obtain ⟨b, hb⟩ : ∃ b, bs[i]? = some b := ⟨_, List.getElem?_eq_getElem (by omega)⟩
    obtain ⟨w, hw, rw'⟩ := r.get (i := i) (x := .bl b) (by rw [List.getElem?_map, hb]; rfl)
    cases rw'
    exact ⟨b, hb, hw⟩
  refine ⟨_, _, _, its.toArray.size, _, _, fun i => bs.getD i false, rfl, Walks.list (show X.A.in1.handled = none from I.ok.hd hc) s.heap.objs.size p hne its.toArray, ⟨⟨_, Heap.get?_push_size _ rfl, rfl, rfl⟩, pl.isList.push _⟩, ?_, fun h' tk kk => ?_⟩
  · intro i v s Q E hv hq
    have hv' : its[i]? = some v := by simpa using hv
    have hi : i < its.length := by
      obtain ⟨h1, _⟩ := List.getElem?_eq_some_iff.mp hv'
      exact h1
    obtain ⟨b, hb, hw⟩ := itv i hi
    rw [hw] at hv'
    cases hv'
    refine wpAny_truthy_bool ?_
    have hq' : Q (bs.getD i false) s := hq
    rw [List.getD_eq_getElem?_getD, hb] at hq'
    exact hq'
  · have kept : ∀ b o, s.heap.get? b = some o → h'.get? b = some o := fun b o e => kk b o (by simp; exact Nat.ne_of_lt (Heap.lt_size e)) (Heap.get?_push_of_some _ e)
    have e : (List.range its.toArray.size).all (fun i => bs.getD i false) = bs.all id := by
      rw [List.size_toArray, ← hl]
      rw [Bool.eq_iff_iff, List.all_eq_true, List.all_eq_true]
      constructor
      · intro h x hx
        obtain ⟨i, hi, rfl⟩ := List.mem_iff_getElem.mp hx
        have := h i (List.mem_range.mpr hi)
        rw [List.getD_eq_getElem?_getD, List.getElem?_eq_getElem hi] at this
        exact this
      · intro h i hi
        have hi' := List.mem_range.mp hi
        rw [List.getD_eq_getElem?_getD, List.getElem?_eq_getElem hi']
        exact h _ (List.getElem_mem hi')
    rw [e]
    exact ⟨.bl _, H, I.kept kept, rfl, q⟩
/-- isinstance(x, int) and the like -/
theorem call_isinst : CallR X (.builtin "isinstance") (fun xs H Q => ∃ (x : V) (n : String) (t : Value) (b : Bool), xs = [x, .ty n] ∧ TyOf X.K H x t ∧ PySem.W.kitOne X.K t (.type n) = some b ∧ Q (.bl b) H) := by
  intro pins s σ H xs us Q I rv h
  obtain ⟨x, n, t, b, rfl, ty, e, q⟩ := h
  obtain ⟨u1, u2, rfl, r1, r2⟩ := rv.two
  cases r2
  exact isinst_ok I r1 ty e fun tk => ⟨.bl b, H, I.tok _, rfl, q⟩
end
end L2










set_option Elab.async false
set_option linter.all false
set_option maxRecDepth 100000
set_option maxHeartbeats 4000000
namespace L2
open PySem
theorem CompOk.of {X : Cx} {scope : Scope} (sc : Scope) (e : X.env.scope = sc) (k : scope.kind = .function) (a : ∀ x ∈ scope.names, x.2 = .local → scope.names.lookup x.1 = some .local) (b : ∀ x ∈ scope.names, x.2 ≠ .cell)
    (c : ∀ x ∈ scope.names, x.2 = .free → sc.names.lookup x.1 = some .cell ∨ sc.names.lookup x.1 = some .free) : CompOk X scope := ⟨k, a, b, fun x hx hf => by rw [← e] at c; exact c x hx hf⟩
/-- a def of the text -/
structure Dfn (K : PySem.W.Frag) (mg : Str → Option Value) (x : Str) (st : Stmt) (ps : List Str) where
  f : Addr
  fd : FuncData
  F : Fun K x x st f fd
  b : Binds K fd ps []
  m : mg x = some (.ref f)
theorem same_new {H : Hp} {p : Addr} (h : H p = none) (o : HO) : Same H (upd H p o) := fun b u q => by rw [upd_ne (ne_of_none q h)]; exact q
theorem small {n : Nat} (h : n ≤ 1000) : n ≤ sizeLine := Nat.le_of_lt (small1000 h)
end L2

















set_option Elab.async false
set_option linter.all false
set_option maxRecDepth 100000
set_option maxHeartbeats 4000000
namespace L2
open PySem PySem.Spec PyProof.Rows
/-! ### data: a value with all that it holds, without the heap -/
inductive D where
  | non | bl (b : Bool) | int (i : Int) | str (x : Str) | lst (l : List D) | tup (l : List D) | scr (ns : List Int) | rng (lo hi : Int) | obj (a : Addr) | web (w : List (List Nat))
/-- the module's objects, the class Web -/
structure DC where
  K : PySem.W.Frag
  C : Addr
def natD (n : Nat) : D := .int n
def rowW (r : List Nat) : D := .lst (r.map natD)
def webW (w : List (List Nat)) : D := .lst (w.map rowW)
mutual
inductive Dv (Z : DC) (H : Hp) : V → D → Prop
  | non : Dv Z H .non .non
  | bl (b : Bool) : Dv Z H (.bl b) (.bl b)
  | int (i : Int) : Dv Z H (.int i) (.int i)
  | str (x : Str) (h : PyData.strOk x = true) : Dv Z H (.str x) (.str x)
  | lst {a : Addr} {xs : List V} {ds : List D} : H a = some (.lst xs) → DvAll Z H xs ds → Dv Z H (.ref a) (.lst ds)
  | tup {a : Addr} {xs : List V} {ds : List D} : H a = some (.tup xs) → DvAll Z H xs ds → Dv Z H (.ref a) (.tup ds)
  | obj (a : Addr) : Dv Z H (.ref a) (.obj a)
  | rng {a : Addr} {lo hi : Int} : H a = some (.rng lo hi) → Dv Z H (.ref a) (.rng lo hi)
  | scr {a : Addr} {ns : List Int} : SqL Z.K H a (ns.map V.int) → ns.length ≤ 63 → Dv Z H (.ref a) (.scr ns)
  | web {p dx R : Addr} {w : List (List Nat)} : H p = some (.ins Z.C dx [("rows", .ref R)]) → Dv Z H (.ref R) (webW w) → Wb.Good w → 1 ≤ w.length → w.length ≤ 14 → Dv Z H (.ref p) (.web w)
inductive DvAll (Z : DC) (H : Hp) : List V → List D → Prop
  | nil : DvAll Z H [] []
  | cons {v : V} {vs : List V} {d : D} {ds : List D} : Dv Z H v d → DvAll Z H vs ds → DvAll Z H (v :: vs) (d :: ds)
end
theorem SqL.mono {K : PySem.W.Frag} {H H' : Hp} {a : Addr} {xs : List V} (s : Same H H') (h : SqL K H a xs) : SqL K H' a xs := by
  rcases h with (h | ⟨o, h⟩) | h
  · exact .inl (.inl (s _ _ h))
  · exact .inl (.inr ⟨o, s _ _ h⟩)
  · exact .inr h
section
variable {Z : DC} {H H' G G' : Hp}
theorem Dv.ofInt {v : V} {i : Int} (h : Dv Z H v (.int i)) : v = .int i := by cases h; rfl
theorem Dv.ofLst {v : V} {ds : List D} (h : Dv Z H v (.lst ds)) : ∃ a xs, v = .ref a ∧ H a = some (.lst xs) ∧ DvAll Z H xs ds := by cases h with | lst h e => exact ⟨_, _, rfl, h, e⟩
theorem Dv.ofTup {v : V} {ds : List D} (h : Dv Z H v (.tup ds)) : ∃ a xs, v = .ref a ∧ H a = some (.tup xs) ∧ DvAll Z H xs ds := by cases h with | tup h e => exact ⟨_, _, rfl, h, e⟩
theorem Dv.ofScr {v : V} {ns : List Int} (h : Dv Z H v (.scr ns)) : ∃ a, v = .ref a ∧ SqL Z.K H a (ns.map V.int) ∧ ns.length ≤ 63 := by cases h with | scr h z => exact ⟨_, rfl, h, z⟩
theorem DvAll.ofNil {vs : List V} (h : DvAll Z H vs []) : vs = [] := by cases h; rfl
theorem DvAll.ofCons {vs : List V} {d : D} {ds : List D} (h : DvAll Z H vs (d :: ds)) : ∃ v us, vs = v :: us ∧ Dv Z H v d ∧ DvAll Z H us ds := by cases h with | cons a b => exact ⟨_, _, rfl, a, b⟩
theorem DvAll.ofOne {vs : List V} {d : D} (h : DvAll Z H vs [d]) : ∃ v, vs = [v] ∧ Dv Z H v d := by
  obtain ⟨v, us, rfl, a, b⟩ := h.ofCons
  rw [b.ofNil]; exact ⟨v, rfl, a⟩
theorem DvAll.ofTwo {vs : List V} {d e : D} (h : DvAll Z H vs [d, e]) : ∃ v u, vs = [v, u] ∧ Dv Z H v d ∧ Dv Z H u e := by
  obtain ⟨v, us, rfl, a, b⟩ := h.ofCons
  obtain ⟨u, rfl, c⟩ := b.ofOne
  exact ⟨v, u, rfl, a, c⟩
mutual
theorem Dv.mono (s : Same H H') : ∀ {v : V} {d : D}, Dv Z H v d → Dv Z H' v d
  | _, _, .non => .non
  | _, _, .bl b => .bl b
  | _, _, .int i => .int i
  | _, _, .str x h => .str x h
  | _, _, .lst h a => .lst (s _ _ h) (DvAll.mono s a)
  | _, _, .tup h a => .tup (s _ _ h) (DvAll.mono s a)
  | _, _, .obj a => .obj a
  | _, _, .rng h => .rng (s _ _ h)
  | _, _, .scr h z => .scr (h.mono s) z
  | _, _, .web h r g a b => .web (s _ _ h) (Dv.mono s r) g a b
theorem DvAll.mono (s : Same H H') : ∀ {vs : List V} {ds : List D}, DvAll Z H vs ds → DvAll Z H' vs ds
  | _, _, .nil => .nil
  | _, _, .cons a as => .cons (Dv.mono s a) (DvAll.mono s as)
end
theorem DvAll.length : ∀ {vs : List V} {ds : List D}, DvAll Z H vs ds → vs.length = ds.length
  | _, _, .nil => rfl
  | _, _, .cons _ as => congrArg (· + 1) as.length
theorem DvAll.get : ∀ {vs : List V} {ds : List D} {i : Nat} {d : D}, DvAll Z H vs ds → ds[i]? = some d → ∃ v, vs[i]? = some v ∧ Dv Z H v d
  | _, _, _, _, .nil, e => by simp at e
  | _, _, 0, _, .cons a as, e => by simp at e; subst e; exact ⟨_, rfl, a⟩
  | _, _, i + 1, d, .cons a as, e => by
    obtain ⟨v, h1, h2⟩ := DvAll.get (i := i) (d := d) as (by simpa using e)
    exact ⟨v, by simpa using h1, h2⟩
theorem DvAll.getV : ∀ {vs : List V} {ds : List D} {i : Nat} {v : V}, DvAll Z H vs ds → vs[i]? = some v → ∃ d, ds[i]? = some d ∧ Dv Z H v d
  | _, _, _, _, .nil, e => by simp at e
  | _, _, 0, _, .cons a as, e => by simp at e; subst e; exact ⟨_, rfl, a⟩
  | _, _, i + 1, d, .cons a as, e => by
    obtain ⟨v, h1, h2⟩ := DvAll.getV (i := i) (v := d) as (by simpa using e)
    exact ⟨v, by simpa using h1, h2⟩
theorem DvAll.append : ∀ {vs us : List V} {ds es : List D}, DvAll Z H vs ds → DvAll Z H us es → DvAll Z H (vs ++ us) (ds ++ es)
  | _, _, _, _, .nil, b => b
  | _, _, _, _, .cons a as, b => .cons a (as.append b)
theorem DvAll.take : ∀ {vs : List V} {ds : List D} (n : Nat), DvAll Z H vs ds → DvAll Z H (vs.take n) (ds.take n)
  | _, _, 0, _ => by simpa using DvAll.nil
  | _, _, n + 1, .nil => by simpa using DvAll.nil
  | _, _, n + 1, .cons a as => by simpa using DvAll.cons a (as.take n)
theorem DvAll.drop : ∀ {vs : List V} {ds : List D} (n : Nat), DvAll Z H vs ds → DvAll Z H (vs.drop n) (ds.drop n)
  | _, _, 0, h => h
  | _, _, n + 1, .nil => by simpa using DvAll.nil
  | _, _, n + 1, .cons a as => by simpa using as.drop n
theorem DvAll.set {v : V} {d : D} (h : Dv Z H v d) : ∀ {vs : List V} {ds : List D} (n : Nat), DvAll Z H vs ds → DvAll Z H (vs.set n v) (ds.set n d)
  | _, _, _, .nil => .nil
  | _, _, 0, .cons a as => .cons h as
  | _, _, n + 1, .cons a as => .cons a (DvAll.set h n as)
theorem DvAll.rev : ∀ {vs : List V} {ds : List D}, DvAll Z H vs ds → DvAll Z H vs.reverse ds.reverse
  | _, _, .nil => .nil
  | _, _, .cons a as => by
    rw [List.reverse_cons, List.reverse_cons]
    exact as.rev.append (.cons a .nil)
theorem DvAll.ints : ∀ (ns : List Int), DvAll Z H (ns.map V.int) (ns.map D.int)
  | [] => .nil
  | n :: ns => .cons (.int n) (DvAll.ints ns)
theorem DvAll.snoc {vs : List V} {ds : List D} {v : V} {d : D} (a : DvAll Z H vs ds) (b : Dv Z H v d) : DvAll Z H (vs ++ [v]) (ds ++ [d]) := a.append (.cons b .nil)
/-! ### the pure part of a heap, and how it grows -/
structure Ext (G H G' H' : Hp) : Prop where
  gg : Same G G'
  sub : Same G' H'
  hh : Same H H'
  off : ∀ b, H b ≠ none → G b = none → G' b = none
theorem Ext.refl (s : Same G H) : Ext G H G H := ⟨.refl _, s, .refl _, fun _ _ h => h⟩
theorem Ext.trans {G1 H1 G2 H2 : Hp} (a : Ext G H G1 H1) (b : Ext G1 H1 G2 H2) : Ext G H G2 H2 :=
  ⟨a.gg.trans b.gg, b.sub, a.hh.trans b.hh, fun x h g => b.off x (fun z => by
    cases e : H x with
    | none => exact h e
    | some o => rw [a.hh x o e] at z; cases z) (a.off x h g)⟩
theorem Ext.new {p : Addr} {o : HO} (s : Same G H) (h : H p = none) : Ext G H (upd G p o) (upd H p o) := by
  have hg : G p = none := s.free h
  refine ⟨same_new hg o, fun b u e => ?_, same_new h o, fun b hb hg => ?_⟩
  · by_cases z : b = p
    · subst z; rw [upd_same] at e ⊢; exact e
    · rw [upd_ne z] at e ⊢; exact s b u e
  · have : b ≠ p := fun z => hb (by rw [z]; exact h)
    rw [upd_ne this]; exact hg
end
/-! ### the judgements -/
abbrev DN := List (Option D)
structure EnvD (Z : DC) (G : Hp) (σ : St) (ρ : DN) : Prop where
  len : ρ.length = σ.length
  at_ : ∀ (i : Nat) (d : D), ρ[i]? = some (some d) → ∃ v, σ[i]? = some (some v) ∧ Dv Z G v d
section
variable {Z : DC} {G G' H H' : Hp} {σ : St} {ρ : DN}
theorem EnvD.mono (e : EnvD Z G σ ρ) (s : Same G G') : EnvD Z G' σ ρ := ⟨e.len, fun i d h => let ⟨v, a, b⟩ := e.at_ i d h; ⟨v, a, b.mono s⟩⟩
theorem EnvD.set {i : Nat} {v : V} {d : D} (e : EnvD Z G σ ρ) (h : Dv Z G v d) : EnvD Z G (σ.set i (some v)) (ρ.set i (some d)) := by
  refine ⟨by rw [List.length_set, List.length_set]; exact e.len, fun j c hj => ?_⟩
  by_cases z : i = j
  · subst z
    by_cases hi : i < ρ.length
    · rw [List.getElem?_set_self hi] at hj
      cases hj
      exact ⟨v, by rw [List.getElem?_set_self (by rw [← e.len]; exact hi)], h⟩
    · rw [List.set_eq_of_length_le (Nat.le_of_not_lt hi)] at hj
      rw [List.getElem?_eq_none (Nat.le_of_not_lt hi)] at hj; cases hj
  · rw [List.getElem?_set_ne z] at hj ⊢
    exact e.at_ j c hj
end
abbrev DTE := DN → (D → Prop) → Prop
abbrev DTT := DN → (Bool → Prop) → Prop
abbrev DTA := DN → (List D → Prop) → Prop
abbrev DR2 := D → D → (D → Prop) → Prop
abbrev DTG := D → DN → (DN → Prop) → Prop
abbrev DTI := DN → (List D → Prop) → Prop
def liftE (Z : DC) (t : DTE) : TE := fun σ H Q => ∃ (G : Hp) (ρ : DN) (P : D → Prop), Same G H ∧ EnvD Z G σ ρ ∧ t ρ P ∧ ∀ d, P d → ∀ v G' H', Ext G H G' H' → Dv Z G' v d → Q v H'
def liftT (Z : DC) (t : DTT) : TT := fun σ H Q => ∃ (G : Hp) (ρ : DN) (P : Bool → Prop), Same G H ∧ EnvD Z G σ ρ ∧ t ρ P ∧ ∀ b, P b → ∀ G' H', Ext G H G' H' → Q b H'
def liftA (Z : DC) (t : DTA) : TA := fun σ H Q => ∃ (G : Hp) (ρ : DN) (P : List D → Prop), Same G H ∧ EnvD Z G σ ρ ∧ t ρ P ∧ ∀ ds, P ds → ∀ vs G' H', Ext G H G' H' → DvAll Z G' vs ds → Q vs H'
def liftR (Z : DC) (r : DR2) : R2 := fun x y H Q => ∃ (G : Hp) (a b : D) (P : D → Prop), Same G H ∧ Dv Z G x a ∧ Dv Z G y b ∧ r a b P ∧ ∀ d, P d → ∀ v G' H', Ext G H G' H' → Dv Z G' v d → Q v H'
def liftC (Z : DC) (r : List D → (D → Prop) → Prop) : List V → Hp → VK → Prop := fun vs H Q => ∃ (G : Hp) (ds : List D) (P : D → Prop), Same G H ∧ DvAll Z G vs ds ∧ r ds P ∧ ∀ d, P d → ∀ v G' H', Ext G H G' H' → Dv Z G' v d → Q v H'
/-- a def's promise, over data -/
abbrev DSp := List D → (D → Prop) → Prop
def liftSp (Z : DC) (sd : DSp) : Sp := fun vs H Q _ => liftC Z sd vs H Q
def DE (Z : DC) (X : Cx) (e : Expr) (t : DTE) : Prop := PE X e (liftE Z t)
def DT (Z : DC) (X : Cx) (e : Expr) (t : DTT) : Prop := PT X e (liftT Z t)
def DA (Z : DC) (X : Cx) (es : List Expr) (t : DTA) : Prop := PA X es (liftA Z t)
theorem PE.imp {X : Cx} {e : Expr} {t t' : TE} (h : PE X e t) (f : ∀ σ H Q, t' σ H Q → t σ H Q) : PE X e t' := fun pins s σ H Q I q => h pins s σ H Q I (f _ _ _ q)
theorem PT.imp {X : Cx} {e : Expr} {t t' : TT} (h : PT X e t) (f : ∀ σ H Q, t' σ H Q → t σ H Q) : PT X e t' := fun pins s σ H Q I q => h pins s σ H Q I (f _ _ _ q)
theorem PW.imp {X : Cx} {e : Expr} {t t' : TT} (h : PW X e t) (f : ∀ σ H Q, t' σ H Q → t σ H Q) : PW X e t' := fun wh pins s σ H Q I q => h wh pins s σ H Q I (f _ _ _ q)
theorem PA.imp {X : Cx} {es : List Expr} {t t' : TA} (h : PA X es t) (f : ∀ σ H Q, t' σ H Q → t σ H Q) : PA X es t' := fun pos pins s σ H Q I q => h pos pins s σ H Q I (f _ _ _ q)
theorem OpR.imp {X : Cx} {f : Value → Value → Sem Value} {r r' : R2} (h : OpR X f r) (g : ∀ x y H Q, r' x y H Q → r x y H Q) : OpR X f r' := fun pins s σ H x y v u Q I a b q => h pins s σ H x y v u Q I a b (g _ _ _ _ q)
theorem CallR.imp {X : Cx} {f : Value} {r r' : List V → Hp → VK → Prop} (h : CallR X f r) (g : ∀ xs H Q, r' xs H Q → r xs H Q) : CallR X f r' := fun pins s σ H xs us Q I a q => h pins s σ H xs us Q I a (g _ _ _ q)
/-! ### names, constants -/
def dVar (i : Nat) : DTE := fun ρ P => ∃ d, ρ[i]? = some (some d) ∧ P d
def dC (d : D) : DTE := fun _ P => P d
section
variable {Z : DC} {X : Cx}
theorem de_var (i : Nat) {x : Str} {pos : Pos} (hN : X.N[i]? = some x := by rfl) (hv : Vis X.env.scope x := by first | exact Or.inl rfl | exact Or.inr (Or.inl rfl) | exact Or.inr (Or.inr rfl)) (hd : (x == ("__debug__" : Str)) = false := by decide)
    (hcd : (x == ("__classdict__" : Str)) = false := by decide) : DE Z X (.Name x pos) (dVar i) :=
  (pe_var hN hv hd hcd).imp fun σ H Q ⟨G, ρ, P, s, e, ⟨d, hd, p⟩, q⟩ => let ⟨v, hv, dv⟩ := e.at_ i d hd; ⟨v, hv, q d p v G H (.refl s) dv⟩
theorem de_int {i j pos} : DE Z X (.Constant (.int i) j pos) (dC (.int i)) := pe_int.imp fun σ H Q ⟨G, ρ, P, s, e, p, q⟩ => q _ p _ G H (.refl s) (.int i)
theorem de_bl {b j pos} : DE Z X (.Constant (.bool b) j pos) (dC (.bl b)) := pe_bl.imp fun σ H Q ⟨G, ρ, P, s, e, p, q⟩ => q _ p _ G H (.refl s) (.bl b)
theorem de_non {j pos} : DE Z X (.Constant .none j pos) (dC .non) := pe_non.imp fun σ H Q ⟨G, ρ, P, s, e, p, q⟩ => q _ p _ G H (.refl s) .non
theorem de_str {x j pos} (h : PyData.strOk x = true := by decide +kernel) : DE Z X (.Constant (.str x) j pos) (dC (.str x)) := pe_str.imp fun σ H Q ⟨G, ρ, P, s, e, p, q⟩ => q _ p _ G H (.refl s) (.str x h)
theorem de_globI {x : Str} {i : Int} {pos : Pos} (hg : Gl X x) (hm : ∃ tk, X.mg x = some (.int i tk)) (hd : (x == ("__debug__" : Str)) = false := by decide) : DE Z X (.Name x pos) (dC (.int i)) := by
  obtain ⟨tk, hm⟩ := hm
  exact (pe_glob hg hm (v := .int i) ⟨tk, rfl⟩ hd).imp fun σ H Q ⟨G, ρ, P, s, e, p, q⟩ => q _ p _ G H (.refl s) (.int i)
/-! ### operators -/
def dOp (r : DR2) (ta tb : DTE) : DTE := fun ρ P => ta ρ fun a => tb ρ fun b => r a b P
variable {a b c : Expr} {ta tb tc : DTE} {pos : Pos}
theorem lift2 {r : DR2} : ∀ σ H Q, liftE Z (dOp r ta tb) σ H Q → tOp (liftR Z r) (liftE Z ta) (liftE Z tb) σ H Q := by
  rintro σ H Q ⟨G, ρ, P, s, e, h, q⟩
  refine ⟨G, ρ, _, s, e, h, fun a ha v G1 H1 x1 dv => ?_⟩
  refine ⟨G1, ρ, _, x1.sub, e.mono x1.gg, ha, fun b hb u G2 H2 x2 du => ?_⟩
  exact ⟨G2, a, b, P, x2.sub, dv.mono x2.gg, du, hb, fun d hd v' G' H' x3 dv' => q d hd v' G' H' ((x1.trans x2).trans x3) dv'⟩
theorem de_op {op : Operator} {r : DR2} (ho : OpR X (binaryOp op) (liftR Z r)) (ha : DE Z X a ta) (hb : DE Z X b tb) : DE Z X (.BinOp a op b pos) (dOp r ta tb) := (pe_op ho ha hb).imp lift2
theorem de_cmp {op : CmpOp} {r : DR2} (ho : OpR X (compareOp op) (liftR Z r)) (ha : DE Z X a ta) (hb : DE Z X b tb) (hm : behindInMarks op b = false) : DE Z X (.Compare a [op] [b] pos) (dOp r ta tb) := (pe_cmpR ho ha hb hm).imp lift2
def dTest (t : DTE) : DTT := fun ρ P => t ρ fun d => ∃ k, d = .bl k ∧ P k
theorem liftTest {t : DTE} : ∀ σ H Q, liftT Z (dTest t) σ H Q → tTest (liftE Z t) σ H Q := by
  rintro σ H Q ⟨G, ρ, P, s, e, h, q⟩
  refine ⟨G, ρ, _, s, e, h, ?_⟩
  rintro _ ⟨k, rfl, p⟩ v G1 H1 x1 dv
  cases dv
  exact ⟨k, rfl, q k p G1 H1 x1⟩
theorem dt_cmp {op : CmpOp} {r : DR2} (ho : OpR X (compareOp op) (liftR Z r)) (ha : DE Z X a ta) (hb : DE Z X b tb) (hm : behindInMarks op b = false) : DT Z X (.Compare a [op] [b] pos) (dTest (dOp r ta tb)) :=
  (pt_cmpR ho ha hb hm).imp fun σ H Q h => by
    obtain h := liftTest σ H Q h
    exact lift2 σ H _ h
/-- two comparisons in a row -/
def dChain (r r' : DR2) (ta tb tc : DTE) : DTE := fun ρ P => ta ρ fun x => tb ρ fun y => r x y fun z => ∃ k, z = .bl k ∧ (if k = true then tc ρ fun w' => r' y w' P else P (.bl false))
theorem liftChain {r r' : DR2} : ∀ σ H Q, liftE Z (dChain r r' ta tb tc) σ H Q → tChain (liftR Z r) (liftR Z r') (liftE Z ta) (liftE Z tb) (liftE Z tc) σ H Q := by
  rintro σ H Q ⟨G, ρ, P, s, e, h, q⟩
  refine ⟨G, ρ, _, s, e, h, fun a ha v G1 H1 x1 dv => ?_⟩
  refine ⟨G1, ρ, _, x1.sub, e.mono x1.gg, ha, fun b hb u G2 H2 x2 du => ?_⟩
  refine ⟨G2, a, b, _, x2.sub, dv.mono x2.gg, du, hb, ?_⟩
  rintro _ ⟨k, rfl, hk⟩ v' G3 H3 x3 dv'
  cases dv'
  refine ⟨k, rfl, ?_⟩
  have x := (x1.trans x2).trans x3
  cases k with
  | false => exact iteF (q _ hk _ G3 H3 x (.bl false))
  | true =>
    refine iteT ⟨G3, ρ, _, x3.sub, e.mono x.gg, hk, fun c hc w' G4 H4 x4 dw => ?_⟩
    exact ⟨G4, b, c, P, x4.sub, (du.mono x3.gg).mono x4.gg, dw, hc, fun d hd v'' G' H' x5 d5 => q d hd v'' G' H' ((x.trans x4).trans x5) d5⟩
theorem de_chain {op op' : CmpOp} {r r' : DR2} (ho : OpR X (compareOp op) (liftR Z r)) (ho' : OpR X (compareOp op') (liftR Z r')) (ha : DE Z X a ta) (hb : DE Z X b tb) (hc : DE Z X c tc)
    (hm : lastMarks [op, op'] [b, c] = false := by with_unfolding_all rfl) : DE Z X (.Compare a [op, op'] [b, c] pos) (dChain r r' ta tb tc) := (pe_chain ho ho' ha hb hc hm).imp liftChain
theorem dt_chain {op op' : CmpOp} {r r' : DR2} (ho : OpR X (compareOp op) (liftR Z r)) (ho' : OpR X (compareOp op') (liftR Z r')) (ha : DE Z X a ta) (hb : DE Z X b tb) (hc : DE Z X c tc)
    (hm : lastMarks [op, op'] [b, c] = false := by with_unfolding_all rfl) : DT Z X (.Compare a [op, op'] [b, c] pos) (dTest (dChain r r' ta tb tc)) :=
  (pt_chain ho ho' ha hb hc hm).imp fun σ H Q h => by
    obtain h := liftTest σ H Q h
    exact liftChain σ H _ h
/-! ### tests -/
def truD : D → Bool
  | .non => false
  | .bl b => b
  | .int i => i != 0
  | .str x => x.length != 0
  | .lst l => !l.isEmpty
  | .tup l => !l.isEmpty
  | .scr l => !l.isEmpty
  | .rng lo hi => decide (lo < hi)
  | .obj _ => true
  | .web _ => true
def isSq : D → Bool
  | .bl _ => true
  | .int _ => true
  | .lst _ => true
  | .tup _ => true
  | .non => true
  | _ => false
def dTru (t : DTE) : DTT := fun ρ P => t ρ fun d => isSq d = true ∧ P (truD d)
theorem isEmpty_dv {G : Hp} {vs : List V} {ds : List D} (h : DvAll Z G vs ds) : vs.isEmpty = ds.isEmpty := by cases h <;> rfl
theorem dt_tru (ha : DE Z X a ta) (he : ∀ whole, isTrue a X.env whole = (do let v ← whole; standAt a.pos; holding [v] (truthy v)) := by intro _; rfl) : DT Z X a (dTru ta) := by
  refine (pt_truth ha he).imp ?_
  rintro σ H Q ⟨G, ρ, P, s, e, h, q⟩
  refine ⟨G, ρ, _, s, e, h, ?_⟩
  rintro d ⟨hd, p⟩ v G1 H1 x1 dv
  refine ⟨truD d, ?_, q _ p G1 H1 x1⟩
  cases dv with
  | non => rfl
  | bl b => rfl
  | int i => rfl
  | lst h a => exact .inl ⟨_, SqL.of (x1.sub _ _ h), by rw [isEmpty_dv a]; rfl⟩
  | tup h a => exact .inr (.inl ⟨_, SqT.of (x1.sub _ _ h), by rw [isEmpty_dv a]; rfl⟩)
  | _ => cases hd
def dAnd (t u : DTT) : DTT := fun ρ P => t ρ fun c => if c = true then u ρ P else P false
def dOr (t u : DTT) : DTT := fun ρ P => t ρ fun c => if c = true then P true else u ρ P
def dNot (t : DTT) : DTT := fun ρ P => t ρ fun c => P (!c)
variable {tA tB' : DTT} {rest : List Expr}
def DW (Z : DC) (X : Cx) (e : Expr) (t : DTT) : Prop := PW X e (liftT Z t)
theorem DW.dt {e : Expr} {t : DTT} (h : DW Z X e t) : DT Z X e t := PW.pt h
theorem dw_and1 (ha : DT Z X a tA) : DW Z X (.BoolOp .And [a] pos) tA := pw_and1 ha
theorem dw_or1 (ha : DT Z X a tA) : DW Z X (.BoolOp .Or [a] pos) tA := pw_or1 ha
theorem dw_and (ha : DT Z X a tA) (hb : DW Z X (.BoolOp .And (b :: rest) pos) tB') : DW Z X (.BoolOp .And (a :: b :: rest) pos) (dAnd tA tB') := by
  refine (pw_and ha hb).imp ?_
  rintro σ H Q ⟨G, ρ, P, s, e, h, q⟩
  refine ⟨G, ρ, _, s, e, h, fun c hc G1 H1 x1 => ?_⟩
  cases c with
  | true => exact iteT ⟨G1, ρ, P, x1.sub, e.mono x1.gg, hc, fun b hb G2 H2 x2 => q b hb G2 H2 (x1.trans x2)⟩
  | false => exact iteF (q _ hc G1 H1 x1)
theorem dw_or (ha : DT Z X a tA) (hb : DW Z X (.BoolOp .Or (b :: rest) pos) tB') : DW Z X (.BoolOp .Or (a :: b :: rest) pos) (dOr tA tB') := by
  refine (pw_or ha hb).imp ?_
  rintro σ H Q ⟨G, ρ, P, s, e, h, q⟩
  refine ⟨G, ρ, _, s, e, h, fun c hc G1 H1 x1 => ?_⟩
  cases c with
  | false => exact iteF ⟨G1, ρ, P, x1.sub, e.mono x1.gg, hc, fun b hb G2 H2 x2 => q b hb G2 H2 (x1.trans x2)⟩
  | true => exact iteT (q _ hc G1 H1 x1)
theorem dt_not (ha : DT Z X a tA) : DT Z X (.UnaryOp .Not a pos) (dNot tA) := by
  refine (pt_not ha).imp ?_
  rintro σ H Q ⟨G, ρ, P, s, e, h, q⟩
  exact ⟨G, ρ, _, s, e, h, fun c hc G1 H1 x1 => q _ hc G1 H1 x1⟩
/-- as values -/
def dAndV (ta tb : DTE) : DTE := fun ρ P => ta ρ fun x => ∃ c, x = .bl c ∧ if c = true then tb ρ P else P (.bl false)
def dNotV (ta : DTE) : DTE := fun ρ P => ta ρ fun x => ∃ c, x = .bl c ∧ P (.bl (!c))
theorem de_one {op} (h : DE Z X a ta) : DE Z X (.BoolOp op [a] pos) ta := pe_one h
theorem de_and (ha : DE Z X a ta) (hb : DE Z X (.BoolOp .And (b :: rest) pos) tb) : DE Z X (.BoolOp .And (a :: b :: rest) pos) (dAndV ta tb) := by
  refine (pe_and ha hb).imp ?_
  rintro σ H Q ⟨G, ρ, P, s, e, h, q⟩
  refine ⟨G, ρ, _, s, e, h, ?_⟩
  rintro _ ⟨c, rfl, hc⟩ v G1 H1 x1 dv
  cases dv
  refine ⟨c, rfl, ?_⟩
  cases c with
  | true => exact iteT ⟨G1, ρ, P, x1.sub, e.mono x1.gg, hc, fun b hb v G2 H2 x2 d2 => q b hb v G2 H2 (x1.trans x2) d2⟩
  | false => exact iteF (q _ hc _ G1 H1 x1 (.bl false))
theorem de_not (ha : DE Z X a ta) : DE Z X (.UnaryOp .Not a pos) (dNotV ta) := by
  refine (pe_not ha).imp ?_
  rintro σ H Q ⟨G, ρ, P, s, e, h, q⟩
  refine ⟨G, ρ, _, s, e, h, ?_⟩
  rintro _ ⟨c, rfl, hc⟩ v G1 H1 x1 dv
  cases dv
  exact ⟨c, rfl, q _ hc _ G1 H1 x1 (.bl _)⟩
/-! ### argument lists, displays -/
def dNil : DTA := fun _ P => P []
def dCons (ta : DTE) (t : DTA) : DTA := fun ρ P => ta ρ fun x => t ρ fun xs => P (x :: xs)
variable {es : List Expr} {t : DTA} {e : Expr}
theorem da_nil : DA Z X [] dNil := pa_nil.imp fun σ H Q ⟨G, ρ, P, s, e, p, q⟩ => q _ p _ G H (.refl s) .nil
theorem da_cons (ha : DE Z X e ta) (hr : DA Z X es t) (hs : starEach (e :: es) X.env = (false, eval e X.env) :: starEach es X.env := by rfl) : DA Z X (e :: es) (dCons ta t) := by
  refine (pa_cons ha hr hs).imp ?_
  rintro σ H Q ⟨G, ρ, P, s, e, h, q⟩
  refine ⟨G, ρ, _, s, e, h, fun a ha v G1 H1 x1 dv => ?_⟩
  exact ⟨G1, ρ, _, x1.sub, e.mono x1.gg, ha, fun ds hd vs G2 H2 x2 dvs => q _ hd _ G2 H2 (x1.trans x2) (.cons (dv.mono x2.gg) dvs)⟩
def dTup (t : DTA) : DTE := fun ρ P => t ρ fun xs => xs.length ≤ sizeLine ∧ P (.tup xs)
def dLst (t : DTA) : DTE := fun ρ P => t ρ fun xs => xs.length ≤ sizeLine ∧ P (.lst xs)
theorem de_tup {x1} (h : DA Z X es t) : DE Z X (.Tuple es x1 pos) (dTup t) := by
  refine (pe_tup h).imp ?_
  rintro σ H Q ⟨G, ρ, P, s, e, h, q⟩
  refine ⟨G, ρ, _, s, e, h, ?_⟩
  rintro ds ⟨hl, hp⟩ vs G1 H1 x1 dvs
  exact ⟨by rw [dvs.length]; exact hl, fun p hp' => q _ hp _ _ _ (x1.trans (.new x1.sub hp')) (.tup upd_same (dvs.mono (same_new (x1.sub.free hp') _)))⟩
theorem de_lst (h : DA Z X es t) : DE Z X (.List es pos) (dLst t) := by
  refine (pe_lst h).imp ?_
  rintro σ H Q ⟨G, ρ, P, s, e, h, q⟩
  refine ⟨G, ρ, _, s, e, h, ?_⟩
  rintro ds ⟨hl, hp⟩ vs G1 H1 x1 dvs
  exact ⟨by rw [dvs.length]; exact hl, fun p hp' => q _ hp _ _ _ (x1.trans (.new x1.sub hp')) (.lst upd_same (dvs.mono (same_new (x1.sub.free hp') _)))⟩
/-! ### calls -/
def dCall (r : List D → (D → Prop) → Prop) (t : DTA) : DTE := fun ρ P => t ρ fun ds => r ds P
theorem liftCall {r : List D → (D → Prop) → Prop} : ∀ σ H Q, liftE Z (dCall r t) σ H Q → liftA Z t σ H fun vs H1 => liftC Z r vs H1 Q := by
  rintro σ H Q ⟨G, ρ, P, s, e, h, q⟩
  exact ⟨G, ρ, _, s, e, h, fun ds hd vs G1 H1 x1 dvs => ⟨G1, ds, P, x1.sub, dvs, hd, fun d hp v G2 H2 x2 dv => q d hp v G2 H2 (x1.trans x2) dv⟩⟩
theorem de_call {sd : DSp} {k : Nat} {f : Addr} {fd : FuncData} {ps : List Str} {x : Str} {p : Pos} (F : FnOk X.prog X.w X.K X.mg X.base CX0 k f fd ps (liftSp Z sd)) (hr : Room k X.A) (hg : Gl X x) (hm : X.mg x = some (.ref f)) (hk : PySem.W.keepIn X.K (.ref f) = true) (hb : Binds X.K fd ps [])
    (ha : DA Z X (e :: es) t) (hdb : (x == ("__debug__" : Str)) = false := by decide) (he : starEach (e :: es) X.env = (false, eval e X.env) :: starEach es X.env := by rfl) (hpl : (backTo pos (starEach es X.env)).any (·.1) = false := by rfl) :
    DE Z X (.Call (.Name x p) (e :: es) [] pos) (dCall sd t) :=
  (pe_call F hr hg hm hk hb .nil pass0 ha hdb he hpl).imp fun σ H Q h => by
    have h := liftCall σ H Q h
    obtain ⟨G, ρ, P, s, e, h, q⟩ := h
    exact ⟨G, ρ, P, s, e, h, fun ds hd vs G1 H1 x1 dvs => by show liftSp Z sd (vs ++ []) H1 Q E0; rw [List.append_nil]; exact q ds hd vs G1 H1 x1 dvs⟩
theorem de_callB {id : String} {x : Str} {p : Pos} {r : List D → (D → Prop) → Prop} (hc : CallR X (.builtin id) (liftC Z r)) (hg : Gl X x) (hm : X.mg x = none) (hv : bootBuiltins x = some (.builtin id)) (ha : DA Z X (e :: es) t) (hn : x ≠ "__name__" := by decide) (hdb : (x == ("__debug__" : Str)) = false := by decide)
    (he : starEach (e :: es) X.env = (false, eval e X.env) :: starEach es X.env := by rfl) (hpl : (backTo pos (starEach es X.env)).any (·.1) = false := by rfl) :
    DE Z X (.Call (.Name x p) (e :: es) [] pos) (dCall r t) := (pe_callB hc hg hm hv ha hn hdb he hpl).imp liftCall
theorem de_callTy {T : String} {x : Str} {p : Pos} {r : List D → (D → Prop) → Prop} (hc : CallR X (.type T) (liftC Z r)) (hg : Gl X x) (hm : X.mg x = none) (hv : bootBuiltins x = some (.type T)) (ha : DA Z X (e :: es) t) (hn : x ≠ "__name__" := by decide) (hdb : (x == ("__debug__" : Str)) = false := by decide)
    (he : starEach (e :: es) X.env = (false, eval e X.env) :: starEach es X.env := by rfl) (hpl : (backTo pos (starEach es X.env)).any (·.1) = false := by rfl) :
    DE Z X (.Call (.Name x p) (e :: es) [] pos) (dCall r t) := (pe_callTy hc hg hm hv ha hn hdb he hpl).imp liftCall
end
end L2

set_option Elab.async false
set_option linter.all false
set_option maxRecDepth 100000
set_option maxHeartbeats 4000000
namespace L2
open PySem PySem.Spec PyProof.Rows
section
variable {Z : DC} {X : Cx}
/-! ### + - * // % ** of data -/
def dAdd : DR2 := fun x y P => match x, y with
  | .int i, .int j => P (.int (i + j))
  | .lst a, .lst b => a.length + b.length ≤ sizeLine ∧ P (.lst (a ++ b))
  | .tup a, .tup b => a ≠ [] ∧ a.length + b.length ≤ sizeLine ∧ b ≠ [] ∧ P (.tup (a ++ b))
  | _, _ => False
def dI (c : Int → Int → Prop) (g : Int → Int → Int) : DR2 := fun x y P => match x, y with
  | .int i, .int j => c i j ∧ P (.int (g i j))
  | _, _ => False
def dI0 (g : Int → Int → Int) : DR2 := fun x y P => match x, y with
  | .int i, .int j => P (.int (g i j))
  | _, _ => False
def dSub : DR2 := dI0 fun i j => i - j
def dMul : DR2 := fun x y P => match x, y with
  | .int i, .int j => CMul i j ∧ P (.int (i * j))
  | .lst a, .int k => -(2 ^ 63) ≤ k ∧ k < 2 ^ 63 ∧ a.length * k.toNat ≤ sizeLine ∧ P (.lst (List.replicate k.toNat a).flatten)
  | _, _ => False
def dDiv : DR2 := dI CDiv fun i j => i / j
def dMod : DR2 := dI (fun _ j => 0 < j) fun i j => i % j
def dPow : DR2 := dI CPow fun i j => i ^ j.toNat
theorem liftI2 {f : Value → Value → Sem Value} {c : Int → Int → Prop} {g : Int → Int → Int} (h : OpR X f (rI c fun i j => .int (g i j))) : OpR X f (liftR Z (dI c g)) := by
  refine h.imp ?_
  rintro x y H Q ⟨G, a, b, P, s, da, db, hr, q⟩
  unfold dI at hr
  split at hr
  · exact ⟨_, _, da.ofInt, db.ofInt, hr.1, q _ hr.2 _ G H (.refl s) (.int _)⟩
  · exact hr.elim
theorem liftI0 {f : Value → Value → Sem Value} {g : Int → Int → Int} (h : OpR X f (rI0 fun i j => .int (g i j))) : OpR X f (liftR Z (dI0 g)) := by
  refine h.imp ?_
  rintro x y H Q ⟨G, a, b, P, s, da, db, hr, q⟩
  unfold dI0 at hr
  split at hr
  · exact ⟨_, _, da.ofInt, db.ofInt, q _ hr _ G H (.refl s) (.int _)⟩
  · exact hr.elim
theorem od_sub : OpR X (binaryOp .Sub) (liftR Z dSub) := liftI0 op_sub
theorem od_div : OpR X (binaryOp .FloorDiv) (liftR Z dDiv) := liftI2 op_fdiv
theorem od_mod : OpR X (binaryOp .Mod) (liftR Z dMod) := liftI2 op_mod
theorem od_pow : OpR X (binaryOp .Pow) (liftR Z dPow) := liftI2 op_pow
theorem od_add (e : X.K = Z.K := by rfl) : OpR X (binaryOp .Add) (liftR Z dAdd) := by
  refine (op_add.or (op_cat.or (op_catT))).imp ?_
  rintro x y H Q ⟨G, a, b, P, s, da, db, hr, q⟩
  unfold dAdd at hr
  split at hr
  · exact .inl ⟨_, _, da.ofInt, db.ofInt, q _ hr _ G H (.refl s) (.int _)⟩
  · obtain ⟨a1, xs1, rfl, h1, e1⟩ := da.ofLst
    obtain ⟨a2, xs2, rfl, h2, e2⟩ := db.ofLst
    obtain ⟨hz, hp⟩ := hr
    refine .inr (.inl ⟨_, _, _, _, rfl, rfl, s _ _ h1, s _ _ h2, by rw [e1.length, e2.length]; exact hz, fun p hn => ?_⟩)
    exact q _ hp _ _ _ (.new s hn) (.lst upd_same ((e1.append e2).mono (same_new (s.free hn) _)))
  · obtain ⟨a1, xs1, rfl, h1, e1⟩ := da.ofTup
    obtain ⟨a2, xs2, rfl, h2, e2⟩ := db.ofTup
    obtain ⟨h0, hz, h0', hp⟩ := hr
    refine .inr (.inr ⟨_, _, _, _, rfl, rfl, SqT.of (s _ _ h1), SqT.of (s _ _ h2), ?_, by rw [e1.length, e2.length]; exact hz, ?_⟩)
    · rintro rfl; cases e1; exact h0 rfl
    · refine ⟨?_, fun _ p hn => q _ hp _ _ _ (.new s hn) (.tup upd_same ((e1.append e2).mono (same_new (s.free hn) _)))⟩
      rintro rfl; cases e2; exact (h0' rfl).elim
  · exact hr.elim
theorem DvAll.rep {G : Hp} {vs : List V} {ds : List D} (h : DvAll Z G vs ds) : ∀ k : Nat, DvAll Z G (List.replicate k vs).flatten (List.replicate k ds).flatten
  | 0 => .nil
  | k + 1 => by rw [List.replicate_succ, List.replicate_succ, List.flatten_cons, List.flatten_cons]; exact h.append (DvAll.rep h k)
theorem od_mul : OpR X (binaryOp .Mult) (liftR Z dMul) := by
  refine (op_mul.or op_rep).imp ?_
  rintro x y H Q ⟨G, a, b, P, s, da, db, hr, q⟩
  unfold dMul at hr
  split at hr
  · exact .inl ⟨_, _, da.ofInt, db.ofInt, hr.1, q _ hr.2 _ G H (.refl s) (.int _)⟩
  · obtain ⟨a1, xs1, rfl, h1, e1⟩ := da.ofLst
    obtain ⟨h0, h9, hz, hp⟩ := hr
    refine .inr ⟨_, _, _, rfl, db.ofInt, s _ _ h1, h0, h9, by rw [e1.length]; exact hz, fun p hn => ?_⟩
    exact q _ hp _ _ _ (.new s hn) (.lst upd_same ((e1.rep _).mono (same_new (s.free hn) _)))
  · exact hr.elim
/-! ### == of data -/
mutual
def D.py : D → Option PyData
  | .non => some .none
  | .bl b => some (.bool b)
  | .int i => some (.int i)
  | .str x => some (.str x)
  | .lst l => (pyAll l).map PyData.list
  | .tup l => (pyAll l).map PyData.tuple
  | .scr _ => none
  | .rng _ _ => none
  | .obj _ => none
  | .web _ => none
def pyAll : List D → Option (List PyData)
  | [] => some []
  | d :: ds => (D.py d).bind fun a => (pyAll ds).map fun as => a :: as
end
mutual
theorem Dv.dp {K : PySem.W.Frag} {G : Hp} : ∀ {v : V} {d : D} {e : PyData}, Dv Z G v d → d.py = some e → Dp K G v e
  | _, _, _, .non, h => by simp [D.py] at h; subst h; exact .non
  | _, _, _, .bl b, h => by simp [D.py] at h; subst h; exact .bl b
  | _, _, _, .int i, h => by simp [D.py] at h; subst h; exact .int i
  | _, _, _, .str x k, h => by simp [D.py] at h; subst h; exact .str x k
  | _, _, _, .lst a as, h => by
    simp [D.py] at h
    obtain ⟨l, h1, rfl⟩ := h
    exact .lst (SqL.of a) (DvAll.dp as h1)
  | _, _, _, .tup a as, h => by
    simp [D.py] at h
    obtain ⟨l, h1, rfl⟩ := h
    exact .tup (SqT.of a) (DvAll.dp as h1)
  | _, _, _, .scr _ _, h => by simp [D.py] at h
  | _, _, _, .rng _, h => by simp [D.py] at h
  | _, _, _, .obj _, h => by simp [D.py] at h
  | _, _, _, .web _ _ _ _ _, h => by simp [D.py] at h
theorem DvAll.dp {K : PySem.W.Frag} {G : Hp} : ∀ {vs : List V} {ds : List D} {es : List PyData}, DvAll Z G vs ds → pyAll ds = some es → DpAll K G vs es
  | _, _, _, .nil, h => by simp [pyAll] at h; subst h; exact .nil
  | _, _, _, .cons (d := d) (ds := ds) a as, h => by
    rw [pyAll] at h
    cases h1 : d.py with
    | none => rw [h1] at h; cases h
    | some x =>
      rw [h1] at h
      cases h2 : pyAll ds with
      | none => rw [h2] at h; cases h
      | some y => rw [h2] at h; cases h; exact .cons (Dv.dp a h1) (DvAll.dp as h2)
end
theorem SqT.mono {K : PySem.W.Frag} {H H' : Hp} {a : Addr} {xs : List V} (s : Same H H') (h : SqT K H a xs) : SqT K H' a xs := by
  rcases h with (h | ⟨o, h⟩) | h
  · exact .inl (.inl (s _ _ h))
  · exact .inl (.inr ⟨o, s _ _ h⟩)
  · exact .inr h
mutual
theorem Dp.mono {K : PySem.W.Frag} {G H : Hp} (s : Same G H) : ∀ {v : V} {d : PyData}, Dp K G v d → Dp K H v d
  | _, _, .non => .non
  | _, _, .bl b => .bl b
  | _, _, .int i => .int i
  | _, _, .str x h => .str x h
  | _, _, .lst h a => .lst (h.mono s) (DpAll.mono s a)
  | _, _, .tup h a => .tup (h.mono s) (DpAll.mono s a)
theorem DpAll.mono {K : PySem.W.Frag} {G H : Hp} (s : Same G H) : ∀ {vs : List V} {ds : List PyData}, DpAll K G vs ds → DpAll K H vs ds
  | _, _, .nil => .nil
  | _, _, .cons a as => .cons (Dp.mono s a) (DpAll.mono s as)
end
def dEqN (neg : Bool) : DR2 := fun x y P => ∃ a b, x.py = some a ∧ y.py = some b ∧ a.depth ≤ 64 ∧ P (.bl (if neg then !PyData.eqv a b else PyData.eqv a b))
abbrev dEq : DR2 := dEqN false
abbrev dNe : DR2 := dEqN true
theorem od_eq (hu : X.A.units + 64 < cLine) : OpR X (compareOp .Eq) (liftR Z dEq) := by
  refine (op_eqD hu).imp ?_
  rintro x y H Q ⟨G, a, b, P, s, da, db, ⟨c, d, h1, h2, h3, hp⟩, q⟩
  exact ⟨c, d, (da.dp h1).mono s, (db.dp h2).mono s, h3, q _ hp _ G H (.refl s) (.bl _)⟩
theorem od_ne (hu : X.A.units + 64 < cLine) : OpR X (compareOp .NotEq) (liftR Z dNe) := by
  refine (op_neD hu).imp ?_
  rintro x y H Q ⟨G, a, b, P, s, da, db, ⟨c, d, h1, h2, h3, hp⟩, q⟩
  exact ⟨c, d, (da.dp h1).mono s, (db.dp h2).mono s, h3, q _ hp _ G H (.refl s) (.bl _)⟩
theorem dEq_int {i j : Int} {P : D → Prop} (h : P (.bl (decide (i = j)))) : dEq (.int i) (.int j) P := ⟨.int i, .int j, rfl, rfl, by simp [PyData.depth], by
  have : PyData.eqv (.int i) (.int j) = decide (i = j) := by
    rw [PyData.eqv]
    by_cases z : i = j <;> simp [z]
  simpa [this] using h⟩
theorem dNe_int {i j : Int} {P : D → Prop} (h : P (.bl (!decide (i = j)))) : dNe (.int i) (.int j) P := ⟨.int i, .int j, rfl, rfl, by simp [PyData.depth], by
  have : PyData.eqv (.int i) (.int j) = decide (i = j) := by
    rw [PyData.eqv]
    by_cases z : i = j <;> simp [z]
  simpa [this] using h⟩
/-! ### < <= > >= of ints -/
def dCmp (p : Int → Int → Bool) : DR2 := fun x y P => match x, y with
  | .int i, .int j => P (.bl (p i j))
  | _, _ => False
theorem liftCmp {f : Value → Value → Sem Value} {p : Int → Int → Bool} (h : OpR X f (rI0 fun i j => .bl (p i j))) : OpR X f (liftR Z (dCmp p)) := by
  refine h.imp ?_
  rintro x y H Q ⟨G, a, b, P, s, da, db, hr, q⟩
  unfold dCmp at hr
  split at hr
  · exact ⟨_, _, da.ofInt, db.ofInt, q _ hr _ G H (.refl s) (.bl _)⟩
  · exact hr.elim
end
end L2

set_option Elab.async false
set_option linter.all false
set_option maxRecDepth 100000
set_option maxHeartbeats 4000000
namespace L2
open PySem PySem.Spec PyProof.Rows
section
variable {Z : DC} {X : Cx}
abbrev dLt : DR2 := dCmp fun i j => decide (i < j)
abbrev dLe : DR2 := dCmp fun i j => decide (i ≤ j)
abbrev dGt : DR2 := dCmp fun i j => decide (j < i)
theorem od_lt : OpR X (compareOp .Lt) (liftR Z dLt) := liftCmp op_lt
theorem od_le : OpR X (compareOp .LtE) (liftR Z dLe) := liftCmp op_le
theorem od_gt : OpR X (compareOp .Gt) (liftR Z dGt) := liftCmp op_gt
/-! ### is None -/
def isNon : D → Bool
  | .non => true
  | _ => false
def dIsN (neg : Bool) : DR2 := fun x y P => match y with
  | .non => P (.bl (if neg then !isNon x else isNon x))
  | _ => False
theorem isNon_dv {G : Hp} {v : V} {d : D} (h : Dv Z G v d) : decide (v = .non) = isNon d := by cases h <;> rfl
theorem od_is : OpR X (compareOp .Is) (liftR Z (dIsN false)) := by
  refine op_isN.imp ?_
  rintro x y H Q ⟨G, a, b, P, s, da, db, hr, q⟩
  cases db <;> first | exact hr.elim | skip
  exact ⟨rfl, by rw [isNon_dv da]; exact q _ hr _ G H (.refl s) (.bl _)⟩
theorem od_isnot : OpR X (compareOp .IsNot) (liftR Z (dIsN true)) := by
  refine op_notN.imp ?_
  rintro x y H Q ⟨G, a, b, P, s, da, db, hr, q⟩
  cases db <;> first | exact hr.elim | skip
  exact ⟨rfl, by rw [isNon_dv da]; exact q _ hr _ G H (.refl s) (.bl _)⟩
/-! ### in, not in -/
def flatD : D → Bool
  | .non => true
  | .bl _ => true
  | .int _ => true
  | .str _ => true
  | _ => false
def eqFD : D → D → Bool
  | .non, .non => true
  | .bl a, .bl b => a == b
  | .bl a, .int b => (if a then 1 else 0) == b
  | .int a, .bl b => a == (if b then 1 else 0)
  | .int a, .int b => a == b
  | .str a, .str b => a == b
  | _, _ => false
def inD (x : D) (l : List D) : Bool := l.any fun y => eqFD y x
theorem flat_dv {G : Hp} {v : V} {d : D} (h : Dv Z G v d) : flatV v = flatD d := by cases h <;> rfl
theorem flatAll_dv {G : Hp} : ∀ {vs : List V} {ds : List D}, DvAll Z G vs ds → vs.all flatV = ds.all flatD
  | _, _, .nil => rfl
  | _, _, .cons a as => by rw [List.all_cons, List.all_cons, flat_dv a, flatAll_dv as]
theorem eqF_dv {G : Hp} {v u : V} {d e : D} (h : Dv Z G v d) (k : Dv Z G u e) : eqV v u = eqFD d e := by cases h <;> cases k <;> rfl
theorem in_dv {G : Hp} {v : V} {d : D} (h : Dv Z G v d) : ∀ {vs : List V} {ds : List D}, DvAll Z G vs ds → inV v vs = inD d ds
  | _, _, .nil => rfl
  | _, _, .cons a as => by
    unfold inV inD
    rw [List.any_cons, List.any_cons, eqF_dv a h]
    exact congrArg _ (in_dv h as)
def dIn (neg : Bool) : DR2 := fun x y P => match y with
  | .lst l => flatD x = true ∧ l.all flatD = true ∧ P (.bl (if neg then !inD x l else inD x l))
  | .tup l => flatD x = true ∧ l.all flatD = true ∧ P (.bl (if neg then !inD x l else inD x l))
  | _ => False
theorem rd_in {neg : Bool} : ∀ x y H Q, liftR Z (dIn neg) x y H Q → rIn X.K neg x y H Q := by
  rintro x y H Q ⟨G, a, b, P, s, da, db, hr, q⟩
  cases db <;> first | exact hr.elim | skip
  · rename_i p xs ds h e
    obtain ⟨h1, h2, hp⟩ := hr
    refine ⟨p, xs, rfl, .inl (SqL.of (s _ _ h)), by rw [flat_dv da]; exact h1, by rw [flatAll_dv e]; exact h2, ?_⟩
    rw [in_dv da e]
    exact q _ hp _ G H (.refl s) (.bl _)
  · rename_i p xs ds h e
    obtain ⟨h1, h2, hp⟩ := hr
    refine ⟨p, xs, rfl, .inr (SqT.of (s _ _ h)), by rw [flat_dv da]; exact h1, by rw [flatAll_dv e]; exact h2, ?_⟩
    rw [in_dv da e]
    exact q _ hp _ G H (.refl s) (.bl _)
theorem od_in : OpR X (compareOp .In) (liftR Z (dIn false)) := op_in_seq.imp rd_in
theorem od_notin : OpR X (compareOp .NotIn) (liftR Z (dIn true)) := op_notIn_seq.imp rd_in
/-! ### places and slices -/
def dIx : DR2 := fun x y P => match x, y with
  | .lst l, .int i => ∃ d, atI l i = some d ∧ P d
  | .tup l, .int i => ∃ d, atI l i = some d ∧ P d
  | .scr l, .int i => ∃ n, atI l i = some n ∧ P (.int n)
  | _, _ => False
theorem atI_dv {G : Hp} {vs : List V} {ds : List D} {i : Int} {d : D} (h : DvAll Z G vs ds) (e : atI ds i = some d) : ∃ v, atI vs i = some v ∧ Dv Z G v d := by
  unfold atI at e ⊢
  rw [h.length]
  cases z : ixN ds.length i with
  | none => rw [z] at e; cases e
  | some j => rw [z] at e; exact h.get e
theorem atI_map {α β : Type} (f : α → β) (l : List α) (i : Int) : atI (l.map f) i = (atI l i).map f := by
  unfold atI
  rw [List.length_map]
  cases ixN l.length i with
  | none => rfl
  | some j => show (l.map f)[j]? = _; rw [List.getElem?_map]; rfl
variable {a b c e : Expr} {ta tb tc te : DTE} {pos : Pos}
theorem de_ix (ha : DE Z X a ta) (hb : DE Z X b tb) (eK : X.K = Z.K := by rfl) (hs : PlainIx b := by exact fun _ _ => rfl) : DE Z X (.Subscript a b pos) (dOp dIx ta tb) := by
  refine (pe_ix (ix_list.or ix_tup) ha hb hs).imp fun σ H Q h => ?_
  obtain ⟨G, ρ, P, s, e, h, q⟩ := lift2 σ H Q h
  refine ⟨G, ρ, P, s, e, h, fun d hd v G1 H1 x1 dv => ?_⟩
  obtain ⟨G', ρ', P', s', e', h', q'⟩ := q d hd v G1 H1 x1 dv
  refine ⟨G', ρ', P', s', e', h', fun d2 hd2 v2 G2 H2 x2 dv2 => ?_⟩
  obtain ⟨G, a, b, P, s, da, db, hr, q⟩ := q' d2 hd2 v2 G2 H2 x2 dv2
  unfold dIx at hr
  split at hr
  · obtain ⟨d, h1, hp⟩ := hr
    obtain ⟨_, _, rfl, h, e⟩ := da.ofLst
    obtain ⟨v, hv, dv⟩ := atI_dv e h1
    exact .inl ⟨_, _, _, v, rfl, db.ofInt, SqL.of (s _ _ h), hv, q _ hp _ G _ (.refl s) dv⟩
  · obtain ⟨d, h1, hp⟩ := hr
    obtain ⟨_, _, rfl, h, e⟩ := da.ofTup
    obtain ⟨v, hv, dv⟩ := atI_dv e h1
    exact .inr ⟨_, _, _, v, rfl, db.ofInt, SqT.of (s _ _ h), hv, q _ hp _ G _ (.refl s) dv⟩
  rotate_left
  · exact hr.elim
  · obtain ⟨d, h1, hp⟩ := hr
    obtain ⟨_, rfl, h, _⟩ := da.ofScr
    refine .inl ⟨_, _, _, .int d, rfl, db.ofInt, by rw [eK]; exact h.mono s, by rw [atI_map, h1]; rfl, q _ hp _ G _ (.refl s) (.int d)⟩
def cutD {α : Type} (xs : List α) (lo hi : Option Int) : List α := (xs.drop (HT.sIx xs.length 0 lo)).take (HT.sIx xs.length xs.length hi - HT.sIx xs.length 0 lo)
theorem cut_dv {G : Hp} {vs : List V} {ds : List D} (h : DvAll Z G vs ds) (lo hi : Option Int) : DvAll Z G (cutV vs lo hi) (cutD ds lo hi) := by
  unfold cutV cutD
  rw [h.length]
  exact (h.drop _).take _
theorem cutD_map {α β : Type} (f : α → β) (l : List α) (lo hi : Option Int) : cutD (l.map f) lo hi = (cutD l lo hi).map f := by
  unfold cutD
  rw [List.length_map, List.map_take, List.map_drop]
abbrev DTO := DN → (Option Int → Prop) → Prop
def dNoPart : DTO := fun _ P => P none
def dPart (t : DTE) : DTO := fun ρ P => t ρ fun d => match d with
  | .int i => P (some i)
  | _ => False
def liftO (Z : DC) (t : DTO) : TO := fun σ H Q => ∃ (G : Hp) (ρ : DN) (P : Option Int → Prop), Same G H ∧ EnvD Z G σ ρ ∧ t ρ P ∧ ∀ o, P o → ∀ G' H', Ext G H G' H' → Q o H'
def DO (Z : DC) (X : Cx) (e : Option Expr) (t : DTO) : Prop := PO X e (liftO Z t)
theorem PO.imp {e : Option Expr} {t t' : TO} (h : PO X e t) (f : ∀ σ H Q, t' σ H Q → t σ H Q) : PO X e t' := fun pins s σ H Q I q => h pins s σ H Q I (f _ _ _ q)
theorem do_none : DO Z X none dNoPart := po_none.imp fun σ H Q ⟨G, ρ, P, s, e, p, q⟩ => q _ p G H (.refl s)
theorem do_some (h : DE Z X e te) : DO Z X (some e) (dPart te) := by
  refine (po_some h).imp ?_
  rintro σ H Q ⟨G, ρ, P, s, e, h, q⟩
  refine ⟨G, ρ, _, s, e, h, fun d hd v G1 H1 x1 dv => ?_⟩
  cases dv <;> first | exact hd.elim | skip
  exact ⟨_, rfl, q _ hd G1 H1 x1⟩
def dSl (te : DTE) (tl th : DTO) : DTE := fun ρ P => te ρ fun x => tl ρ fun lo => th ρ fun hi => match x with
  | .lst l => P (.lst (cutD l lo hi))
  | .tup l => ¬ (HT.sIx l.length 0 lo = 0 ∧ HT.sIx l.length l.length hi = l.length) ∧ P (.tup (cutD l lo hi))
  | .scr l => P (.lst ((cutD l lo hi).map D.int))
  | _ => False
variable {lo hi : Option Expr} {tl th : DTO} {p2 : Pos}
theorem de_slice (he : DE Z X e te) (hl : DO Z X lo tl) (hu : DO Z X hi th) (eK : X.K = Z.K := by rfl) : DE Z X (.Subscript e (.Slice lo hi none p2) pos) (dSl te tl th) := by
  refine (pe_slice (sl_list.or sl_tup) he hl hu).imp ?_
  rintro σ H Q ⟨G, ρ, P, s, en, h, q⟩
  refine ⟨G, ρ, _, s, en, h, fun d hd v G1 H1 x1 dv => ?_⟩
  refine ⟨G1, ρ, _, x1.sub, en.mono x1.gg, hd, fun l hl G2 H2 x2 => ?_⟩
  refine ⟨G2, ρ, _, x2.sub, (en.mono x1.gg).mono x2.gg, hl, fun u hu G3 H3 x3 => ?_⟩
  have x := (x1.trans x2).trans x3
  have dv := (dv.mono x2.gg).mono x3.gg
  cases dv <;> first | exact hu.elim | skip
  · rename_i h e
    exact .inl ⟨_, _, rfl, SqL.of (x3.sub _ _ h), fun p hn => q _ hu _ _ _ (x.trans (.new x3.sub hn)) (.lst upd_same ((cut_dv e l u).mono (same_new (x3.sub.free hn) _)))⟩
  · rename_i h e
    refine .inr ⟨_, _, rfl, SqT.of (x3.sub _ _ h), by rw [e.length]; exact hu.1, fun p hn => q _ hu.2 _ _ _ (x.trans (.new x3.sub hn)) (.tup upd_same ((cut_dv e l u).mono (same_new (x3.sub.free hn) _)))⟩
  · rename_i h _
    refine .inl ⟨_, _, rfl, by rw [eK]; exact h.mono x3.sub, fun p hn => q _ hu _ _ _ (x.trans (.new x3.sub hn)) (.lst upd_same ?_)⟩
    show DvAll Z _ (cutD _ l u) _
    rw [cutD_map]
    exact .ints _
/-! ### builtins -/
def bLen : DSp := fun ds P => match ds with
  | [.lst l] => P (.int l.length)
  | [.tup l] => P (.int l.length)
  | [.scr l] => P (.int l.length)
  | _ => False
theorem cd_len (eK : X.K = Z.K := by rfl) : CallR X (.builtin "len") (liftC Z bLen) := by
  refine call_len_seq.imp ?_
  rintro xs H Q ⟨G, ds, P, s, dv, hr, q⟩
  unfold bLen at hr
  split at hr
  · obtain ⟨_, rfl, a⟩ := dv.ofOne
    obtain ⟨_, _, rfl, h, e⟩ := a.ofLst
    exact ⟨_, _, rfl, .inl (SqL.of (s _ _ h)), by rw [e.length]; exact q _ hr _ G H (.refl s) (.int _)⟩
  · obtain ⟨_, rfl, a⟩ := dv.ofOne
    obtain ⟨_, _, rfl, h, e⟩ := a.ofTup
    exact ⟨_, _, rfl, .inr (SqT.of (s _ _ h)), by rw [e.length]; exact q _ hr _ G H (.refl s) (.int _)⟩
  · obtain ⟨_, rfl, a⟩ := dv.ofOne
    obtain ⟨_, rfl, h, _⟩ := a.ofScr
    exact ⟨_, _, rfl, .inl (by rw [eK]; exact h.mono s), by rw [List.length_map]; exact q _ hr _ G H (.refl s) (.int _)⟩
  · exact hr.elim
def bList : DSp := fun ds P => match ds with
  | [.lst l] => P (.lst l)
  | [.tup l] => P (.lst l)
  | _ => False
theorem cd_list : CallR X (.type "list") (liftC Z bList) := by
  refine call_list_of.imp ?_
  rintro xs H Q ⟨G, ds, P, s, dv, hr, q⟩
  unfold bList at hr
  split at hr
  · obtain ⟨_, rfl, a⟩ := dv.ofOne
    obtain ⟨_, _, rfl, h, e⟩ := a.ofLst
    exact ⟨_, _, rfl, .inl (SqL.of (s _ _ h)), fun p hn => q _ hr _ _ _ (.new s hn) (.lst upd_same (e.mono (same_new (s.free hn) _)))⟩
  · obtain ⟨_, rfl, a⟩ := dv.ofOne
    obtain ⟨_, _, rfl, h, e⟩ := a.ofTup
    exact ⟨_, _, rfl, .inr (SqT.of (s _ _ h)), fun p hn => q _ hr _ _ _ (.new s hn) (.lst upd_same (e.mono (same_new (s.free hn) _)))⟩
  · exact hr.elim
def bInt : DSp := fun ds P => match ds with
  | [.int i] => P (.int i)
  | [.bl b] => P (.int (if b then 1 else 0))
  | _ => False
/-! ### isinstance of a built-in type -/
def isI : String → D → Bool
  | "int", .int _ => true
  | "int", .bl _ => true
  | "bool", .bl _ => true
  | "list", .lst _ => true
  | "tuple", .tup _ => true
  | _, _ => false
def okI (n : String) : Bool := n == "int" || n == "bool" || n == "list" || n == "tuple"
def okID : D → Bool
  | .non => true
  | .bl _ => true
  | .int _ => true
  | .str _ => true
  | .lst _ => true
  | .tup _ => true
  | _ => false
def dIsI (n : String) (t : DTE) : DTE := fun ρ P => t ρ fun d => okID d = true ∧ P (.bl (isI n d))
theorem kit_is {K : PySem.W.Frag} {H : Hp} {v : V} {d : D} {n : String} (hn : okI n = true) (hd : okID d = true) (h : Dv Z H v d) : ∃ t, TyOf K H v t ∧ PySem.W.kitOne K t (.type n) = some (isI n d) := by
  unfold okI at hn
  rw [Bool.or_eq_true, Bool.or_eq_true, Bool.or_eq_true, beq_iff_eq, beq_iff_eq, beq_iff_eq, beq_iff_eq] at hn
  cases h with
  | non => refine ⟨_, .non, ?_⟩; rcases hn with ((rfl | rfl) | rfl) | rfl <;> kernel_rfl
  | bl b => refine ⟨_, .bl b, ?_⟩; rcases hn with ((rfl | rfl) | rfl) | rfl <;> kernel_rfl
  | int b => refine ⟨_, .int b, ?_⟩; rcases hn with ((rfl | rfl) | rfl) | rfl <;> kernel_rfl
  | str b => refine ⟨_, .str b, ?_⟩; rcases hn with ((rfl | rfl) | rfl) | rfl <;> kernel_rfl
  | lst h a => refine ⟨_, .lst h, ?_⟩; rcases hn with ((rfl | rfl) | rfl) | rfl <;> kernel_rfl
  | tup h a => refine ⟨_, .tup h, ?_⟩; rcases hn with ((rfl | rfl) | rfl) | rfl <;> kernel_rfl
  | _ => cases hd
end
end L2

set_option Elab.async false
set_option linter.all false
set_option maxRecDepth 100000
set_option maxHeartbeats 4000000
namespace L2
open PySem PySem.Spec PyProof.Rows
section
variable {Z : DC} {X : Cx} {a b c e : Expr} {ta tb tc te : DTE} {pos : Pos}
theorem de_isI (n : String) {x : Str} {p p' : Pos} (ha : DE Z X a ta) (hg : Gl X "isinstance") (hm : X.mg "isinstance" = none) (hg' : Gl X x) (hm' : X.mg x = none) (hv : bootBuiltins x = some (.type n)) (ok : okI n = true := by decide)
    (hn : x ≠ "__name__" := by decide) (hd : (x == ("__debug__" : Str)) = false := by decide) (hs : starEach [a, .Name x p'] X.env = (false, eval a X.env) :: starEach [.Name x p'] X.env := by rfl)
    (hpl : (backTo pos (starEach [.Name x p'] X.env)).any (·.1) = false := by rfl) (hs2 : starEach [.Name x p'] X.env = (false, eval (.Name x p') X.env) :: starEach [] X.env := by rfl) :
    DE Z X (.Call (.Name "isinstance" p) [a, .Name x p'] [] pos) (dIsI n ta) := by
  have hb : PE X (.Name x p') (tC (.ty n)) := pe_bltn hg' hm' hv rfl hn hd
  refine (pe_callB call_isinst hg hm (by decide +kernel) (pa_cons ha (pa_cons hb pa_nil hs2) hs) (by decide) (by decide) hs hpl).imp ?_
  rintro σ H Q ⟨G, ρ, P, s, e, h, q⟩
  refine ⟨G, ρ, _, s, e, h, ?_⟩
  rintro d ⟨hk, hp⟩ v G1 H1 x1 dv
  obtain ⟨t, ht, hk'⟩ := kit_is (K := X.K) (H := H1) ok hk (dv.mono x1.sub)
  exact ⟨v, n, t, _, rfl, ht, hk', q _ hp _ G1 H1 x1 (.bl _)⟩
/-! ### targets -/
def liftG (Z : DC) (g : DTG) : TG := fun v σ H Q => ∃ (G : Hp) (ρ : DN) (d : D) (P : DN → Prop), Same G H ∧ EnvD Z G σ ρ ∧ Dv Z G v d ∧ g d ρ P ∧ ∀ ρ', P ρ' → ∀ σ', EnvD Z G σ' ρ' → Q σ' H
def DG (Z : DC) (X : Cx) (e : Expr) (g : DTG) : Prop := PG X e (liftG Z g)
theorem PG.imp {e : Expr} {t t' : TG} (h : PG X e t) (f : ∀ v σ H Q, t' v σ H Q → t v σ H Q) : PG X e t' := fun pins s σ H v u Q I r q => h pins s σ H v u Q I r (f _ _ _ _ q)
def dgName (i : Nat) : DTG := fun d ρ P => P (ρ.set i (some d))
theorem dg_name (i : Nat) {x : Str} (hN : X.N.Nodup) (hi : X.N[i]? = some x := by rfl) (hx : Loc X.env.scope x := by exact Or.inl rfl) (hf : X.fn x = true ∨ X.env.scope.names.lookup x = some .local := by first | exact .inl rfl | exact .inr rfl | assumption) : DG Z X (.Name x pos) (dgName i) :=
  (pg_name hN hi hx hf).imp fun v σ H Q ⟨G, ρ, d, P, s, e, dv, h, q⟩ => q _ h _ (e.set dv)
abbrev DTGs := List D → DN → (DN → Prop) → Prop
theorem PGs.imp {es : List Expr} {t t' : TGs} (h : PGs X es t) (f : ∀ v σ H Q, t' v σ H Q → t v σ H Q) : PGs X es t' := fun pins s σ H v u Q I r q => h pins s σ H v u Q I r (f _ _ _ _ q)
def dgNil : DTGs := fun ds ρ P => ds = [] ∧ P ρ
def dgCons (g : DTG) (gs : DTGs) : DTGs := fun ds ρ P => match ds with
  | d :: r => g d ρ fun ρ' => gs r ρ' P
  | [] => False
def dgTup (n : Nat) (gs : DTGs) : DTG := fun d ρ P => match d with
  | .tup l => l.length = n ∧ gs l ρ P
  | _ => False
/-! ### what is walked -/
def ItOk (Z : DC) (G : Hp) (J : It) (ds : List D) : Prop := ∀ G2 H2, Same G G2 → Same G2 H2 → ∀ i : Nat, (i < ds.length → J.go i H2) ∧ (ds.length ≤ i → J.stop i H2) ∧
  ∀ x H', i < ds.length → J.yld i H2 x H' → ∃ G3 d, Ext G2 H2 G3 H' ∧ ds[i]? = some d ∧ Dv Z G3 x d
def liftI (Z : DC) (wi : DTI) : TI := fun σ H R => ∃ (G : Hp) (ρ : DN) (P : List D → Prop), Same G H ∧ EnvD Z G σ ρ ∧ wi ρ P ∧ ∀ ds, P ds → ∀ J G' H', Ext G H G' H' → ItOk Z G' J ds → R J H'
def DI (Z : DC) (X : Cx) (tg e : Expr) (wi : DTI) : Prop := PI X tg e (liftI Z wi)
theorem PI.imp {tg e : Expr} {t t' : TI} (h : PI X tg e t) (f : ∀ σ H Q, t' σ H Q → t σ H Q) : PI X tg e t' := fun pins s σ H Q I q => h pins s σ H Q I (f _ _ _ q)
def diLst (t : DTE) : DTI := fun ρ P => t ρ fun d => match d with
  | .lst l => P l
  | _ => False
theorem it_list {K : PySem.W.Frag} {G : Hp} {a : Addr} {xs : List V} {ds : List D} (h : G a = some (.lst xs)) (e : DvAll Z G xs ds) : ItOk Z G (Itl K a) ds := by
  intro G2 H2 s1 s2 i
  have h2 := SqL.of (K := K) (s2 _ _ (s1 _ _ h))
  have l := e.length
  refine ⟨fun hi => ⟨xs, xs[i], h2, List.getElem?_eq_getElem (by omega)⟩, fun hi => ⟨xs, h2, by omega⟩, ?_⟩
  rintro x H' hi ⟨rfl, hx⟩
  obtain ⟨d, hd, dv⟩ := e.getV (hx _ h2)
  exact ⟨G2, d, .refl s2, hd, dv.mono s1⟩
theorem di_list {tg : Expr} (h : DE Z X e te) : DI Z X tg e (diLst te) := by
  refine (pi_list h).imp ?_
  rintro σ H Q ⟨G, ρ, P, s, en, h, q⟩
  refine ⟨G, ρ, _, s, en, h, fun d hd v G1 H1 x1 dv => ?_⟩
  cases dv <;> first | exact hd.elim | skip
  rename_i ha e
  exact ⟨_, rfl, ⟨_, SqL.of (x1.sub _ _ ha)⟩, q _ hd _ G1 H1 x1 (it_list ha e)⟩
def rangeD (lo : Int) (n : Nat) : List D := (List.range n).map fun (k : Nat) => D.int (lo + (k : Int))
theorem rangeD_get {lo : Int} {n i : Nat} (h : i < n) : (rangeD lo n)[i]? = some (.int (lo + i)) := by
  unfold rangeD
  rw [List.getElem?_map, List.getElem?_range h]; rfl
theorem it_range {G : Hp} (lo : Int) (n : Nat) : ItOk Z G (Itr lo n) (rangeD lo n) := by
  intro G2 H2 s1 s2 i
  have l : (rangeD lo n).length = n := by unfold rangeD; simp
  rw [l]
  refine ⟨fun hi => hi, fun hi => hi, ?_⟩
  rintro x H' hi ⟨rfl, rfl⟩
  exact ⟨G2, _, .refl s2, rangeD_get hi, .int _⟩
def diR1 (t : DTA) : DTI := fun ρ P => t ρ fun ds => match ds with
  | [.int j] => (-(2 ^ 62) ≤ j ∧ j < 2 ^ 62) ∧ P (rangeD 0 j.toNat)
  | _ => False
def diR2 (t : DTA) : DTI := fun ρ P => t ρ fun ds => match ds with
  | [.int i, .int j] => (-(2 ^ 62) ≤ i ∧ i < 2 ^ 62 ∧ -(2 ^ 62) ≤ j ∧ j < 2 ^ 62) ∧ P (rangeD i (j - i).toNat)
  | _ => False
variable {t : DTA}
theorem di_range2 {tg : Expr} {p : Pos} (hg : Gl X "range") (hm : X.mg "range" = none) (ha : DA Z X [a, b] t) (hs : starEach [a, b] X.env = [(false, eval a X.env), (false, eval b X.env)] := by rfl) (hs2 : starEach [b] X.env = [(false, eval b X.env)] := by rfl) : DI Z X tg (.Call (.Name "range" p) [a, b] [] pos) (diR2 t) := by
  refine (pi_range2 hg hm ha hs hs2).imp ?_
  rintro σ H Q ⟨G, ρ, P, s, en, h, q⟩
  refine ⟨G, ρ, _, s, en, h, fun ds hd vs G1 H1 x1 dv => ?_⟩
  split at hd
  · obtain ⟨u1, u2, rfl, da, db⟩ := dv.ofTwo
    exact ⟨_, _, by rw [da.ofInt, db.ofInt], hd.1, q _ hd.2 _ G1 H1 x1 (it_range _ _)⟩
  · exact hd.elim
def enumD (l : List D) : List D := l.mapIdx fun i x => .tup [.int (i : Int), x]
def diEnum (t : DTA) : DTI := fun ρ P => t ρ fun ds => match ds with
  | [.lst l] => P (enumD l)
  | _ => False
theorem it_enum {K : PySem.W.Frag} {G : Hp} {a : Addr} {xs : List V} {ds : List D} (h : G a = some (.lst xs)) (e : DvAll Z G xs ds) : ItOk Z G (Ite K a) (enumD ds) := by
  intro G2 H2 s1 s2 i
  have h2 := SqL.of (K := K) (s2 _ _ (s1 _ _ h))
  have l := e.length
  rw [show (enumD ds).length = ds.length by unfold enumD; simp]
  refine ⟨fun hi => ⟨xs, xs[i], h2, List.getElem?_eq_getElem (by omega)⟩, fun hi => ⟨xs, h2, by omega⟩, ?_⟩
  rintro x H' hi ⟨t, y, rfl, ht, rfl, hx⟩
  obtain ⟨d, hd, dv⟩ := e.getV (hx _ h2)
  refine ⟨_, _, .new s2 ht, by unfold enumD; rw [List.getElem?_mapIdx, hd]; rfl, ?_⟩
  exact .tup upd_same (.cons (.int _) (.cons ((dv.mono s1).mono (same_new (s2.free ht) _)) .nil))
theorem di_enum {p : Pos} {es : List Expr} {k1} {tp : Pos} (hg : Gl X "enumerate") (hm : X.mg "enumerate" = none) (ha : DA Z X [a] t) (hs : starEach [a] X.env = [(false, eval a X.env)] := by rfl) : DI Z X (.Tuple es k1 tp) (.Call (.Name "enumerate" p) [a] [] pos) (diEnum t) := by
  refine (pi_enum hg hm ha hs).imp ?_
  rintro σ H Q ⟨G, ρ, P, s, en, h, q⟩
  refine ⟨G, ρ, _, s, en, h, fun ds hd vs G1 H1 x1 dv => ?_⟩
  split at hd
  · obtain ⟨_, rfl, a⟩ := dv.ofOne
    obtain ⟨_, _, rfl, h, e⟩ := a.ofLst
    exact ⟨_, rfl, ⟨_, x1.sub _ _ h⟩, q _ hd _ G1 H1 x1 (it_enum h e)⟩
  · exact hd.elim
/-! ### comprehensions -/
def srcD (src : List (Option Nat)) (ρ : DN) : DN := src.map fun o => o.bind fun i => (ρ[i]?).bind id
theorem EnvD.src {G : Hp} {σ : St} {ρ : DN} (e : EnvD Z G σ ρ) (src : List (Option Nat)) : EnvD Z G (srcS src σ) (srcD src ρ) := by
  refine ⟨by unfold srcS srcD; simp, fun i d h => ?_⟩
  unfold srcD at h
  unfold srcS
  rw [List.getElem?_map] at h ⊢
  cases k : src[i]? with
  | none => rw [k] at h; cases h
  | some o =>
    rw [k] at h
    cases o with
    | none => cases h
    | some j =>
      have h' : (ρ[j]?).bind id = some d := Option.some.inj h
      cases m : ρ[j]? with
      | none => rw [m] at h'; cases h'
      | some z =>
        rw [m] at h'
        have h2 : z = some d := h'
        subst h2
        obtain ⟨v, hv, dv⟩ := e.at_ j d m
        exact ⟨v, by show some ((σ[j]?).bind id) = _; rw [hv]; rfl, dv⟩
/-- the turns of a clause; N: what is wanted behind the last -/
def lcW (g : DTG) (tt : DTT) (te : DTE) : List D → DN → List D → (DN → List D → Prop) → Prop
  | [], ρ, acc, N => N ρ acc
  | x :: xs, ρ, acc, N => g x ρ fun ρ1 => tt ρ1 fun b => if b = true then te ρ1 fun d => acc.length < sizeLine ∧ lcW g tt te xs ρ1 (acc ++ [d]) N else lcW g tt te xs ρ1 acc N
def dLC (wi : DTI) (g : DTG) (tt : DTT) (te : DTE) (src : List (Option Nat)) : DTE := fun ρ P => wi ρ fun ds => lcW g tt te ds (srcD src ρ) [] fun _ out => P (.lst out)
def dYes : DTT := fun _ P => P true
def DTs (Z : DC) (X : Cx) (ifs : List Expr) (t : DTT) : Prop := PTs X ifs (liftT Z t)
theorem PTs.imp {ifs : List Expr} {t t' : TT} (h : PTs X ifs t) (f : ∀ σ H Q, t' σ H Q → t σ H Q) : PTs X ifs t' := fun pins s σ H Q I q => h pins s σ H Q I (f _ _ _ q)
theorem dts_nil : DTs Z X [] dYes := pts_nil.imp fun σ H Q ⟨G, ρ, P, s, e, p, q⟩ => q _ p G H (.refl s)
theorem dts_one {tA : DTT} (h : DT Z X c tA) : DTs Z X [c] tA := pts_one h
/-- the state of a comprehension's block: the pure part, the list that is made, the names -/
def CS (Z : DC) (G1 H1 : Hp) (Ad : Addr) (ρ : DN) (acc : List D) (σ : St) (H : Hp) : Prop :=
  ∃ (G : Hp) (ys : List V), Same G1 G ∧ Same G H ∧ Same H1 H ∧ (∀ b, H1 b ≠ none → G1 b = none → G b = none) ∧ G Ad = none ∧ H Ad = some (.lst ys) ∧ DvAll Z G ys acc ∧ EnvD Z G σ ρ
theorem some_ne {H H' : Hp} (s : Same H H') {b : Addr} (h : H b ≠ none) : H' b ≠ none := fun z => by
  cases e : H b with
  | none => exact h e
  | some o => rw [s b o e] at z; cases z
theorem drop_at {α : Type} {l : List α} {i : Nat} {x : α} (h : l[i]? = some x) : l.drop i = x :: l.drop (i + 1) := by
  obtain ⟨hi, e⟩ := List.getElem?_eq_some_iff.mp h
  rw [List.drop_eq_getElem_cons hi, e]
/-- one clause's turns, over the heap -/
theorem lc_turns {G1 H1 : Hp} {Ad : Addr} {J : It} {ds : List D} {g : DTG} {tt : DTT} {te : DTE} {N : DN → List D → Prop} (hA : H1 Ad = none) (G0 : Hp) (it : ItOk Z G0 J ds) (i : Nat) (ρ : DN) (acc : List D) (σ : St) (H : Hp)
    (c : CS Z G1 H1 Ad ρ acc σ H) (hG : ∀ G, Same G1 G → Same G0 G) (hi : i < ds.length) (h : lcW g tt te (ds.drop i) ρ acc N) :
    J.go i H ∧ ∀ x H3, J.yld i H x H3 → liftG Z g x σ H3 fun σ4 H4 => liftT Z tt σ4 H4 fun b H5 =>
      if b = true then liftE Z te σ4 H5 fun v H6 => ∃ ys, H6 Ad = some (.lst ys) ∧ ys.length < sizeLine ∧ (∃ ρ' acc', CS Z G1 H1 Ad ρ' acc' σ4 (upd H6 Ad (.lst (ys ++ [v]))) ∧ lcW g tt te (ds.drop (i + 1)) ρ' acc' N)
      else ∃ ρ' acc', CS Z G1 H1 Ad ρ' acc' σ4 H5 ∧ lcW g tt te (ds.drop (i + 1)) ρ' acc' N := by
  obtain ⟨G2, ys, s1, s2, s3, off, gA, hAd, dvs, en⟩ := c
  obtain ⟨go, _, yld⟩ := it G2 H (hG _ s1) s2 i
  refine ⟨go hi, fun x H3 y => ?_⟩
  obtain ⟨G3, d, x3, hd, dv⟩ := yld x H3 hi y
  rw [drop_at hd] at h
  refine ⟨G3, ρ, d, _, x3.sub, en.mono x3.gg, dv, h, fun ρ1 h1 σ4 en4 => ?_⟩
  refine ⟨G3, ρ1, _, x3.sub, en4, h1, fun b hb G5 H5 x5 => ?_⟩
  have x35 := x3.trans x5
  have offA : ∀ {G H'' : Hp}, Ext G2 H G H'' → G Ad = none := fun x => x.off Ad (by rw [hAd]; exact fun z => nomatch z) gA
  have offB : ∀ {G H'' : Hp}, Ext G2 H G H'' → ∀ b, H1 b ≠ none → G1 b = none → G b = none := fun x b h1 h2 => x.off b (some_ne s3 h1) (off b h1 h2)
  cases b with
  | false =>
    refine iteF ⟨ρ1, acc, ⟨G5, ys, s1.trans x35.gg, x35.sub, s3.trans x35.hh, offB x35, offA x35, x35.hh _ _ hAd, dvs.mono x35.gg, en4.mono x5.gg⟩, ?_⟩
    simpa using hb
  | true =>
    refine iteT ⟨G5, ρ1, _, x5.sub, en4.mono x5.gg, (by simpa using hb), fun d' hd' v G6 H6 x6 dv6 => ?_⟩
    have x := x35.trans x6
    refine ⟨ys, x.hh _ _ hAd, by rw [dvs.length]; exact hd'.1, ρ1, _, ⟨G6, ys ++ [v], s1.trans x.gg, fun b o e => ?_, fun b o e => ?_, offB x, offA x, upd_same, (dvs.mono x.gg).snoc dv6, (en4.mono x5.gg).mono x6.gg⟩, hd'.2⟩
    · rw [upd_ne (ne_of_none e (offA x))]; exact x.sub _ _ e
    · rw [upd_ne (ne_of_none e hA)]; exact (s3.trans x.hh) _ _ e
theorem CS.done {G H G1 H1 H2 : Hp} {Ad : Addr} {ρ : DN} {acc : List D} {σ : St} (c : CS Z G1 H1 Ad ρ acc σ H2) (x1 : Ext G H G1 H1) (hA : H1 Ad = none) : ∃ G', Ext G H G' H2 ∧ Dv Z G' (.ref Ad) (.lst acc) := by
  obtain ⟨G2, ys, s1, s2, s3, off, gA, hAd, dvs, en⟩ := c
  refine ⟨upd G2 Ad (.lst ys), ⟨(x1.gg.trans s1).trans (same_new gA _), fun b o e => ?_, x1.hh.trans s3, fun b hb hg => ?_⟩, .lst upd_same (dvs.mono (same_new gA _))⟩
  · by_cases z : b = Ad
    · subst z; rw [upd_same] at e; cases e; exact hAd
    · rw [upd_ne z] at e; exact s2 _ _ e
  · have h1 := some_ne x1.hh hb
    rw [upd_ne (fun z => h1 (by rw [z]; exact hA))]
    exact off b h1 (x1.off b hb hg)
theorem CS.begin {G1 H1 : Hp} {Ad : Addr} {ρ : DN} {σ : St} (s : Same G1 H1) (hA : H1 Ad = none) (en : EnvD Z G1 σ ρ) : CS Z G1 H1 Ad ρ [] σ (upd H1 Ad (.lst [])) :=
  ⟨G1, [], .refl _, fun b o e => by rw [upd_ne (ne_of_none e (s.free hA))]; exact s _ _ e, same_new hA _, fun _ _ h => h, s.free hA, upd_same, .nil, en⟩
variable {tg iter elt : Expr} {ifs : List Expr} {scope : Scope} {NC : List Str} {src : List (Option Nat)} {wi : DTI} {g : DTG} {tt : DTT}
theorem liftLC : ∀ σ H Q, liftE Z (dLC wi g tt te src) σ H Q → tLC (liftI Z wi) (liftG Z g) (liftT Z tt) (liftE Z te) src σ H Q := by
  rintro σ H Q ⟨G, ρ, P, s, en, h, q⟩
  refine ⟨G, ρ, _, s, en, h, fun ds hd J G1 H1 x1 it Ad hA => ?_⟩
  refine ⟨fun i m σ2 H2 => m = ds.length - i ∧ i ≤ ds.length ∧ ∃ ρ2 acc, CS Z G1 H1 Ad ρ2 acc σ2 H2 ∧ lcW g tt te (ds.drop i) ρ2 acc fun _ out => P (.lst out), ⟨_, rfl, Nat.zero_le _, _, [], .begin x1.sub hA ((en.mono x1.gg).src src), hd⟩, ?_⟩
  rintro i m σ2 H2 ⟨rfl, hi, ρ2, acc, c, hl⟩
  by_cases hlt : i < ds.length
  · obtain ⟨go, turn⟩ := lc_turns hA G1 it i ρ2 acc σ2 H2 c (fun _ s => s) hlt hl
    exact .inr ⟨go, _, fun σ' H' n => ⟨ds.length - (i + 1), by omega, rfl, hlt, n⟩, turn⟩
  · have e : ds.drop i = [] := List.drop_eq_nil_of_le (by omega)
    rw [e] at hl
    obtain ⟨G', x, dv⟩ := c.done x1 hA
    obtain ⟨G2, ys, s1, s2, _⟩ := c
    exact .inl ⟨(it G2 H2 s1 s2 i).2.1 (by omega), q _ hl _ G' H2 x dv⟩
theorem de_lc (hc : X.calm = true) (c : CompOk X scope) (hsrc : SrcOk scope X.N src NC) (hi : DI Z X tg iter wi)
    (hg : ∀ ex s H, DG Z (cxC X scope NC ex s H) tg g) (ht : ∀ ex s H, DTs Z (cxC X scope NC ex s H) ifs tt) (he : ∀ ex s H, DE Z (cxC X scope NC ex s H) elt te)
    (hs : ∀ x, foldedSetIterable iter X.env x = pure x := by intro _; rfl) : DE Z X (.ListComp elt [⟨tg, iter, ifs, 0⟩] scope pos) (dLC wi g tt te src) := (pe_lc hc c hsrc hi hg ht he hs).imp liftLC
variable {t0 i0 t1 i1 : Expr} {f0 f1 : List Expr} {wi1 : DTI} {g1 : DTG} {tt1 : DTT}
end
end L2

set_option Elab.async false
set_option linter.all false
set_option maxRecDepth 100000
set_option maxHeartbeats 4000000
namespace L2
open PySem PySem.Spec PyProof.Rows
/-! ### owned lists: lists that a def made and changes -/
inductive OwnL (R : V → D → List Addr → Prop) : List V → List D → List Addr → Prop
  | nil : OwnL R [] [] []
  | cons {v : V} {vs : List V} {d : D} {ds : List D} {f fs : List Addr} : R v d f → OwnL R vs ds fs → OwnL R (v :: vs) (d :: ds) (f ++ fs)
def Own (Z : DC) (G H : Hp) : Nat → V → D → List Addr → Prop
  | 0, v, d, fp => Dv Z G v d ∧ fp = []
  | n + 1, v, d, fp => (∃ a xs ds fps, v = .ref a ∧ d = .lst ds ∧ H a = some (.lst xs) ∧ fp = a :: fps ∧ OwnL (Own Z G H n) xs ds fps) ∨ (1 ≤ n ∧ ∃ a xs ds, v = .ref a ∧ d = .tup ds ∧ G a = some (.tup xs) ∧ OwnL (Own Z G H n) xs ds fp)
theorem Own.lst {Z : DC} {G H : Hp} {n : Nat} {v : V} {ds : List D} {fp : List Addr} (o : Own Z G H (n + 1) v (.lst ds) fp) : ∃ a xs ds' fps, v = .ref a ∧ D.lst ds = .lst ds' ∧ H a = some (.lst xs) ∧ fp = a :: fps ∧ OwnL (Own Z G H n) xs ds' fps := by
  rcases o with o | ⟨_, a, xs, ds, _, e, _⟩
  · exact o
  · cases e
theorem Own.tup {Z : DC} {G H : Hp} {n : Nat} {v : V} {ds : List D} {fp : List Addr} (o : Own Z G H (n + 1) v (.tup ds) fp) : ∃ a xs, v = .ref a ∧ G a = some (.tup xs) ∧ OwnL (Own Z G H n) xs ds fp := by
  rcases o with ⟨a, xs, ds, fps, _, e, _⟩ | ⟨_, a, xs, ds, h1, e, h2, h3⟩
  · cases e
  · cases e; exact ⟨a, xs, h1, h2, h3⟩
theorem Own.one {Z : DC} {G H : Hp} {v : V} {d : D} {fp : List Addr} (o : Own Z G H 1 v d fp) : ∃ a xs ds fps, v = .ref a ∧ d = .lst ds ∧ H a = some (.lst xs) ∧ fp = a :: fps ∧ OwnL (Own Z G H 0) xs ds fps := by
  rcases o with o | ⟨z, _⟩
  · exact o
  · exact absurd z (by decide)
theorem OwnL.imp {R R' : V → D → List Addr → Prop} : ∀ {vs : List V} {ds : List D} {fp : List Addr}, OwnL R vs ds fp → (∀ v d f, (∀ b ∈ f, b ∈ fp) → R v d f → R' v d f) → OwnL R' vs ds fp
  | _, _, _, .nil, _ => .nil
  | _, _, _, .cons a as, h => .cons (h _ _ _ (fun b hb => List.mem_append_left _ hb) a) (as.imp fun v d f hf r => h v d f (fun b hb => List.mem_append_right _ (hf b hb)) r)
theorem OwnL.length {R : V → D → List Addr → Prop} : ∀ {vs : List V} {ds : List D} {fp : List Addr}, OwnL R vs ds fp → vs.length = ds.length
  | _, _, _, .nil => rfl
  | _, _, _, .cons _ as => congrArg (· + 1) as.length
section
variable {Z : DC} {G G' H H' : Hp}
theorem Own.keep : ∀ {n : Nat} {v : V} {d : D} {fp : List Addr}, Own Z G H n v d fp → Same G G' → (∀ b ∈ fp, H' b = H b) → Own Z G' H' n v d fp
  | 0, _, _, _, ⟨a, b⟩, s, _ => ⟨a.mono s, b⟩
  | n + 1, _, _, _, .inl ⟨a, xs, ds, fps, hv, hd, ha, hf, ho⟩, s, k => by
    subst hf
    exact .inl ⟨a, xs, ds, fps, hv, hd, by rw [k a (List.mem_cons_self ..)]; exact ha, rfl, ho.imp fun v d f hb r => Own.keep r s fun b q => k b (List.mem_cons_of_mem _ (hb b q))⟩
  | n + 1, _, _, _, .inr ⟨h1, a, xs, ds, hv, hd, ha, ho⟩, s, k => .inr ⟨h1, a, xs, ds, hv, hd, s _ _ ha, ho.imp fun v d f hb r => Own.keep r s fun b q => k b (hb b q)⟩
mutual
theorem Own.dv : ∀ {n : Nat} {v : V} {d : D} {fp : List Addr}, Own Z G H n v d fp → Same G G' → (∀ b ∈ fp, ∀ o, H b = some o → G' b = some o) → Dv Z G' v d
  | 0, _, _, _, ⟨a, _⟩, s, _ => a.mono s
  | n + 1, _, _, _, .inl ⟨a, xs, ds, fps, hv, hd, ha, hf, ho⟩, s, k => by
    subst hf hv hd
    exact .lst (k a (List.mem_cons_self ..) _ ha) (OwnL.dv ho s fun b hb => k b (List.mem_cons_of_mem _ hb))
  | n + 1, _, _, _, .inr ⟨_, a, xs, ds, hv, hd, ha, ho⟩, s, k => by
    subst hv hd
    exact .tup (s _ _ ha) (OwnL.dv ho s k)
theorem OwnL.dv : ∀ {n : Nat} {vs : List V} {ds : List D} {fp : List Addr}, OwnL (Own Z G H n) vs ds fp → Same G G' → (∀ b ∈ fp, ∀ o, H b = some o → G' b = some o) → DvAll Z G' vs ds
  | _, _, _, _, .nil, _, _ => .nil
  | n, _, _, _, .cons a as, s, k => .cons (Own.dv a s fun b hb => k b (List.mem_append_left _ hb)) (OwnL.dv as s fun b hb => k b (List.mem_append_right _ hb))
end
theorem OwnL.flat : ∀ {vs : List V} {ds : List D} {fp : List Addr}, OwnL (Own Z G H 0) vs ds fp → DvAll Z G vs ds ∧ fp = []
  | _, _, _, .nil => ⟨.nil, rfl⟩
  | _, _, _, .cons a as => by
    obtain ⟨h1, h2⟩ := as.flat
    obtain ⟨a1, a2⟩ := a
    exact ⟨.cons a1 h1, by rw [a2, h2]; rfl⟩
theorem DvAll.own : ∀ {vs : List V} {ds : List D}, DvAll Z G vs ds → OwnL (Own Z G H 0) vs ds []
  | _, _, .nil => .nil
  | _, _, .cons a as => .cons (f := []) (fs := []) ⟨a, rfl⟩ as.own
theorem Dv.flat {v : V} {d : D} (h : Dv Z G v d) (f : flatD d = true) : Dv Z G' v d := by
  cases h with
  | non => exact .non
  | bl b => exact .bl b
  | int i => exact .int i
  | str x k => exact .str x k
  | _ => cases f
end
/-! ### data without lists -/
mutual
def noL : D → Bool
  | .non => true
  | .bl _ => true
  | .int _ => true
  | .str _ => true
  | .tup l => noLs l
  | _ => false
def noLs : List D → Bool
  | [] => true
  | d :: ds => noL d && noLs ds
end
mutual
theorem Dv.noL {Z : DC} {G G' : Hp} (k : ∀ b xs, G b = some (.tup xs) → G' b = some (.tup xs)) : ∀ {v : V} {d : D}, Dv Z G v d → L2.noL d = true → Dv Z G' v d
  | _, _, .non, _ => .non
  | _, _, .bl b, _ => .bl b
  | _, _, .int i, _ => .int i
  | _, _, .str x h, _ => .str x h
  | _, _, .tup h a, f => .tup (k _ _ h) (DvAll.noL k a (by rw [L2.noL] at f; exact f))
  | _, _, .lst _ _, f => by simp [L2.noL] at f
  | _, _, .obj _, f => by simp [L2.noL] at f
  | _, _, .rng _, f => by simp [L2.noL] at f
  | _, _, .scr _ _, f => by simp [L2.noL] at f
  | _, _, .web _ _ _ _ _, f => by simp [L2.noL] at f
theorem DvAll.noL {Z : DC} {G G' : Hp} (k : ∀ b xs, G b = some (.tup xs) → G' b = some (.tup xs)) : ∀ {vs : List V} {ds : List D}, DvAll Z G vs ds → noLs ds = true → DvAll Z G' vs ds
  | _, _, .nil, _ => .nil
  | _, _, .cons a as, f => by
    rw [noLs, Bool.and_eq_true] at f
    exact .cons (Dv.noL k a f.1) (DvAll.noL k as f.2)
end
mutual
theorem Own.dvL {Z : DC} {G G' H : Hp} : ∀ {n : Nat} {v : V} {d : D} {fp : List Addr}, Own Z G H n v d fp → Same G G' → (∀ b ∈ fp, ∀ xs, H b = some (.lst xs) → G' b = some (.lst xs)) → Dv Z G' v d
  | 0, _, _, _, ⟨a, _⟩, s, _ => a.mono s
  | n + 1, _, _, _, .inl ⟨a, xs, ds, fps, hv, hd, ha, hf, ho⟩, s, k => by
    subst hf hv hd
    exact .lst (k a (List.mem_cons_self ..) _ ha) (OwnL.dvL ho s fun b hb => k b (List.mem_cons_of_mem _ hb))
  | n + 1, _, _, _, .inr ⟨_, a, xs, ds, hv, hd, ha, ho⟩, s, k => by
    subst hv hd
    exact .tup (s _ _ ha) (OwnL.dvL ho s k)
theorem OwnL.dvL {Z : DC} {G G' H : Hp} : ∀ {n : Nat} {vs : List V} {ds : List D} {fp : List Addr}, OwnL (Own Z G H n) vs ds fp → Same G G' → (∀ b ∈ fp, ∀ xs, H b = some (.lst xs) → G' b = some (.lst xs)) → DvAll Z G' vs ds
  | _, _, _, _, .nil, _, _ => .nil
  | n, _, _, _, .cons a as, s, k => .cons (Own.dvL a s fun b hb => k b (List.mem_append_left _ hb)) (OwnL.dvL as s fun b hb => k b (List.mem_append_right _ hb))
end
/-! ### the state of a def's body -/
structure Bs where
  G₀ : Hp
  H₀ : Hp
  Gf : Hp
structure SIx (Z : DC) (B : Bs) (md : List Nat) (ρ : DN) (σ : St) (H G : Hp) (fp : Nat → List Addr) : Prop where
  ex : Ext B.G₀ B.H₀ G H
  fl : Same B.Gf G
  len : ρ.length = σ.length
  at_ : ∀ (i : Nat) (d : D), ρ[i]? = some (some d) → ∃ v, σ[i]? = some (some v) ∧ Own Z G H (md.getD i 0) v d (fp i)
  nd : ∀ i, (fp i).Nodup
  ap : ∀ i j b, i ≠ j → b ∈ fp i → b ∉ fp j
  nw : ∀ i b, b ∈ fp i → B.H₀ b = none ∧ H b ≠ none ∧ G b = none
def SI (Z : DC) (B : Bs) (md : List Nat) (ρ : DN) (σ : St) (H : Hp) : Prop := ∃ G fp, SIx Z B md ρ σ H G fp
/-- the names that hold pure data -/
def pureN : List Nat → DN → DN
  | _, [] => []
  | [], o :: ρ => o :: ρ
  | 0 :: md, o :: ρ => o :: pureN md ρ
  | (_ + 1) :: md, _ :: ρ => none :: pureN md ρ
theorem pureN_len : ∀ (md : List Nat) (ρ : DN), (pureN md ρ).length = ρ.length
  | md, [] => by cases md <;> rfl
  | [], o :: ρ => rfl
  | 0 :: md, o :: ρ => by rw [pureN, List.length_cons, pureN_len md ρ, List.length_cons]
  | (_ + 1) :: md, _ :: ρ => by rw [pureN, List.length_cons, pureN_len md ρ, List.length_cons]
theorem pureN_at {d : D} : ∀ (md : List Nat) (ρ : DN) (i : Nat), (pureN md ρ)[i]? = some (some d) → md.getD i 0 = 0 ∧ ρ[i]? = some (some d)
  | md, [], i, h => by cases md <;> simp [pureN] at h
  | [], o :: ρ, i, h => ⟨by simp, h⟩
  | 0 :: md, o :: ρ, 0, h => ⟨rfl, by simpa [pureN] using h⟩
  | 0 :: md, o :: ρ, i + 1, h => by
    rw [pureN, List.getElem?_cons_succ] at h
    obtain ⟨a, b⟩ := pureN_at md ρ i h
    exact ⟨by rw [List.getD_cons_succ]; exact a, by rw [List.getElem?_cons_succ]; exact b⟩
  | (_ + 1) :: md, _ :: ρ, 0, h => by simp [pureN] at h
  | (_ + 1) :: md, _ :: ρ, i + 1, h => by
    rw [pureN, List.getElem?_cons_succ] at h
    obtain ⟨a, b⟩ := pureN_at md ρ i h
    exact ⟨by rw [List.getD_cons_succ]; exact a, by rw [List.getElem?_cons_succ]; exact b⟩
def vis (md : List Nat) : Bool → DN → DN
  | true, ρ => ρ
  | false, ρ => pureN md ρ
def flatIf : Bool → D → Prop
  | true, d => noL d = true
  | false, _ => True
section
variable {Z : DC} {B : Bs} {md : List Nat} {ρ : DN} {σ : St} {H G : Hp} {fp : Nat → List Addr}
theorem pureN_get {i : Nat} {d : D} (h : (pureN md ρ)[i]? = some (some d)) : md.getD i 0 = 0 ∧ ρ[i]? = some (some d) := pureN_at md ρ i h
theorem SIx.envP (S : SIx Z B md ρ σ H G fp) : EnvD Z G σ (pureN md ρ) := by
  refine ⟨by rw [pureN_len]; exact S.len, fun i d h => ?_⟩
  obtain ⟨z, h⟩ := pureN_get h
  obtain ⟨v, hv, o⟩ := S.at_ i d h
  rw [z] at o
  exact ⟨v, hv, o.1⟩
theorem SIx.envA (S : SIx Z B md ρ σ H G fp) : EnvD Z H σ ρ := by
  refine ⟨S.len, fun i d h => ?_⟩
  obtain ⟨v, hv, o⟩ := S.at_ i d h
  exact ⟨v, hv, o.dv S.ex.sub fun b _ u e => e⟩
/-- the heap grows by pure data -/
theorem SIx.grow {G' H' : Hp} (S : SIx Z B md ρ σ H G fp) (x : Ext G H G' H') : SIx Z B md ρ σ H' G' fp where
  ex := S.ex.trans x
  fl := S.fl.trans x.gg
  len := S.len
  at_ := fun i d h => by
    obtain ⟨v, hv, o⟩ := S.at_ i d h
    refine ⟨v, hv, o.keep x.gg fun b hb => ?_⟩
    cases e : H b with
    | none => exact absurd e (S.nw i b hb).2.1
    | some u => exact x.hh _ _ e
  nd := S.nd
  ap := S.ap
  nw := fun i b hb => let ⟨h1, h2, h3⟩ := S.nw i b hb; ⟨h1, some_ne x.hh h2, x.off b h2 h3⟩
theorem Ext.all {G' H' : Hp} (s : Same G H) (x : Ext H H G' H') : Ext G H G H' := ⟨.refl _, s.trans x.hh, x.hh, fun _ _ h => h⟩
open Classical in
/-- the pure part and the lists of one's own -/
noncomputable def withO (G H : Hp) (fp : Nat → List Addr) : Hp := fun b => if ∃ i, b ∈ fp i then (match H b with | some (.lst xs) => some (.lst xs) | _ => none) else G b
open Classical in
noncomputable def lessO (G : Hp) (fp : Nat → List Addr) : Hp := fun b => if ∃ i, b ∈ fp i then none else G b
theorem withO_in {b : Addr} {xs : List V} (i : Nat) (h : b ∈ fp i) (e : H b = some (.lst xs)) : withO G H fp b = some (.lst xs) := by
  unfold withO
  rw [if_pos ⟨i, h⟩, e]
theorem withO_out {b : Addr} (h : ¬ ∃ i, b ∈ fp i) : withO G H fp b = G b := if_neg h
theorem SIx.envO (S : SIx Z B md ρ σ H G fp) : Same G (withO G H fp) ∧ Same (withO G H fp) H ∧ EnvD Z (withO G H fp) σ ρ := by
  have s1 : Same G (withO G H fp) := fun b o e => by
    by_cases h : ∃ i, b ∈ fp i
    · obtain ⟨i, hi⟩ := h
      rw [(S.nw i b hi).2.2] at e; cases e
    · rw [withO_out h]; exact e
  refine ⟨s1, fun b o e => ?_, S.len, fun i d h => ?_⟩
  · by_cases h : ∃ i, b ∈ fp i
    · unfold withO at e
      rw [if_pos h] at e
      split at e
      · next xs hx => rw [hx]; exact e
      · cases e
    · rw [withO_out h] at e; exact S.ex.sub _ _ e
  · obtain ⟨v, hv, o⟩ := S.at_ i d h
    exact ⟨v, hv, o.dvL s1 fun b hb xs hx => withO_in i hb hx⟩
theorem SIx.offO {G' H' : Hp} (S : SIx Z B md ρ σ H G fp) (x : Ext (withO G H fp) H G' H') : Ext G H (lessO G' fp) H' ∧ ∀ b xs, G' b = some (.tup xs) → lessO G' fp b = some (.tup xs) := by
  obtain ⟨s1, s2, _⟩ := S.envO
  refine ⟨⟨fun b o e => ?_, fun b o e => ?_, x.hh, fun b hb hg => ?_⟩, fun b xs e => ?_⟩
  · have h : ¬ ∃ i, b ∈ fp i := by
      rintro ⟨i, hi⟩
      rw [(S.nw i b hi).2.2] at e; cases e
    unfold lessO
    rw [if_neg h]
    exact x.gg _ _ (s1 _ _ e)
  · unfold lessO at e
    split at e
    · cases e
    · exact x.sub _ _ e
  · unfold lessO
    split
    · rfl
    · next h => exact x.off b hb (by rw [withO_out h]; exact hg)
  · have h : ¬ ∃ i, b ∈ fp i := by
      rintro ⟨i, hi⟩
      have hb := (S.nw i b hi).2.1
      cases hw : withO G H fp b with
      | none => rw [x.off b hb hw] at e; cases e
      | some o =>
        have := x.gg _ _ hw
        rw [e] at this
        cases this
        unfold withO at hw
        rw [if_pos ⟨i, hi⟩] at hw
        split at hw <;> cases hw
    unfold lessO
    rw [if_neg h]; exact e
/-- an expression at a state -/
theorem SIx.ev {t : DTE} {P : D → Prop} {Q : VK} (S : SIx Z B md ρ σ H G fp) (m : Bool) (h : t (vis md m ρ) P)
    (hq : ∀ d, P d → flatIf m d ∧ ∀ v G' H', SIx Z B md ρ σ H' G' fp → Ext G H G' H' → Dv Z G' v d → Q v H') : liftE Z t σ H Q := by
  cases m with
  | false => exact ⟨G, _, P, S.ex.sub, S.envP, h, fun d hd v G' H' x dv => (hq d hd).2 v G' H' (S.grow x) x dv⟩
  | true =>
    obtain ⟨s1, s2, e⟩ := S.envO
    refine ⟨withO G H fp, _, P, s2, e, h, fun d hd v G' H' x dv => ?_⟩
    obtain ⟨x', k⟩ := S.offO x
    exact (hq d hd).2 v _ H' (S.grow x') x' (dv.noL k (hq d hd).1)
theorem SIx.evT {t : DTT} {P : Bool → Prop} {Q : Bool → Hp → Prop} (S : SIx Z B md ρ σ H G fp) (h : t ρ P) (hq : ∀ b, P b → ∀ H', SIx Z B md ρ σ H' G fp → Q b H') : liftT Z t σ H Q :=
  ⟨H, ρ, P, .refl _, S.envA, h, fun b hb G' H' x => hq b hb H' (S.grow (Ext.all S.ex.sub x))⟩
/-- a name gets pure data -/
theorem SIx.setP {i : Nat} {v : V} {d : D} (S : SIx Z B md ρ σ H G fp) (hm : md.getD i 0 = 0) (dv : Dv Z G v d) : SIx Z B md (ρ.set i (some d)) (σ.set i (some v)) H G (fun j => if j = i then [] else fp j) where
  ex := S.ex
  fl := S.fl
  len := by rw [List.length_set, List.length_set]; exact S.len
  at_ := fun j c h => by
    by_cases z : i = j
    · subst z
      by_cases hi : i < ρ.length
      · rw [List.getElem?_set_self hi] at h
        cases h
        exact ⟨v, List.getElem?_set_self (by rw [← S.len]; exact hi), by rw [hm, if_pos rfl]; exact ⟨dv, rfl⟩⟩
      · rw [List.set_eq_of_length_le (Nat.le_of_not_lt hi), List.getElem?_eq_none (Nat.le_of_not_lt hi)] at h; cases h
    · rw [List.getElem?_set_ne z] at h ⊢
      rw [if_neg (Ne.symm z)]
      exact S.at_ j c h
  nd := fun j => by split; exact List.nodup_nil; exact S.nd j
  ap := fun j k b ne hj hk => by
    split at hj
    · cases hj
    · split at hk
      · cases hk
      · exact S.ap j k b ne hj hk
  nw := fun j b hb => by
    split at hb
    · cases hb
    · exact S.nw j b hb
/-- a name gets an owned list -/
theorem SIx.setO {i n : Nat} {v : V} {d : D} {f : List Addr} (S : SIx Z B md ρ σ H G fp) (hm : md.getD i 0 = n) (o : Own Z G H n v d f) (nd : f.Nodup) (nw : ∀ b ∈ f, B.H₀ b = none ∧ H b ≠ none ∧ G b = none) (ap : ∀ b ∈ f, ∀ j, j ≠ i → b ∉ fp j) :
    SIx Z B md (ρ.set i (some d)) (σ.set i (some v)) H G (fun j => if j = i then f else fp j) where
  ex := S.ex
  fl := S.fl
  len := by rw [List.length_set, List.length_set]; exact S.len
  at_ := fun j c h => by
    by_cases z : i = j
    · subst z
      by_cases hi : i < ρ.length
      · rw [List.getElem?_set_self hi] at h
        cases h
        exact ⟨v, List.getElem?_set_self (by rw [← S.len]; exact hi), by rw [hm, if_pos rfl]; exact o⟩
      · rw [List.set_eq_of_length_le (Nat.le_of_not_lt hi), List.getElem?_eq_none (Nat.le_of_not_lt hi)] at h; cases h
    · rw [List.getElem?_set_ne z] at h ⊢
      rw [if_neg (Ne.symm z)]
      exact S.at_ j c h
  nd := fun j => by split; exact nd; exact S.nd j
  ap := fun j k b ne hj hk => by
    split at hj
    · next z =>
      rw [if_neg (fun w => ne (z.trans w.symm))] at hk
      exact ap b hj k (fun w => ne (z.trans w.symm)) hk
    · next z =>
      split at hk
      · exact ap b hk j z hj
      · exact S.ap j k b ne hj hk
  nw := fun j b hb => by
    split at hb
    · exact nw b hb
    · exact S.nw j b hb
/-- owned cells become pure -/
noncomputable def plus (G H : Hp) (F : Addr → Prop) : Hp := fun b => open Classical in if F b then H b else G b
theorem plus_in {F : Addr → Prop} {b : Addr} (h : F b) : plus G H F b = H b := by unfold plus; rw [if_pos h]
theorem plus_out {F : Addr → Prop} {b : Addr} (h : ¬ F b) : plus G H F b = G b := by unfold plus; rw [if_neg h]
theorem plus_sub {F : Addr → Prop} (s : Same G H) : Same (plus G H F) H := fun b o e => by
  by_cases h : F b
  · rw [plus_in h] at e; exact e
  · rw [plus_out h] at e; exact s _ _ e
theorem plus_sup {F : Addr → Prop} (s : Same G H) : Same G (plus G H F) := fun b o e => by
  by_cases h : F b
  · rw [plus_in h]; exact s _ _ e
  · rw [plus_out h]; exact e
theorem SIx.evR {t : DTE} {P : D → Prop} {Q : VK} (S : SIx Z B md ρ σ H G fp) (h : t ρ P) (hq : ∀ d, P d → ∀ v G' H', Ext B.G₀ B.H₀ G' H' → Dv Z G' v d → Q v H') : liftE Z t σ H Q := by
  let F : Addr → Prop := fun b => ∃ i, b ∈ fp i
  have s := S.ex.sub
  have x0 : Ext B.G₀ B.H₀ (plus G H F) H := ⟨S.ex.gg.trans (plus_sup s), plus_sub s, S.ex.hh, fun b hb hg => by
    rw [plus_out (fun ⟨i, hi⟩ => hb (S.nw i b hi).1)]; exact S.ex.off b hb hg⟩
  refine ⟨plus G H F, ρ, P, plus_sub s, ⟨S.len, fun i d h => ?_⟩, h, fun d hd v G' H' x dv => hq d hd v G' H' (x0.trans x) dv⟩
  obtain ⟨v, hv, o⟩ := S.at_ i d h
  exact ⟨v, hv, o.dv (plus_sup s) fun b hb u e => by rw [plus_in ⟨i, hb⟩]; exact e⟩
end
/-! ### statements -/
structure DEnds where
  nx : DN → Prop
  rt : D → Prop
  bk : DN → Prop := fun _ => False
  ct : DN → Prop := fun _ => False
abbrev DTS := DEnds → DN → Prop
structure Meets (Z : DC) (B : Bs) (md : List Nat) (rn : Nat) (E : DEnds) (Dn : Ends) : Prop where
  nx : ∀ ρ, E.nx ρ → ∀ σ H, SI Z B md ρ σ H → Dn.nx σ H
  rt : ∀ d, E.rt d → ∀ v f G' H', Ext B.G₀ B.H₀ G' H' → Own Z G' H' rn v d f → f.Nodup → (∀ b ∈ f, B.H₀ b = none ∧ H' b ≠ none ∧ G' b = none) → Dn.rt v H'
  bk : ∀ ρ, E.bk ρ → ∀ σ H, SI Z B md ρ σ H → Dn.bk σ H
  ct : ∀ ρ, E.ct ρ → ∀ σ H, SI Z B md ρ σ H → Dn.ct σ H
def liftS (Z : DC) (md : List Nat) (rn : Nat) (t : DTS) : TS := fun Dn σ H => ∃ (B : Bs) (ρ : DN) (E : DEnds), SI Z B md ρ σ H ∧ t E ρ ∧ Meets Z B md rn E Dn
def DSt (Z : DC) (X : Cx) (md : List Nat) (rn : Nat) (st : Stmt) (t : DTS) : Prop := PS X st (liftS Z md rn t)
def DSs (Z : DC) (X : Cx) (md : List Nat) (rn : Nat) (sts : List Stmt) (t : DTS) : Prop := PSs X sts (liftS Z md rn t)
theorem PS.imp {X : Cx} {st : Stmt} {t t' : TS} (h : PS X st t) (f : ∀ D σ H, t' D σ H → t D σ H) : PS X st t' := fun pins s σ H D I q => h pins s σ H D I (f _ _ _ q)
theorem PSs.imp {X : Cx} {st : List Stmt} {t t' : TS} (h : PSs X st t) (f : ∀ D σ H, t' D σ H → t D σ H) : PSs X st t' := fun pins s σ H D I q => h pins s σ H D I (f _ _ _ q)
section
variable {Z : DC} {X : Cx} {md : List Nat} {rn : Nat} {st : Stmt} {sts : List Stmt} {t u : DTS} {e : Expr} {te : DTE} {pos : Pos}
def dNext : DTS := fun E ρ => E.nx ρ
def dSeq (t u : DTS) : DTS := fun E ρ => t { E with nx := u E } ρ
theorem dss_nil : DSs Z X md rn [] dNext := pss_nil.imp fun D σ H ⟨B, ρ, E, S, h, M⟩ => M.nx _ h _ _ S
theorem dss_cons (h1 : DSt Z X md rn st t) (h2 : DSs Z X md rn sts u) : DSs Z X md rn (st :: sts) (dSeq t u) :=
  (pss_cons h1 h2).imp fun D σ H ⟨B, ρ, E, S, h, M⟩ => ⟨B, ρ, _, S, h, ⟨fun ρ' h' σ' H' S' => ⟨B, ρ', E, S', h', M⟩, M.rt, M.bk, M.ct⟩⟩
theorem dss_one (h1 : DSt Z X md rn st t) : DSs Z X md rn [st] t := pss_one h1
theorem ds_never : DSt Z X md rn st (fun _ _ => False) := ps_never.imp fun D σ H ⟨B, ρ, E, S, h, M⟩ => h
def dRet (te : DTE) : DTS := fun E ρ => te ρ E.rt
theorem ds_ret (he : DE Z X e te) : DSt Z X md 0 (.Return (some e) pos) (dRet te) := (ps_ret he).imp fun D σ H ⟨B, ρ, E, ⟨G, fp, S⟩, h, M⟩ => S.evR h fun d hd v G' H' x dv => M.rt d hd v [] G' H' x ⟨dv, rfl⟩ List.nodup_nil (fun b hb => by cases hb)
def dIfS (c : DTT) (t u : DTS) : DTS := fun E ρ => c ρ fun b => if b = true then t E ρ else u E ρ
theorem ds_if {c : Expr} {a b : List Stmt} {tc : DTT} (hc : DT Z X c tc) (ha : DSs Z X md rn a t) (hb : DSs Z X md rn b u) : DSt Z X md rn (.If c a b pos) (dIfS tc t u) := by
  refine (ps_if hc ha hb).imp ?_
  rintro D σ H ⟨B, ρ, E, ⟨G, fp, S⟩, h, M⟩
  refine S.evT h fun b hb H' S' => ?_
  cases b with
  | true => exact iteT ⟨B, ρ, E, ⟨G, fp, S'⟩, (by simpa using hb), M⟩
  | false => exact iteF ⟨B, ρ, E, ⟨G, fp, S'⟩, (by simpa using hb), M⟩
/-- x = e -/
def dSet (md : List Nat) (m : Bool) (i : Nat) (te : DTE) : DTS := fun E ρ => te (vis md m ρ) fun d => flatIf m d ∧ E.nx (ρ.set i (some d))
theorem ds_set (m : Bool) (i : Nat) {x : Str} {pos' : Pos} (hN : X.N.Nodup) (he : DE Z X e te) (hm : md.getD i 0 = 0 := by rfl) (hi : X.N[i]? = some x := by rfl) (hx : Loc X.env.scope x := by first | exact Or.inl rfl | exact Or.inr rfl) (hs : swapsWith e (some (.Name x pos')) pos.line X.env = pure false := by rfl)
    (hf : X.fn x = true ∨ X.env.scope.names.lookup x = some .local := by first | exact .inl rfl | exact .inr rfl | assumption) : DSt Z X md rn (.Assign [.Name x pos'] e pos) (dSet md m i te) := by
  refine (ps_set hN hi hx he hs hf).imp ?_
  rintro D σ H ⟨B, ρ, E, ⟨G, fp, S⟩, h, M⟩
  exact S.ev m h fun d hd => ⟨hd.1, fun v G' H' S' x dv => M.nx _ hd.2 _ _ ⟨G', _, S'.setP hm dv⟩⟩
/-- x = [comprehension] -/
theorem ds_setlc (i : Nat) {x : Str} {px spos : Pos} {tg iter elt : Expr} {ifs : List Expr} {scope : Scope} {NC : List Str} {src : List (Option Nat)} {wi : DTI} {g : DTG} {tt : DTT} (hc : X.calm = true) (hN : X.N.Nodup) (c : CompOk X scope) (hsrc : SrcOk scope X.N src NC) (hi : DI Z X tg iter wi)
    (hg : ∀ ex s H, DG Z (cxC X scope NC ex s H) tg g) (ht : ∀ ex s H, DTs Z (cxC X scope NC ex s H) ifs tt) (he : ∀ ex s H, DE Z (cxC X scope NC ex s H) elt te)
    (hsw : swapsWith (.ListComp elt [⟨tg, iter, ifs, 0⟩] scope pos) (some (.Name x px)) spos.line X.env = pure true := by rfl) (hm : md.getD i 0 = 0 := by rfl) (hi' : X.N[i]? = some x := by rfl) (hx : Loc X.env.scope x := by first | exact Or.inl rfl | exact Or.inr rfl)
    (hf : X.fn x = true ∨ X.env.scope.names.lookup x = some .local := by first | exact .inl rfl | exact .inr rfl | assumption)
    (hs : ∀ x, foldedSetIterable iter X.env x = pure x := by intro _; rfl) : DSt Z X md rn (.Assign [.Name x px] (.ListComp elt [⟨tg, iter, ifs, 0⟩] scope pos) spos) (dSet md false i (dLC wi g tt te src)) := by
  refine (ps_setlc hc hN hi' hx c hsrc hi hg ht he hsw hf hs).imp ?_
  rintro D σ H ⟨B, ρ, E, ⟨G, fp, S⟩, h, M⟩
  refine liftLC σ H _ (S.ev false h fun d hd => ⟨hd.1, fun v G' H' S' x dv => M.nx _ hd.2 _ _ ⟨G', _, S'.setP hm dv⟩⟩)
end
end L2

set_option Elab.async false
set_option linter.all false
set_option maxRecDepth 100000
set_option maxHeartbeats 4000000
namespace L2
open PySem PySem.Spec PyProof.Rows
section
variable {Z : DC} {X : Cx} {B : Bs} {md : List Nat} {rn : Nat} {ρ : DN} {σ : St} {H G : Hp} {fp : Nat → List Addr}
/-! ### targets at a state -/
def liftGS (Z : DC) (md : List Nat) (g : DTG) : TG := fun v σ H Q => ∃ (B : Bs) (ρ : DN) (d : D) (P : DN → Prop) (G : Hp) (fp : Nat → List Addr), SIx Z B md ρ σ H G fp ∧ Dv Z G v d ∧ g d ρ P ∧ ∀ ρ', P ρ' → ∀ σ' fp', SIx Z B md ρ' σ' H G fp' → Q σ' H
def liftGSs (Z : DC) (md : List Nat) (g : DTGs) : TGs := fun vs σ H Q => ∃ (B : Bs) (ρ : DN) (ds : List D) (P : DN → Prop) (G : Hp) (fp : Nat → List Addr), SIx Z B md ρ σ H G fp ∧ DvAll Z G vs ds ∧ g ds ρ P ∧ ∀ ρ', P ρ' → ∀ σ' fp', SIx Z B md ρ' σ' H G fp' → Q σ' H
def DGS (Z : DC) (X : Cx) (md : List Nat) (e : Expr) (g : DTG) : Prop := PG X e (liftGS Z md g)
def DGSs (Z : DC) (X : Cx) (md : List Nat) (es : List Expr) (g : DTGs) : Prop := PGs X es (liftGSs Z md g)
theorem dt_name (i : Nat) {x : Str} {pos : Pos} (hN : X.N.Nodup) (hm : md.getD i 0 = 0 := by rfl) (hi : X.N[i]? = some x := by rfl) (hx : Loc X.env.scope x := by first | exact Or.inl rfl | exact Or.inr rfl) (hf : X.fn x = true ∨ X.env.scope.names.lookup x = some .local := by first | exact .inl rfl | exact .inr rfl | assumption) : DGS Z X md (.Name x pos) (dgName i) :=
  (pg_name hN hi hx hf).imp fun v σ H Q ⟨B, ρ, d, P, G, fp, S, dv, h, q⟩ => q _ h _ _ (S.setP hm dv)
theorem dts_nil' : DGSs Z X md [] dgNil := pgs_nil.imp fun v σ H Q ⟨B, ρ, ds, P, G, fp, S, dv, ⟨h, p⟩, q⟩ => by
  subst h
  cases dv
  exact ⟨rfl, q _ p _ _ S⟩
theorem dts_cons {e : Expr} {es : List Expr} {g : DTG} {gs : DTGs} (h1 : DGS Z X md e g) (h2 : DGSs Z X md es gs) (hs : (assignEach (e :: es) X.env).map (·.2) = assign e X.env :: (assignEach es X.env).map (·.2) := by rfl) : DGSs Z X md (e :: es) (dgCons g gs) := by
  refine (pgs_cons h1 h2 hs).imp ?_
  rintro v σ H Q ⟨B, ρ, ds, P, G, fp, S, dv, h, q⟩
  cases dv with
  | nil => exact h.elim
  | cons a as => exact ⟨_, _, rfl, B, ρ, _, _, G, fp, S, a, h, fun ρ' hp σ' fp' S' => ⟨B, ρ', _, P, G, fp', S', as, hp, q⟩⟩
theorem dt_tup (n : Nat) {es : List Expr} {k : Nat} {pos : Pos} {gs : DTGs} (hc : X.calm = true) (h : DGSs Z X md es gs) (hn : (assignEach es X.env).length = n := by rfl) (hst : (assignEach es X.env).findIdx? (·.1) = none := by rfl) : DGS Z X md (.Tuple es k pos) (dgTup n gs) := by
  refine (pg_tup hc h hn hst).imp ?_
  rintro v σ H Q ⟨B, ρ, d, P, G, fp, S, dv, h, q⟩
  cases dv <;> first | exact h.elim | skip
  rename_i a xs ds ha es
  exact ⟨a, xs, rfl, SqT.of (S.ex.sub _ _ ha), by rw [es.length]; exact h.1, B, ρ, _, P, G, fp, S, es, h.2, q⟩
/-- a, b = e (pure) -/
def dAsg (md : List Nat) (te : DTE) (g : DTG) : DTS := fun E ρ => te (pureN md ρ) fun d => g d ρ E.nx
theorem ds_asg {tg e : Expr} {te : DTE} {g : DTG} {pos : Pos} (he : DE Z X e te) (hg : DGS Z X md tg g) (hs : swapsWithSole [tg] e pos.line X.env = pure false := by rfl) (hw : swappedStores [tg] e X.env = pure none := by rfl)
    (h1 : (assignEach [tg] X.env).map (·.2) = [assign tg X.env] := by rfl) : DSt Z X md rn (.Assign [tg] e pos) (dAsg md te g) := by
  refine (ps_asg he hg hs hw h1).imp ?_
  rintro D σ H ⟨B, ρ, E, ⟨G, fp, S⟩, h, M⟩
  exact S.ev false h fun d hd => ⟨trivial, fun v G' H' S' x dv => ⟨B, ρ, d, E.nx, G', fp, S', dv, hd, fun ρ' h' σ' fp' S2 => M.nx _ h' _ _ ⟨G', fp', S2⟩⟩⟩
/-! ### for -/
def forW (g : DTG) (tb : DTS) (E : DEnds) : List D → DN → Prop
  | [], ρ => E.nx ρ
  | x :: xs, ρ => g x ρ fun ρ1 => tb { nx := forW g tb E xs, ct := forW g tb E xs, bk := E.nx, rt := E.rt } ρ1
def dFor (md : List Nat) (m : Bool) (wi : DTI) (g : DTG) (tb : DTS) : DTS := fun E ρ => wi (vis md m ρ) fun ds => forW g tb E ds ρ
theorem for_lift {D' : Ends} {J : It} {ds : List D} {g : DTG} {tb : DTS} {E : DEnds} (S : SIx Z B md ρ σ H G fp) (it : ItOk Z G J ds) (hd : forW g tb E ds ρ) (M : Meets Z B md rn E D') :
    ∃ W : Nat → Nat → St → Hp → Prop, (∃ m, W 0 m σ H) ∧ ∀ i m σ H, W i m σ H →
      (J.stop i H ∧ D'.nx σ H) ∨ (J.go i H ∧ ∃ N : St → Hp → Prop, (∀ σ' H', N σ' H' → ∃ m', m' < m ∧ W (i + 1) m' σ' H') ∧ ∀ x H', J.yld i H x H' → liftGS Z md g x σ H' fun σ2 H2 => liftS Z md rn tb { D' with nx := N, ct := N, bk := D'.nx } σ2 H2) := by
  let B1 : Bs := { B with Gf := G }
  have back : ∀ ρ σ H, SI Z B1 md ρ σ H → SI Z B md ρ σ H := fun ρ σ H ⟨G2, fp2, S2⟩ => ⟨G2, fp2, ⟨S2.ex, S.fl.trans S2.fl, S2.len, S2.at_, S2.nd, S2.ap, S2.nw⟩⟩
  have S1 : SIx Z B1 md ρ σ H G fp := ⟨S.ex, .refl _, S.len, S.at_, S.nd, S.ap, S.nw⟩
  refine ⟨fun i m σ H => m = ds.length - i ∧ i ≤ ds.length ∧ ∃ ρ, SI Z B1 md ρ σ H ∧ forW g tb E (ds.drop i) ρ, ⟨_, rfl, Nat.zero_le _, ρ, ⟨G, fp, S1⟩, hd⟩, ?_⟩
  rintro i m σ2 H2 ⟨rfl, hi, ρ2, ⟨G2, fp2, S2⟩, hf⟩
  obtain ⟨go, stop, yld⟩ := it G2 H2 S2.fl S2.ex.sub i
  by_cases hlt : i < ds.length
  · refine .inr ⟨go hlt, fun σ' H' => ∃ ρ', SI Z B1 md ρ' σ' H' ∧ forW g tb E (ds.drop (i + 1)) ρ', fun σ' H' n => ⟨ds.length - (i + 1), by omega, rfl, hlt, n⟩, fun x H' y => ?_⟩
    obtain ⟨G3, d, x3, hdd, dv⟩ := yld x H' hlt y
    rw [drop_at hdd] at hf
    refine ⟨B1, ρ2, d, _, G3, fp2, S2.grow x3, dv, hf, fun ρ4 h4 σ4 fp4 S4 => ?_⟩
    exact ⟨B1, ρ4, _, ⟨G3, fp4, S4⟩, h4, ⟨fun ρ' h' σ' H' s' => ⟨ρ', s', h'⟩, M.rt, fun ρ' h' σ' H' s' => M.nx _ h' _ _ (back _ _ _ s'), fun ρ' h' σ' H' s' => ⟨ρ', s', h'⟩⟩⟩
  · have e : ds.drop i = [] := List.drop_eq_nil_of_le (by omega)
    rw [e] at hf
    exact .inl ⟨stop (by omega), M.nx _ hf _ _ (back _ _ _ ⟨G2, fp2, S2⟩)⟩
variable {tg iter : Expr} {body : List Stmt} {wi : DTI} {g : DTG} {tb : DTS} {pos : Pos}
theorem ds_for (hc : X.calm = true) (hp : PassesOwn (model X.prog X.w) X.A X.env X.xe) (hi : DI Z X tg iter wi) (hg : DGS Z X md tg g) (hb : DSs Z X md rn body tb)
    (hs : ∀ x, foldedSetIterable iter X.env x = pure x := by intro _; rfl) : DSt Z X md rn (.For tg iter body [] pos) (dFor md false wi g tb) := by
  refine (ps_for hp hc hi hg hb hs).imp ?_
  rintro D σ H ⟨B, ρ, E, ⟨G, fp, S⟩, h, M⟩
  exact ⟨G, _, _, S.ex.sub, S.envP, h, fun ds hd J G1 H1 x1 it => for_lift (S.grow x1) it hd M⟩
/-- what is walked leans on no heap -/
def liftIr (Z : DC) (wi : DTI) : TI := fun σ H R => ∃ (G : Hp) (ρ : DN) (P : List D → Prop), Same G H ∧ EnvD Z G σ ρ ∧ wi ρ P ∧ ∀ ds, P ds → ∀ J G' H', Ext G H G' H' → (∀ G2, ItOk Z G2 J ds) → R J H'
def DIr (Z : DC) (X : Cx) (tg e : Expr) (wi : DTI) : Prop := PI X tg e (liftIr Z wi)
theorem ds_forR (hc : X.calm = true) (hp : PassesOwn (model X.prog X.w) X.A X.env X.xe) (hi : DIr Z X tg iter wi) (hg : DGS Z X md tg g) (hb : DSs Z X md rn body tb)
    (hs : ∀ x, foldedSetIterable iter X.env x = pure x := by intro _; rfl) : DSt Z X md rn (.For tg iter body [] pos) (dFor md true wi g tb) := by
  refine (ps_for hp hc hi hg hb hs).imp ?_
  rintro D σ H ⟨B, ρ, E, ⟨G, fp, S⟩, h, M⟩
  exact ⟨H, ρ, _, .refl _, S.envA, h, fun ds hd J G1 H1 x1 it => for_lift (S.grow (Ext.all S.ex.sub x1)) (it _) hd M⟩
variable {a b e : Expr} {ta te : DTE} {t : DTA}
theorem dr_range1 {p : Pos} (hg : Gl X "range") (hm : X.mg "range" = none) (ha : DA Z X [a] t) (hs : starEach [a] X.env = [(false, eval a X.env)] := by rfl) : DIr Z X tg (.Call (.Name "range" p) [a] [] pos) (diR1 t) := by
  refine (pi_range1 hg hm ha hs).imp ?_
  rintro σ H Q ⟨G, ρ, P, s, en, h, q⟩
  refine ⟨G, ρ, _, s, en, h, fun ds hd vs G1 H1 x1 dv => ?_⟩
  split at hd
  · obtain ⟨_, rfl, a⟩ := dv.ofOne
    exact ⟨_, by rw [a.ofInt], hd.1.1, hd.1.2, q _ hd.2 _ G1 H1 x1 fun _ => it_range 0 _⟩
  · exact hd.elim
theorem dr_range2 {p : Pos} (hg : Gl X "range") (hm : X.mg "range" = none) (ha : DA Z X [a, b] t) (hs : starEach [a, b] X.env = [(false, eval a X.env), (false, eval b X.env)] := by rfl) (hs2 : starEach [b] X.env = [(false, eval b X.env)] := by rfl) : DIr Z X tg (.Call (.Name "range" p) [a, b] [] pos) (diR2 t) := by
  refine (pi_range2 hg hm ha hs hs2).imp ?_
  rintro σ H Q ⟨G, ρ, P, s, en, h, q⟩
  refine ⟨G, ρ, _, s, en, h, fun ds hd vs G1 H1 x1 dv => ?_⟩
  split at hd
  · obtain ⟨u1, u2, rfl, da, db⟩ := dv.ofTwo
    exact ⟨_, _, by rw [da.ofInt, db.ofInt], hd.1, q _ hd.2 _ G1 H1 x1 fun _ => it_range _ _⟩
  · exact hd.elim
/-! ### while -/
def dWhile (c : DTT) (tb : DTS) : DTS := fun E ρ => ∃ W : Nat → DN → Prop, (∃ m, W m ρ) ∧ ∀ m ρ, W m ρ → c ρ fun b => if b = true then tb { nx := fun ρ' => ∃ m', m' < m ∧ W m' ρ', ct := fun ρ' => ∃ m', m' < m ∧ W m' ρ', bk := E.nx, rt := E.rt } ρ else E.nx ρ
theorem ds_while {c : Expr} {tc : DTT} (hp : PassesOwn (model X.prog X.w) X.A X.env X.xe) (hc : DT Z X c tc) (hb : DSs Z X md rn body tb) : DSt Z X md rn (.While c body [] pos) (dWhile tc tb) := by
  refine (ps_while hp hc hb).imp ?_
  rintro D σ H ⟨B, ρ, E, S, ⟨W, ⟨m0, w0⟩, turn⟩, M⟩
  refine ⟨fun m σ H => ∃ ρ, SI Z B md ρ σ H ∧ W m ρ, ⟨m0, ρ, S, w0⟩, ?_⟩
  rintro m σ2 H2 ⟨ρ2, ⟨G2, fp2, S2⟩, w2⟩
  refine S2.evT (turn m ρ2 w2) fun b hb H' S' => ?_
  cases b with
  | false => exact iteF (M.nx _ (by simpa using hb) _ _ ⟨G2, fp2, S'⟩)
  | true =>
    refine iteT ⟨fun σ' H' => ∃ ρ' m', m' < m ∧ SI Z B md ρ' σ' H' ∧ W m' ρ', fun σ' H' ⟨ρ', m', h1, h2, h3⟩ => ⟨m', h1, ρ', h2, h3⟩, B, ρ2, _, ⟨G2, fp2, S'⟩, (by simpa using hb), ?_⟩
    exact ⟨fun ρ' ⟨m', h1, h2⟩ σ' H' s' => ⟨ρ', m', h1, s', h2⟩, M.rt, M.nx, fun ρ' ⟨m', h1, h2⟩ σ' H' s' => ⟨ρ', m', h1, s', h2⟩⟩
/-! ### new lists that are owned -/
abbrev DTF := DN → (List D → Prop) → Prop
def liftF (Z : DC) (n : Nat) (t : DTF) : TE := fun σ H Q => ∃ (G : Hp) (ρ : DN) (P : List D → Prop), Same G H ∧ EnvD Z G σ ρ ∧ t ρ P ∧ ∀ ds, P ds → ∀ v f G' H', Ext G H G' H' → Own Z G' H' n v (.lst ds) f → f.Nodup → (∀ b ∈ f, H b = none ∧ H' b ≠ none ∧ G' b = none) → Q v H'
def DF (Z : DC) (X : Cx) (n : Nat) (e : Expr) (t : DTF) : Prop := PE X e (liftF Z n t)
theorem Ext.side {p : Addr} {o : HO} {G1 H1 : Hp} (x : Ext G H G1 H1) (hp : H1 p = none) : Ext G H G1 (upd H1 p o) :=
  ⟨x.gg, fun b u e => by rw [upd_ne (ne_of_none e (x.sub.free hp))]; exact x.sub _ _ e, x.hh.trans (same_new hp _), x.off⟩
theorem own_new {p : Addr} {xs : List V} {ds : List D} {G1 H1 : Hp} (x : Ext G H G1 H1) (hp : H1 p = none) (dv : DvAll Z G1 xs ds) :
    Own Z G1 (upd H1 p (.lst xs)) 1 (.ref p) (.lst ds) [p] ∧ ([p] : List Addr).Nodup ∧ ∀ b ∈ ([p] : List Addr), H b = none ∧ (upd H1 p (.lst xs)) b ≠ none ∧ G1 b = none := by
  refine ⟨.inl ⟨p, xs, ds, [], rfl, rfl, upd_same, rfl, dv.own⟩, by simp, fun b hb => ?_⟩
  have : b = p := by simpa using hb
  subst this
  exact ⟨x.hh.free hp, (by rw [upd_same]; exact fun z => nomatch z), x.sub.free hp⟩
def fLst (t : DTA) : DTF := fun ρ P => t ρ fun ds => ds.length ≤ sizeLine ∧ P ds
theorem df_lst {es : List Expr} (h : DA Z X es t) : DF Z X 1 (.List es pos) (fLst t) := by
  refine (pe_lst h).imp ?_
  rintro σ H Q ⟨G, ρ, P, s, e, h, q⟩
  refine ⟨G, ρ, _, s, e, h, ?_⟩
  rintro ds ⟨hl, hp⟩ vs G1 H1 x1 dvs
  refine ⟨by rw [dvs.length]; exact hl, fun p hp' => ?_⟩
  obtain ⟨o1, o2, o3⟩ := own_new x1 hp' dvs
  exact q _ hp _ _ _ _ (x1.side hp') o1 o2 o3
/-- a comprehension -/
def fLC (wi : DTI) (g : DTG) (tt : DTT) (te : DTE) (src : List (Option Nat)) : DTF := fun ρ P => wi ρ fun ds => lcW g tt te ds (srcD src ρ) [] fun _ out => P out
theorem liftFLC {src : List (Option Nat)} {tt : DTT} : ∀ σ H Q, liftF Z 1 (fLC wi g tt te src) σ H Q → tLC (liftI Z wi) (liftG Z g) (liftT Z tt) (liftE Z te) src σ H Q := by
  rintro σ H Q ⟨G, ρ, P, s, en, h, q⟩
  refine ⟨G, ρ, _, s, en, h, fun ds hd J G1 H1 x1 it Ad hA => ?_⟩
  refine ⟨fun i m σ2 H2 => m = ds.length - i ∧ i ≤ ds.length ∧ ∃ ρ2 acc, CS Z G1 H1 Ad ρ2 acc σ2 H2 ∧ lcW g tt te (ds.drop i) ρ2 acc fun _ out => P out, ⟨_, rfl, Nat.zero_le _, _, [], .begin x1.sub hA ((en.mono x1.gg).src src), hd⟩, ?_⟩
  rintro i m σ2 H2 ⟨rfl, hi, ρ2, acc, c, hl⟩
  by_cases hlt : i < ds.length
  · obtain ⟨go, turn⟩ := lc_turns hA G1 it i ρ2 acc σ2 H2 c (fun _ s => s) hlt hl
    exact .inr ⟨go, _, fun σ' H' n => ⟨ds.length - (i + 1), by omega, rfl, hlt, n⟩, turn⟩
  · have e : ds.drop i = [] := List.drop_eq_nil_of_le (by omega)
    rw [e] at hl
    obtain ⟨G2, ys, s1, s2, s3, off, gA, hAd, dvs, en⟩ := c
    refine .inl ⟨(it G2 H2 s1 s2 i).2.1 (by omega), q _ hl (.ref Ad) [Ad] G2 H2 ⟨x1.gg.trans s1, s2, x1.hh.trans s3, fun b hb hg => off b (some_ne x1.hh hb) (x1.off b hb hg)⟩ (.inl ⟨Ad, ys, acc, [], rfl, rfl, hAd, rfl, dvs.own⟩) (by simp) fun b hb => ?_⟩
    have : b = Ad := by simpa using hb
    subst this
    exact ⟨x1.hh.free hA, (by rw [hAd]; exact fun z => nomatch z), gA⟩
variable {elt : Expr} {ifs : List Expr} {scope : Scope} {NC : List Str} {src : List (Option Nat)} {tt : DTT}
def dNew (md : List Nat) (i : Nat) (t : DTF) : DTS := fun E ρ => t (pureN md ρ) fun ds => E.nx (ρ.set i (some (.lst ds)))
theorem new_lift {n i : Nat} {t : DTF} {D' : Ends} {E : DEnds} (hm : md.getD i 0 = n) (S : SIx Z B md ρ σ H G fp) (h : t (pureN md ρ) fun ds => E.nx (ρ.set i (some (.lst ds)))) (M : Meets Z B md rn E D') : liftF Z n t σ H fun v H' => D'.nx (σ.set i (some v)) H' := by
  refine ⟨G, _, _, S.ex.sub, S.envP, h, fun ds hd v f G' H' x o nd nw => ?_⟩
  refine M.nx _ hd _ _ ⟨G', _, (S.grow x).setO hm o nd (fun b hb => ⟨S.ex.hh.free (nw b hb).1, (nw b hb).2⟩) fun b hb j _ hj => (S.nw j b hj).2.1 (nw b hb).1⟩
theorem ds_new (i : Nat) {n : Nat} {x : Str} {pos' : Pos} {t : DTF} (hN : X.N.Nodup) (he : DF Z X n e t) (hm : md.getD i 0 = n := by rfl) (hi : X.N[i]? = some x := by rfl) (hx : Loc X.env.scope x := by first | exact Or.inl rfl | exact Or.inr rfl) (hs : swapsWith e (some (.Name x pos')) pos.line X.env = pure false := by rfl)
    (hf : X.fn x = true ∨ X.env.scope.names.lookup x = some .local := by first | exact .inl rfl | exact .inr rfl | assumption) : DSt Z X md rn (.Assign [.Name x pos'] e pos) (dNew md i t) := by
  refine (ps_set hN hi hx he hs hf).imp ?_
  rintro D σ H ⟨B, ρ, E, ⟨G, fp, S⟩, h, M⟩
  exact new_lift hm S h M
theorem ds_newlc (i : Nat) {x : Str} {px spos : Pos} (hc : X.calm = true) (hN : X.N.Nodup) (c : CompOk X scope) (hsrc : SrcOk scope X.N src NC) (hi : DI Z X tg iter wi)
    (hg : ∀ ex s H, DG Z (cxC X scope NC ex s H) tg g) (ht : ∀ ex s H, DTs Z (cxC X scope NC ex s H) ifs tt) (he : ∀ ex s H, DE Z (cxC X scope NC ex s H) elt te)
    (hsw : swapsWith (.ListComp elt [⟨tg, iter, ifs, 0⟩] scope pos) (some (.Name x px)) spos.line X.env = pure true := by rfl) (hm : md.getD i 0 = 1 := by rfl) (hi' : X.N[i]? = some x := by rfl) (hx : Loc X.env.scope x := by first | exact Or.inl rfl | exact Or.inr rfl)
    (hf : X.fn x = true ∨ X.env.scope.names.lookup x = some .local := by first | exact .inl rfl | exact .inr rfl | assumption)
    (hs : ∀ x, foldedSetIterable iter X.env x = pure x := by intro _; rfl) : DSt Z X md rn (.Assign [.Name x px] (.ListComp elt [⟨tg, iter, ifs, 0⟩] scope pos) spos) (dNew md i (fLC wi g tt te src)) := by
  refine (ps_setlc hc hN hi' hx c hsrc hi hg ht he hsw hf hs).imp ?_
  rintro D σ H ⟨B, ρ, E, ⟨G, fp, S⟩, h, M⟩
  exact liftFLC σ H _ (new_lift hm S h M)
end
end L2

set_option Elab.async false
set_option linter.all false
set_option maxRecDepth 100000
set_option maxHeartbeats 4000000
namespace L2
open PySem PySem.Spec PyProof.Rows
section
variable {Z : DC} {X : Cx} {B : Bs} {md : List Nat} {rn : Nat} {ρ : DN} {σ : St} {H G : Hp} {fp : Nat → List Addr} {a e k o : Expr} {ta te tk tp : DTE} {pos apos cpos p2 : Pos}
/-- an owned cell is written -/
theorem SIx.mut {i : Nat} {v : V} {d' : D} {b : Addr} {c : HO} (S : SIx Z B md ρ σ H G fp) (hi : σ[i]? = some (some v)) (hb : b ∈ fp i) (o : Own Z G (upd H b c) (md.getD i 0) v d' (fp i)) : SIx Z B md (ρ.set i (some d')) σ (upd H b c) G fp where
  ex := by
    obtain ⟨h1, h2, h3⟩ := S.nw i b hb
    exact ⟨S.ex.gg, fun x u e => by rw [upd_ne (ne_of_none e h3)]; exact S.ex.sub _ _ e, fun x u e => by rw [upd_ne (ne_of_none e h1)]; exact S.ex.hh _ _ e, S.ex.off⟩
  fl := S.fl
  len := by rw [List.length_set]; exact S.len
  at_ := fun j w h => by
    by_cases z : i = j
    · subst z
      by_cases hl : i < ρ.length
      · rw [List.getElem?_set_self hl] at h
        cases h
        exact ⟨v, hi, o⟩
      · rw [List.set_eq_of_length_le (Nat.le_of_not_lt hl), List.getElem?_eq_none (Nat.le_of_not_lt hl)] at h; cases h
    · rw [List.getElem?_set_ne z] at h
      obtain ⟨u, hu, ow⟩ := S.at_ j w h
      exact ⟨u, hu, ow.keep (.refl _) fun x hx => upd_ne fun q => S.ap i j b z hb (by rw [← q]; exact hx)⟩
  nd := S.nd
  ap := S.ap
  nw := fun j x hx => by
    obtain ⟨h1, h2, h3⟩ := S.nw j x hx
    refine ⟨h1, ?_, h3⟩
    by_cases z : x = b
    · rw [z, upd_same]; exact fun q => nomatch q
    · rw [upd_ne z]; exact h2
/-- the cell of an owned list of depth one -/
theorem SIx.one {i : Nat} {d : D} (S : SIx Z B md ρ σ H G fp) (hm : md.getD i 0 = 1) (h : ρ[i]? = some (some d)) : ∃ l xs ds, d = .lst ds ∧ σ[i]? = some (some (.ref l)) ∧ H l = some (.lst xs) ∧ DvAll Z G xs ds ∧
    ∀ xs' ds', DvAll Z G xs' ds' → SIx Z B md (ρ.set i (some (.lst ds'))) σ (upd H l (.lst xs')) G fp := by
  obtain ⟨v, hv, o⟩ := S.at_ i d h
  rw [hm] at o
  obtain ⟨l, xs, ds, fps, rfl, rfl, hl, hf, ol⟩ := o.one
  obtain ⟨dv, rfl⟩ := ol.flat
  refine ⟨l, xs, ds, rfl, hv, hl, dv, fun xs' ds' dv' => S.mut hv (by rw [hf]; simp) ?_⟩
  rw [hm, hf]
  exact .inl ⟨l, xs', ds', [], rfl, rfl, upd_same, rfl, dv'.own⟩
theorem OwnL.at1 : ∀ {ys : List V} {dss : List D} {fps : List Addr} (p : Nat) {dp : D}, OwnL (Own Z G H 1) ys dss fps → fps.Nodup → dss[p]? = some dp → ∃ l xs ds, dp = .lst ds ∧ ys[p]? = some (.ref l) ∧ H l = some (.lst xs) ∧ DvAll Z G xs ds ∧ l ∈ fps ∧
    ∀ xs' ds', DvAll Z G xs' ds' → OwnL (Own Z G (upd H l (.lst xs')) 1) ys (dss.set p (.lst ds')) fps
  | _, _, _, _, _, .nil, _, h => by simp at h
  | _, _, _, 0, dp, .cons (f := f) (fs := fs) a as, nd, h => by
    simp at h; subst h
    obtain ⟨l, xs, ds, fps, rfl, rfl, hl, hf, ol⟩ := a.one
    obtain ⟨dv, rfl⟩ := ol.flat
    subst hf
    refine ⟨l, xs, ds, rfl, rfl, hl, dv, by simp, fun xs' ds' dv' => .cons (.inl ⟨l, xs', ds', [], rfl, rfl, upd_same, rfl, dv'.own⟩) (as.imp fun v d f hf r => r.keep (.refl _) fun b hb => upd_ne fun z => ?_)⟩
    have := (List.nodup_cons.mp nd).1
    exact this (by subst z; exact hf _ hb)
  | _, _, _, p + 1, dp, .cons (f := f) (fs := fs) a as, nd, h => by
    obtain ⟨nd1, nd2, nd3⟩ := List.nodup_append.mp nd
    obtain ⟨l, xs, ds, e1, e2, e3, e4, e5, e6⟩ := OwnL.at1 p (dp := dp) as nd2 (by simpa using h)
    refine ⟨l, xs, ds, e1, by simpa using e2, e3, e4, List.mem_append_right _ e5, fun xs' ds' dv' => ?_⟩
    refine .cons (a.keep (.refl _) fun b hb => upd_ne fun z => ?_) (e6 xs' ds' dv')
    exact nd3 b hb l e5 z
theorem ty_list {K : PySem.W.Frag} {l : Addr} {xs : List V} (h : H l = some (.lst xs)) : tyV K "list" (.ref l) H := .inl ⟨rfl, _, SqL.of h⟩
/-! ### x.append(e) -/
def dApp (md : List Nat) (m : Bool) (i : Nat) (te : DTE) : DTS := fun E ρ => ∃ ds, ρ[i]? = some (some (.lst ds)) ∧ te (vis md m ρ) fun d => flatIf m d ∧ ds.length < sizeLine ∧ E.nx (ρ.set i (some (.lst (ds ++ [d]))))
theorem ds_app (m : Bool) (i : Nat) {x : Str} {px : Pos} (he : DE Z X e te) (hm : md.getD i 0 = 1 := by rfl) (hi : X.N[i]? = some x := by rfl) (hv : Vis X.env.scope x := by first | exact Or.inl rfl | exact Or.inr (Or.inl rfl) | exact Or.inr (Or.inr rfl)) (hd : (x == ("__debug__" : Str)) = false := by decide) (hcd : (x == ("__classdict__" : Str)) = false := by decide)
    (hbase : attributeBase (.Name x px) "append" X.env (eval (.Name x px) X.env) = eval (.Name x px) X.env := by rfl)
    (hfew : ((backTo cpos (starEach [e] X.env)).all (fun x => !x.1) && (backToKw cpos (keywordEach [] X.env)).all (fun x => x.1.isSome) && decide (([e] : List Expr).length + ([] : List Keyword).length + (if ([] : List Keyword).isEmpty then 0 else 1) < 30)) = true := by rfl)
    (hline : (apos.endLine == cpos.line) = true := by rfl) (hs : starEach [e] X.env = (false, eval e X.env) :: starEach [] X.env := by rfl) (hplain : (backTo cpos (starEach [] X.env)).any (·.1) = false := by rfl)
    (hsw : swapsWith (.Call (.Attribute (.Name x px) "append" apos) [e] [] cpos) none pos.line X.env = pure false := by rfl) :
    DSt Z X md rn (.Expr (.Call (.Attribute (.Name x px) "append" apos) [e] [] cpos) pos) (dApp md m i te) := by
  refine (ps_expr (pe_bm PySem.F.plainAttrs_list PySem.F.slot_list_append PySem.F.type_list_append mt_append (pv i hi hv hd hcd) (pa_cons he pa_nil hs) hbase hfew hline hs hplain) hsw).imp ?_
  rintro D σ H ⟨B, ρ, E, ⟨G, fp, S⟩, ⟨ds, h1, h⟩, M⟩
  obtain ⟨l, xs, _, _, e2, e3, _⟩ := S.one hm h1
  refine ⟨_, e2, ty_list e3, S.ev m h fun d hd => ⟨hd.1, fun v G' H' S' x dv => ?_⟩⟩
  obtain ⟨_, h2, h3⟩ := hd
  obtain ⟨l', xs', ds', e1, e2', e3', dvs, put⟩ := S'.one hm h1
  cases e1
  rw [e2] at e2'
  cases e2'
  exact ⟨l, xs', v, rfl, rfl, e3', by rw [dvs.length]; exact h2, M.nx _ h3 _ _ ⟨G', fp, put _ _ (dvs.snoc dv)⟩⟩
/-! ### x.insert(k, e) -/
theorem DvAll.ins {vs : List V} {ds : List D} {v : V} {d : D} (n : Nat) (h : DvAll Z G vs ds) (dv : Dv Z G v d) : DvAll Z G (Wb.ins vs n v) (Wb.ins ds n d) := (h.take n).append (.cons dv (h.drop n))
def dIns (md : List Nat) (m : Bool) (i : Nat) (tk te : DTE) : DTS := fun E ρ => ∃ ds, ρ[i]? = some (some (.lst ds)) ∧ tk ρ fun kk => ∃ k, kk = .int k ∧ te (vis md m ρ) fun d => flatIf m d ∧ (0 ≤ k ∧ k ≤ ds.length ∧ ds.length < sizeLine) ∧ E.nx (ρ.set i (some (.lst (Wb.ins ds k.toNat d))))
theorem ds_ins (m : Bool) (i : Nat) {x : Str} {px : Pos} (hk : DE Z X k tk) (he : DE Z X e te) (hm : md.getD i 0 = 1 := by rfl) (hi : X.N[i]? = some x := by rfl) (hv : Vis X.env.scope x := by first | exact Or.inl rfl | exact Or.inr (Or.inl rfl) | exact Or.inr (Or.inr rfl)) (hd : (x == ("__debug__" : Str)) = false := by decide) (hcd : (x == ("__classdict__" : Str)) = false := by decide)
    (hbase : attributeBase (.Name x px) "insert" X.env (eval (.Name x px) X.env) = eval (.Name x px) X.env := by rfl)
    (hfew : ((backTo cpos (starEach [k, e] X.env)).all (fun x => !x.1) && (backToKw cpos (keywordEach [] X.env)).all (fun x => x.1.isSome) && decide (([k, e] : List Expr).length + ([] : List Keyword).length + (if ([] : List Keyword).isEmpty then 0 else 1) < 30)) = true := by rfl)
    (hline : (apos.endLine == cpos.line) = true := by rfl) (hs : starEach [k, e] X.env = (false, eval k X.env) :: starEach [e] X.env := by rfl) (hs2 : starEach [e] X.env = (false, eval e X.env) :: starEach [] X.env := by rfl) (hplain : (backTo cpos (starEach [e] X.env)).any (·.1) = false := by rfl)
    (hsw : swapsWith (.Call (.Attribute (.Name x px) "insert" apos) [k, e] [] cpos) none pos.line X.env = pure false := by rfl) :
    DSt Z X md rn (.Expr (.Call (.Attribute (.Name x px) "insert" apos) [k, e] [] cpos) pos) (dIns md m i tk te) := by
  refine (ps_expr (pe_bm PySem.F.plainAttrs_list PySem.F.slot_list_insert PySem.F.type_list_insert mt_insert (pv i hi hv hd hcd) (pa_cons hk (pa_cons he pa_nil hs2) hs) hbase hfew hline hs hplain) hsw).imp ?_
  rintro D σ H ⟨B, ρ, E, ⟨G, fp, S⟩, ⟨ds, h1, h⟩, M⟩
  obtain ⟨l, xs, _, _, e2, e3, _⟩ := S.one hm h1
  refine ⟨_, e2, ty_list e3, S.ev true h ?_⟩
  rintro _ ⟨k, rfl, h⟩
  refine ⟨rfl, fun v1 G1 H1 S1 x1 dv1 => S1.ev m h fun d hd => ⟨hd.1, fun v G' H' S' x dv => ?_⟩⟩
  cases dv1
  obtain ⟨_, ⟨h2, h2', h2''⟩, h3⟩ := hd
  obtain ⟨l', xs', ds', e1, e2', e3', dvs, put⟩ := S'.one hm h1
  cases e1
  rw [e2] at e2'
  cases e2'
  exact ⟨l, xs', k, v, rfl, rfl, e3', h2, by rw [dvs.length]; exact h2', by rw [dvs.length]; exact h2'', M.nx _ h3 _ _ ⟨G', fp, put _ _ (dvs.ins _ dv)⟩⟩
/-! ### x[p].append(e), x[p].insert(k, e) -/
theorem atI_of {α : Type} {xs : List α} {i : Int} {j n : Nat} {v : α} (hn : xs.length = n) (h : ixN n i = some j) (e : xs[j]? = some v) : atI xs i = some v := by unfold atI; rw [hn, h]; exact e
/-! ### x[k] = e -/
def dSetIx (md : List Nat) (m : Bool) (i : Nat) (tk te : DTE) : DTS := fun E ρ => te (vis md m ρ) fun d => flatIf m d ∧ ∃ ds, ρ[i]? = some (some (.lst ds)) ∧ tk ρ fun kk => ∃ k j, kk = .int k ∧ ixN ds.length k = some j ∧ E.nx (ρ.set i (some (.lst (ds.set j d))))
theorem ds_setix (m : Bool) (i : Nat) {x : Str} {px ps : Pos} (hk : DE Z X k tk) (he : DE Z X e te) (hm : md.getD i 0 = 1 := by rfl) (hi : X.N[i]? = some x := by rfl) (hv : Vis X.env.scope x := by first | exact Or.inl rfl | exact Or.inr (Or.inl rfl) | exact Or.inr (Or.inr rfl)) (hd : (x == ("__debug__" : Str)) = false := by decide) (hcd : (x == ("__classdict__" : Str)) = false := by decide)
    (ha : ∀ v, assign (.Subscript (.Name x px) k ps) X.env v = (do
      let ov ← holding [v] (eval (.Name x px) X.env)
      let iv ← holding [v, ov] (eval k X.env)
      standAt ps
      holding [v, ov, iv] (setItem ov iv v)
      release [v, ov, iv] []) := by intro _; rfl)
    (hs : swapsWithSole [.Subscript (.Name x px) k ps] e pos.line X.env = pure false := by rfl) (hw : swappedStores [.Subscript (.Name x px) k ps] e X.env = pure none := by rfl)
    (h1 : (assignEach [.Subscript (.Name x px) k ps] X.env).map (·.2) = [assign (.Subscript (.Name x px) k ps) X.env] := by rfl) : DSt Z X md rn (.Assign [.Subscript (.Name x px) k ps] e pos) (dSetIx md m i tk te) := by
  refine (ps_asg he (pg_sub (pv i hi hv hd hcd) hk set_list ha) hs hw h1).imp ?_
  rintro D σ H ⟨B, ρ, E, ⟨G, fp, S⟩, h, M⟩
  refine S.ev m h fun d hd => ⟨hd.1, fun v G' H' S' x dv => ?_⟩
  obtain ⟨_, ds, h1, h⟩ := hd
  obtain ⟨l, xs, _, _, e2, e3, _⟩ := S'.one hm h1
  refine ⟨_, e2, S'.ev true h ?_⟩
  rintro _ ⟨k, j, rfl, hj, h3⟩
  refine ⟨rfl, fun v1 G1 H1 S1 x1 dv1 => ?_⟩
  cases dv1
  obtain ⟨l', xs', ds', e1, e2', e3', dvs, put⟩ := S1.one hm h1
  cases e1
  rw [e2] at e2'
  cases e2'
  exact ⟨l, xs', k, j, rfl, rfl, e3', by rw [dvs.length]; exact hj, M.nx _ h3 _ _ ⟨G1, fp, put _ _ (dvs.set (dv.mono x1.gg) j)⟩⟩
/-! ### x = y.pop() -/
def dPop (md : List Nat) (i j : Nat) : DTS := fun E ρ => ∃ ds d, ρ[j]? = some (some (.lst (ds ++ [d]))) ∧ E.nx ((ρ.set j (some (.lst ds))).set i (some d))
theorem ds_pop (i j : Nat) {x y : Str} {px py : Pos} (hN : X.N.Nodup) (hm : md.getD i 0 = 0 := by rfl) (hmj : md.getD j 0 = 1 := by rfl) (hi : X.N[i]? = some x := by rfl) (hx : Loc X.env.scope x := by first | exact Or.inl rfl | exact Or.inr rfl)
    (hj : X.N[j]? = some y := by rfl) (hv : Vis X.env.scope y := by first | exact Or.inl rfl | exact Or.inr (Or.inl rfl) | exact Or.inr (Or.inr rfl)) (hd : (y == ("__debug__" : Str)) = false := by decide) (hcd : (y == ("__classdict__" : Str)) = false := by decide)
    (hbase : attributeBase (.Name y py) "pop" X.env (eval (.Name y py) X.env) = eval (.Name y py) X.env := by rfl) (hline : (apos.endLine == cpos.line) = true := by rfl)
    (hs : swapsWith (.Call (.Attribute (.Name y py) "pop" apos) [] [] cpos) (some (.Name x px)) pos.line X.env = pure false := by rfl)
    (hf : X.fn x = true ∨ X.env.scope.names.lookup x = some .local := by first | exact .inl rfl | exact .inr rfl | assumption) : DSt Z X md rn (.Assign [.Name x px] (.Call (.Attribute (.Name y py) "pop" apos) [] [] cpos) pos) (dPop md i j) := by
  refine (ps_set hN hi hx (pe_bm0 PySem.F.plainAttrs_list PySem.F.slot_list_pop PySem.F.type_list_pop mt_pop (pv j hj hv hd hcd) hbase hline) hs hf).imp ?_
  rintro D σ H ⟨B, ρ, E, ⟨G, fp, S⟩, ⟨ds, d, h1, h⟩, M⟩
  obtain ⟨l, xs, ds', e1, e2, e3, dvs, put⟩ := S.one hmj h1
  cases e1
  have hl : xs.length = ds.length + 1 := by rw [dvs.length]; simp
  obtain ⟨v, hv', dv⟩ := dvs.get (i := xs.length - 1) (d := d) (by rw [hl]; simp)
  refine ⟨_, e2, ty_list e3, l, xs, v, rfl, rfl, e3, hv', M.nx _ h _ _ ⟨G, _, (put xs.dropLast ds ?_).setP hm dv⟩⟩
  have := dvs.take ds.length
  rw [List.take_left'] at this
  · rw [List.dropLast_eq_take, hl]; exact this
  · rfl
/-! ### x.append(y), y owned: y is given away -/
/-! ### x += e -/
end
end L2

set_option Elab.async false
set_option linter.all false
set_option maxRecDepth 100000
set_option maxHeartbeats 4000000
namespace L2
open PySem PySem.Spec PyProof.Rows
/-- the built-ins are nobody else's -/
structure BltD (mg : Str → Option Value) : Prop where
  len : mg "len" = none
  range : mg "range" = none
  max : mg "max" = none
  min : mg "min" = none
  enumerate : mg "enumerate" = none
  zip : mg "zip" = none
  sorted : mg "sorted" = none
  all : mg "all" = none
  isinstance : mg "isinstance" = none
  int : mg "int" = none
  bool : mg "bool" = none
  list : mg "list" = none
  tuple : mg "tuple" = none
  sum : mg "sum" = none
  reversed : mg "reversed" = none
theorem bd_bool : bootBuiltins "bool" = some (.type "bool") := by decide +kernel
theorem bd_int : bootBuiltins "int" = some (.type "int") := by decide +kernel
theorem bd_list : bootBuiltins "list" = some (.type "list") := by decide +kernel
theorem bd_tuple : bootBuiltins "tuple" = some (.type "tuple") := by decide +kernel
theorem bd_all : bootBuiltins "all" = some (.builtin "all") := by decide +kernel
theorem bd_len : bootBuiltins "len" = some (.builtin "len") := by decide +kernel
section
variable {P : Program} {w : World} {K : PySem.W.Frag} {mg : Str → Option Value} {base : Heap} {Z : DC}
def startD (N : List Str) (ds : List D) : DN := ds.map some ++ List.replicate (N.length - ds.length) none
/-- a def's promise whose answer is the asker's own (depth n) -/
def liftSpF (Z : DC) (n : Nat) (sd : DSp) : Sp := fun vs H Q _ => ∃ (G : Hp) (ds : List D) (P : D → Prop), Same G H ∧ DvAll Z G vs ds ∧ sd ds P ∧ ∀ d, P d → ∀ v f G' H', Ext G H G' H' → Own Z G' H' n v d f → f.Nodup → (∀ b ∈ f, H b = none ∧ H' b ≠ none ∧ G' b = none) → Q v H'
/-- an owned answer may be read as pure data -/
theorem Own.pure {n : Nat} {v : V} {d : D} {f : List Addr} {G H G' H' : Hp} (x : Ext G H G' H') (o : Own Z G' H' n v d f) (nw : ∀ b ∈ f, H b = none ∧ H' b ≠ none ∧ G' b = none) : ∃ G2, Ext G H G2 H' ∧ Dv Z G2 v d := by
  refine ⟨plus G' H' fun b => b ∈ f, ⟨x.gg.trans (plus_sup x.sub), plus_sub x.sub, x.hh, fun b hb hg => ?_⟩, o.dv (plus_sup x.sub) fun b hb u e => by rw [plus_in hb]; exact e⟩
  rw [plus_out (fun z => hb (nw b z).1)]; exact x.off b hb hg
theorem spF {n : Nat} {sd : DSp} : ∀ vs H Q E, liftSp Z sd vs H Q E → liftSpF Z n sd vs H Q E := by
  rintro vs H Q E ⟨G, ds, P, s, dv, h, q⟩
  exact ⟨G, ds, P, s, dv, h, fun d hd v f G' H' x o nd nw => let ⟨G2, x2, dv2⟩ := o.pure x nw; q d hd v G2 H' x2 dv2⟩
/-- a def, over data -/
theorem fn_dataF (rn : Nat) {x qual : Str} {st : Stmt} {f : Addr} {fd : FuncData} {N ps : List Str} {k : Nat} {sd : DSp} (F : Fun K x qual st f fd) (S : FnScope N ps (defScope st)) (md : List Nat) (hmd : ∀ i, i < ps.length → md.getD i 0 = 0) (len : ∀ ds P, sd ds P → ds.length = ps.length)
    (hbody : ∀ (cdv : Value) (A : Around) (outer : List Env) (s : Shared) (H : Hp) (E : XK) (ds : List D) (R : D → Prop), Room k (A.deeper (envOfC qual (defScope st) s.heap.objs.size f cdv)) → sd ds R →
      ∃ t, DSs Z (cxOf CX0 P w K mg base N qual (defScope st) f cdv A outer s H E).nox md rn (defBody st) t ∧ t { nx := fun _ => rn = 0 ∧ R .non, rt := R } (startD N ds)) : FnOk P w K mg base CX0 (k + 1) f fd ps (liftSpF Z rn sd) := by
  refine F.ok S (fun vs H Q E h => ?_) (fun cdv A outer s H vs Q E hr h => ?_)
  · obtain ⟨G, ds, R, s, dv, h, q⟩ := h
    rw [dv.length]; exact len _ _ h
  obtain ⟨G, ds, R, s0, dv, h, q⟩ := h
  have hret := q
  obtain ⟨t, ht, hq⟩ := hbody cdv A outer s H E ds R hr h
  have hl := len _ _ h
  refine ⟨_, ht, ⟨G, H, G⟩, _, _, ⟨G, fun _ => [], ?_⟩, hq, ⟨fun ρ hρ σ' H' ⟨G', fp, S'⟩ => q _ hρ.2 _ [] G' H' S'.ex (by rw [hρ.1]; exact ⟨.non, rfl⟩) List.nodup_nil (fun b hb => by cases hb), hret, fun _ z => z.elim, fun _ z => z.elim⟩⟩
  refine ⟨.refl s0, .refl _, by unfold startD start; simp [dv.length], fun i d hi => ?_, fun _ => List.nodup_nil, (fun _ _ _ _ z => by cases z), (fun _ _ z => by cases z)⟩
  unfold startD at hi
  have hi2 : i < ds.length := by
    apply Classical.byContradiction
    intro z
    rw [List.getElem?_append_right (by simpa using Nat.le_of_not_lt z), List.getElem?_replicate] at hi
    split at hi <;> cases hi
  rw [List.getElem?_append_left (by simpa using hi2), List.getElem?_map] at hi
  have hd' : ds[i]? = some d := by
    cases z : ds[i]? with
    | none => rw [z] at hi; cases hi
    | some d' => rw [z] at hi; cases hi; rfl
  obtain ⟨v, hv, dv'⟩ := dv.get hd'
  refine ⟨v, ?_, by rw [hmd i (by omega)]; exact ⟨dv', rfl⟩⟩
  unfold start
  rw [List.getElem?_append_left (by simpa [dv.length] using hi2), List.getElem?_map, hv]; rfl
theorem fn_data {x qual : Str} {st : Stmt} {f : Addr} {fd : FuncData} {N ps : List Str} {k : Nat} {sd : DSp} (F : Fun K x qual st f fd) (S : FnScope N ps (defScope st)) (md : List Nat) (hmd : ∀ i, i < ps.length → md.getD i 0 = 0) (len : ∀ ds P, sd ds P → ds.length = ps.length)
    (hbody : ∀ (cdv : Value) (A : Around) (outer : List Env) (s : Shared) (H : Hp) (E : XK) (ds : List D) (R : D → Prop), Room k (A.deeper (envOfC qual (defScope st) s.heap.objs.size f cdv)) → sd ds R →
      ∃ t, DSs Z (cxOf CX0 P w K mg base N qual (defScope st) f cdv A outer s H E).nox md 0 (defBody st) t ∧ t { nx := fun _ => 0 = 0 ∧ R .non, rt := R } (startD N ds)) : FnOk P w K mg base CX0 (k + 1) f fd ps (liftSp Z sd) :=
  (fn_dataF 0 F S md hmd len fun cdv A outer s H E ds R hr h => let ⟨t, a, b⟩ := hbody cdv A outer s H E ds R hr h; ⟨t, a, b⟩).imp spF
end
section
variable {Z : DC} {X : Cx} {a b c e o : Expr} {ta tb te : DTE} {t : DTA} {es : List Expr} {pos apos : Pos}
/-! ### -e -/
def dNeg (ta : DTE) : DTE := fun ρ P => ta ρ fun d => match d with
  | .int i => P (.int (-i))
  | _ => False
theorem de_neg (ha : DE Z X a ta) : DE Z X (.UnaryOp .USub a pos) (dNeg ta) := by
  refine (pe_un un_neg ha).imp ?_
  rintro σ H Q ⟨G, ρ, P, s, en, h, q⟩
  refine ⟨G, ρ, _, s, en, h, fun d hd v G1 H1 x1 dv => ?_⟩
  cases dv <;> first | exact hd.elim | skip
  exact ⟨_, rfl, q _ hd _ G1 H1 x1 (.int _)⟩
/-! ### min and max of two ints -/
/-! ### all -/
def bAll : DSp := fun ds P => ∃ bs : List Bool, ds = [.lst (bs.map D.bl)] ∧ P (.bl (bs.all id))
theorem dv_bls {G : Hp} : ∀ {vs : List V} {bs : List Bool}, DvAll Z G vs (bs.map D.bl) → vs = bs.map V.bl
  | vs, [], h => by cases h; rfl
  | vs, b :: bs, h => by
    cases h with
    | cons a as => cases a; rw [dv_bls as]; rfl
theorem cd_all (hc : X.calm = true) : CallR X (.builtin "all") (liftC Z bAll) := by
  refine (call_all hc).imp ?_
  rintro xs H Q ⟨G, ds, P, s, dv, ⟨bs, rfl, hp⟩, q⟩
  cases dv with
  | cons a as =>
    cases as
    cases a with
    | lst h e => exact ⟨_, bs, rfl, by rw [← dv_bls e]; exact s _ _ h, q _ hp _ G H (.refl s) (.bl _)⟩
/-! ### sorted of ints, of pairs -/
def pairD (k : Nat × Nat) : D := .tup [.int (k.1 : Nat), .int (k.2 : Nat)]
/-! ### x.index(y) -/
def dIndex (ta tb : DTE) : DTE := fun ρ P => ta ρ fun d => ∃ l, d = .lst l ∧ tb ρ fun y => flatD y = true ∧ l.all flatD = true ∧ ∃ (j : Nat) (z : D), l[j]? = some z ∧ eqFD z y = true ∧ (∀ (m : Nat) z, m < j → l[m]? = some z → eqFD z y = false) ∧ P (.int (j : Nat))
theorem de_index {cpos : Pos} (ho : DE Z X o ta) (he : DE Z X e tb)
    (hbase : attributeBase o "index" X.env (eval o X.env) = eval o X.env := by rfl)
    (hfew : ((backTo cpos (starEach [e] X.env)).all (fun x => !x.1) && (backToKw cpos (keywordEach [] X.env)).all (fun x => x.1.isSome) && decide (([e] : List Expr).length + ([] : List Keyword).length + (if ([] : List Keyword).isEmpty then 0 else 1) < 30)) = true := by rfl)
    (hline : (apos.endLine == cpos.line) = true := by rfl) (hs : starEach [e] X.env = (false, eval e X.env) :: starEach [] X.env := by rfl) (hplain : (backTo cpos (starEach [] X.env)).any (·.1) = false := by rfl) :
    DE Z X (.Call (.Attribute o "index" apos) [e] [] cpos) (dIndex ta tb) := by
  refine (pe_bm PySem.F.plainAttrs_list PySem.F.slot_list_index PySem.F.type_list_index mt_index ho (pa_cons he pa_nil hs) hbase hfew hline hs hplain).imp ?_
  rintro σ H Q ⟨G, ρ, P, s, en, h, q⟩
  refine ⟨G, ρ, _, s, en, h, ?_⟩
  rintro _ ⟨l, rfl, hd⟩ v G1 H1 x1 dv
  cases dv with
  | @lst p xs ds hp e =>
    refine ⟨ty_list (x1.sub _ _ hp), G1, ρ, _, x1.sub, en.mono x1.gg, hd, fun y hy u G2 H2 x2 du => ?_⟩
    obtain ⟨h1, h2, j, z, h3, h4, h5, h6⟩ := hy
    have e2 := e.mono x2.gg
    obtain ⟨w, hw, dw⟩ := e2.get h3
    refine ⟨p, xs, u, j, w, rfl, rfl, x2.hh _ _ (x1.sub _ _ hp), by rw [flat_dv du]; exact h1, by rw [flatAll_dv e2]; exact h2, hw, by rw [eqF_dv dw du]; exact h4, fun m z' hm hz => ?_, q _ h6 _ G2 H2 (x1.trans x2) (.int _)⟩
    obtain ⟨d', hd', dv'⟩ := e2.getV hz
    rw [eqF_dv dv' du]
    exact h5 m d' hm hd'
end
end L2

set_option Elab.async false
set_option linter.all false
set_option maxRecDepth 100000
set_option maxHeartbeats 4000000
namespace L2
open PySem PySem.Spec PyProof.Rows
/-- the class Web -/
structure WCls (Z : DC) : Prop where
  cl : Cls Z.K Z.C
  nR : NoAttr Z.K Z.C "rows"
section
variable {Z : DC} {X : Cx} {a b c e o : Expr} {ta tb te : DTE} {t : DTA} {es : List Expr} {pos apos : Pos}
/-! ### o.rows -/
def dRows (ta : DTE) : DTE := fun ρ P => ta ρ fun d => ∃ w, d = .web w ∧ P (webW w)
theorem de_rows (T : WCls Z) (ha : DE Z X o ta) (eK : X.K = Z.K := by rfl) (hb : attributeBase o "rows" X.env (eval o X.env) = eval o X.env := by rfl) : DE Z X (.Attribute o "rows" apos) (dRows ta) := by
  refine (pe_fld ha hb).imp ?_
  rintro σ H Q ⟨G, ρ, P, s, en, h, q⟩
  refine ⟨G, ρ, _, s, en, h, ?_⟩
  rintro _ ⟨w, rfl, hd⟩ v G1 H1 x1 dv
  cases dv with
  | @web p dx R w hp hr g h1 h2 => exact ⟨p, Z.C, dx, _, .ref R, rfl, x1.sub _ _ hp, by rw [eK]; exact T.cl, by rw [eK]; exact T.nR, rfl, q _ hd _ G1 H1 x1 hr⟩
/-! ### o.m(..) -/
def dMeth (sd : DSp) (ta : DTE) (t : DTA) : DTE := fun ρ P => ta ρ fun d => ∃ w, d = .web w ∧ t ρ fun ds => sd (.web w :: ds) P
theorem liftMeth {m : Str} {sd : DSp} (hm : ([("rows", V.ref 0)] : List (Str × V)).lookup m = none) : ∀ σ H Q, liftE Z (dMeth sd ta t) σ H Q → tMeth Z.C m (liftSp Z sd) [] E0 (liftE Z ta) (liftA Z t) σ H Q := by
  rintro σ H Q ⟨G, ρ, P, s, en, h, q⟩
  refine ⟨G, ρ, _, s, en, h, ?_⟩
  rintro _ ⟨w, rfl, hd⟩ v G1 H1 x1 dv
  have dv0 := dv
  cases dv with
  | @web p dx R w hp hr g h1 h2 =>
    refine ⟨p, dx, _, rfl, x1.sub _ _ hp, ?_, G1, ρ, _, x1.sub, en.mono x1.gg, hd, fun ds hds vs G2 H2 x2 dvs => ?_⟩
    · have hz : (m == ("rows" : Str)) = false := by
        cases z : (m == ("rows" : Str)) with
        | false => rfl
        | true => simp [List.lookup, z] at hm
      simp [List.lookup, hz]
    · show liftSp Z sd (V.ref p :: (vs ++ [])) H2 Q E0
      rw [List.append_nil]
      exact ⟨G2, _, P, x2.sub, .cons (dv0.mono x2.gg) dvs, hds, fun d hd v G3 H3 x3 dv3 => q d hd v G3 H3 ((x1.trans x2).trans x3) dv3⟩
variable {sd : DSp} {k : Nat} {f : Addr} {fd : FuncData} {ps : List Str} {m : Str}
theorem de_meth0 {pl : Sem Bool} (T : WCls Z) (ho : DE Z X o ta) (hm : Meth Z.K Z.C m f) (F : FnOk X.prog X.w X.K X.mg X.base CX0 k f fd ps (liftSp Z sd)) (hr : Room k X.A) (hb : Binds X.K fd ps []) (eK : X.K = Z.K := by rfl)
    (hmr : ([("rows", V.ref 0)] : List (Str × V)).lookup m = none := by decide)
    (ht : eval (.Call (.Attribute o m apos) [] [] pos) X.env = (do
      let ov ← eval o X.env
      standAt apos.atName
      let (f, first) ← holding [ov] (getMethod ov m pl)
      callWith pos f first (backTo pos (starEach [] X.env)) (backToKw pos (keywordEach [] X.env))) := by rfl) : DE Z X (.Call (.Attribute o m apos) [] [] pos) (dMeth sd ta dNil) :=
  (pe_meth0 (pl := pl) ho (by rw [eK]; exact T.cl) (by rw [eK]; exact hm) F hr hb .nil pass0 ht).imp fun σ H Q h => by
    obtain ⟨G, ρ, P, s, en, h, q⟩ := liftMeth hmr σ H Q h
    refine ⟨G, ρ, P, s, en, h, fun d hd v G1 H1 x1 dv => ?_⟩
    obtain ⟨p, dx, fs, h1, h2, h3, G', ρ', P', s', en', h', q'⟩ := q d hd v G1 H1 x1 dv
    exact ⟨p, dx, fs, h1, h2, h3, q' _ h' _ G' _ (.refl s') .nil⟩
/-! ### Web(..) -/
/-- __init__'s promise: turns of a web; the new one at p, its rows at R -/
def spInitD (Z : DC) : Sp := fun vs H Q _ => ∃ (p dx : Addr) (v : V) (G : Hp) (w : List (List Nat)), vs = [.ref p, v] ∧ H p = some (.ins Z.C dx []) ∧ Same G H ∧ G p = none ∧ Dv Z G v (webW w) ∧ Wb.Good w ∧ 1 ≤ w.length ∧ w.length ≤ 14 ∧
  ∀ (R : Addr) (G' H' : Hp), Same G G' → Same G' H' → (∀ b o, H b = some o → b ≠ p → H' b = some o) → (∀ b, H b ≠ none → G b = none → G' b = none) → H' p = some (.ins Z.C dx [("rows", .ref R)]) → Dv Z G' (.ref R) (webW w) → Q .non H'
def dMake (t : DTA) : DTE := fun ρ P => t ρ fun ds => ∃ w, ds = [webW w] ∧ Wb.Good w ∧ 1 ≤ w.length ∧ w.length ≤ 14 ∧ P (.web w)
theorem de_make {x : Str} {p : Pos} (M : Mk Z.K Z.C f) (F : FnOk X.prog X.w X.K X.mg X.base CX0 k f fd ps (spInitD Z)) (hr : Room (k + 1) X.A) (hg : Gl X x) (hm : X.mg x = some (.ref Z.C)) (hb : Binds X.K fd ps [])
    (ha : DA Z X (e :: es) t) (eK : X.K = Z.K := by rfl) (hdb : (x == ("__debug__" : Str)) = false := by decide) (he : starEach (e :: es) X.env = (false, eval e X.env) :: starEach es X.env := by rfl) (hpl : (backTo pos (starEach es X.env)).any (·.1) = false := by rfl) :
    DE Z X (.Call (.Name x p) (e :: es) [] pos) (dMake t) := by
  refine (pe_make (by rw [eK]; exact M) F hr hg hm hb .nil pass0 ha hdb he hpl).imp ?_
  rintro σ H Q ⟨G, ρ, P, s, en, h, q⟩
  refine ⟨G, ρ, _, s, en, h, ?_⟩
  rintro _ ⟨w, rfl, g, h1, h14, hp⟩ vs G1 H1 x1 dvs p dx hx hdx ne
  cases dvs with
  | @cons v _ _ _ dv dvs =>
    cases dvs
    have hx' : upd H1 dx (.own p) p = none := by rw [upd_ne (Ne.symm ne)]; exact hx
    have sJ := (same_new hdx (.own p)).trans (same_new hx' (.ins Z.C dx []))
    refine ⟨p, dx, v, G1, w, rfl, upd_same, x1.sub.trans sJ, x1.sub.free hx, dv, g, h1, h14, fun R G2 H2 g1 g2 kp off hp2 dv2 => ⟨rfl, ?_⟩⟩
    have gp : G2 p = none := off p (by rw [upd_same]; exact fun z => nomatch z) (x1.sub.free hx)
    refine q _ hp _ (upd G2 p (.ins Z.C dx [("rows", .ref R)])) H2 ⟨(x1.gg.trans g1).trans (same_new gp _), fun b o e => ?_, fun b o e => ?_, fun b hb hg => ?_⟩ (.web upd_same (dv2.mono (same_new gp _)) g h1 h14)
    · by_cases z : b = p
      · subst z; rw [upd_same] at e; cases e; exact hp2
      · rw [upd_ne z] at e; exact g2 _ _ e
    · have e1 := x1.hh _ _ e
      exact kp b o (sJ _ _ e1) (ne_of_none e1 hx)
    · have hb1 := some_ne x1.hh hb
      have nb : b ≠ p := fun z => hb1 (by rw [z]; exact hx)
      rw [upd_ne nb]
      exact off b (some_ne sJ hb1) (x1.off b hb hg)
end
/-! ### comprehensions of new lists -/
section
variable {Z : DC} {X : Cx} {pos : Pos}
variable {tg iter elt : Expr} {scope : Scope} {NC : List Str} {src : List (Option Nat)} {wi : DTI} {g : DTG} {tf : DTF} {md : List Nat} {rn : Nat}
end
end L2

set_option Elab.async false
set_option linter.all false
set_option maxRecDepth 100000
set_option maxHeartbeats 4000000
namespace L2
open PySem PySem.Spec PyProof.Rows
abbrev inClassD := inClass
/-- a method of Web -/
structure Mfn (Z : DC) (m qual : Str) (st : Stmt) (ps : List Str) where
  f : Addr
  fd : FuncData
  F : Fun Z.K m qual st f fd
  b : Binds Z.K fd ps []
  m : Meth Z.K Z.C m f
def spLawV (K : PySem.W.Frag) : Sp := fun vs H Q _ => ∃ (a : Addr) (ns : List Int), vs = [.ref a] ∧ SqL K H a (ns.map V.int) ∧ ns.length ≤ 63 ∧ ∀ H', Q (.bl true) H'
def spLawD : DSp := fun ds P => ∃ ns : List Int, ds = [.scr ns] ∧ ns.length ≤ 63 ∧ P (.bl true)
theorem law_of {Z : DC} : ∀ vs H Q E, spLawV Z.K vs H Q E → liftSp Z spLawD vs H Q E := by
  rintro vs H Q E ⟨a, ns, rfl, hS, hl, q⟩
  exact ⟨H, [.scr ns], fun d => d = .bl true, .refl _, .cons (.scr hS hl) .nil, ⟨ns, rfl, hl, rfl⟩, fun d hd v G' H' x dv => by subst hd; cases dv; exact q H'⟩
theorem walkD (k : Nat) {l : PySem.W.OpenLaw} {q : Program} {loose : List Str} {XP : (Str → Option Value) → Heap → Prop} {YP : World → Heap → Prop} {d : DefRec} {K : Params → PySem.W.Frag} (hk1 : 3 * k < 150) (hn : l.most = some 63) (hdf : d.params.defaults = [])
    (hY : ∀ (w : World) (h : Heap), YP w h → (K w.params).In h)
    (F : ∀ (w : World) (mg : Str → Option Value) (fa : Addr) (h : Heap), (K w.params).In h → h.Ns mainGlobals mg → mg d.name = some (.ref fa) →
      ∃ fd : FuncData, (∀ (s : Shared) (u : Value), BindsTo s fd ⟨[u], []⟩ [("_law_script", u)]) ∧ ∀ base : Heap, (K w.params).In base → base.Ns mainGlobals mg → FnOk l.prog w (K w.params) mg base CX0 k fa fd ["_law_script"] (spLawV (K w.params))) :
    PySem.W.WalkO q loose XP YP l.row.toRowW d [] (fun f vs => PySem.call f vs) :=
  L2.walk_of (n := 63) (k := 50) (x := "_law_script") (CX := fun _ => CX0) (sp := fun w => spLawV (K w.params)) hn (by decide) hdf ⟨rfl, by decide, by decide⟩ hY (fun w mg fa h a b c => by
    obtain ⟨fd, h1, h2⟩ := F w mg fa h a b c
    exact ⟨fd, h1, fun base x y => (h2 base x y).mono (by omega)⟩) (fun _ _ a ns hl _ hS => ⟨a, ns, rfl, hS, hl, fun _ => rfl⟩) fun _ _ _ _ _ z => z
/-! ### readings -/
theorem ite_of {c : Bool} {A B : Prop} (h1 : c = true → A) (h2 : c = false → B) : if c = true then A else B := by
  cases c with
  | true => exact iteT (h1 rfl)
  | false => exact iteF (h2 rfl)
/-- a comprehension over names: the kept ones, each by f -/
theorem lc_name {i : Nat} {tt : DTT} {te : DTE} {ρ : DN} {α : Type} (enc : α → D) (p : α → Bool) (f : α → D) : ∀ (ys : List α) (ρ' : DN) (acc : List D) (N : DN → List D → Prop), (∀ y ∈ ys, ∀ (Y : D → Prop) (Nn : Prop), (p y = true → Y (f y)) → (p y = false → Nn) → tt (ρ.set i (some (enc y))) fun b => if b = true then te (ρ.set i (some (enc y))) Y else Nn) →
    (∃ o, ρ' = ρ.set i o) → acc.length + ys.length ≤ sizeLine → (∀ ρ', N ρ' (acc ++ (ys.filter p).map f)) → lcW (dgName i) tt te (ys.map enc) ρ' acc N
  | [], ρ', acc, N, _, _, _, h => by
    show N ρ' acc
    simpa using h ρ'
  | y :: ys, ρ', acc, N, hs, ⟨o, ho⟩, hz, h => by
    show tt (ρ'.set i (some (enc y))) _
    rw [ho, List.set_set]
    rw [List.length_cons] at hz
    refine hs y (List.mem_cons_self ..) _ _ (fun hp => ⟨by omega, ?_⟩) (fun hp => ?_)
    · refine lc_name enc p f ys _ (acc ++ [f y]) N (fun z hz => hs z (List.mem_cons_of_mem _ hz)) ⟨_, rfl⟩ (by simp; omega) fun ρ'' => ?_
      have := h ρ''
      rw [List.filter_cons, hp] at this
      simpa using this
    · refine lc_name enc p f ys _ acc N (fun z hz => hs z (List.mem_cons_of_mem _ hz)) ⟨_, rfl⟩ (by omega) fun ρ'' => ?_
      have := h ρ''
      rw [List.filter_cons, hp] at this
      simpa using this
/-- .. without a test -/
theorem lc_all {i : Nat} {te : DTE} {ρ : DN} {α : Type} (enc : α → D) (f : α → D) (ys : List α) (N : DN → List D → Prop) (hs : ∀ y ∈ ys, ∀ (Y : D → Prop), Y (f y) → te (ρ.set i (some (enc y))) Y) (h0 : ρ[i]? = some none) (hz : ys.length ≤ sizeLine) (h : ∀ ρ', N ρ' (ys.map f)) : lcW (dgName i) dYes te (ys.map enc) ρ [] N := by
  refine lc_name (ρ := ρ) enc (fun _ => true) f ys ρ [] N (fun y hy Y Nn h1 _ => ?_) ⟨none, ?_⟩ (by simpa using hz) fun ρ' => by rw [List.filter_eq_self.mpr (fun _ _ => rfl), List.nil_append]; exact h ρ'
  · unfold dYes
    dsimp only
    rw [if_pos rfl]
    exact hs y hy Y (h1 rfl)
  · obtain ⟨hi, e⟩ := List.getElem?_eq_some_iff.mp h0
    rw [← e, List.set_getElem_self]
/-- a loop, by an invariant -/
theorem forW_inv {g : DTG} {tb : DTS} {E : DEnds} (I : Nat → DN → Prop) : ∀ (ds : List D) (k : Nat) (ρ : DN), I k ρ → (∀ (j : Nat) (d : D) (ρ : DN), ds[j]? = some d → I (k + j) ρ → ∀ A : DN → Prop, (∀ ρ, I (k + j + 1) ρ → A ρ) → g d ρ fun ρ1 => tb { nx := A, ct := A, bk := E.nx, rt := E.rt } ρ1) →
    (∀ ρ, I (k + ds.length) ρ → E.nx ρ) → forW g tb E ds ρ
  | [], k, ρ, h0, hs, he => he ρ h0
  | d :: ds, k, ρ, h0, hs, he => by
    refine hs 0 d ρ rfl h0 _ fun ρ' h' => ?_
    exact forW_inv I ds (k + 1) ρ' h' (fun j d' ρ2 hj h2 A hA => by
      refine hs (j + 1) d' ρ2 (by simpa using hj) (by rw [show k + (j + 1) = k + 1 + j by omega]; exact h2) A fun ρ3 h3 => hA ρ3 ?_
      rw [show k + 1 + j + 1 = k + (j + 1) + 1 by omega]; exact h3) (fun ρ2 h2 => he ρ2 (by rw [List.length_cons, show k + (ds.length + 1) = k + 1 + ds.length by omega]; exact h2))
theorem for_inv {g : DTG} {tb : DTS} {E : DEnds} {ds : List D} {ρ : DN} (I : Nat → DN → Prop) (h0 : I 0 ρ) (hs : ∀ (j : Nat) (d : D) (ρ : DN), ds[j]? = some d → I j ρ → ∀ A : DN → Prop, (∀ ρ, I (j + 1) ρ → A ρ) → g d ρ fun ρ1 => tb { nx := A, ct := A, bk := E.nx, rt := E.rt } ρ1)
    (he : ∀ ρ, I ds.length ρ → E.nx ρ) : forW g tb E ds ρ := forW_inv I ds 0 ρ h0 (fun j d ρ hj h A hA => hs j d ρ hj (by simpa using h) A fun ρ' h' => hA ρ' (by simpa using h')) (fun ρ h => he ρ (by simpa using h))
/-- a loop over range(lo, ..) -/
theorem for_rng {g : DTG} {tb : DTS} {E : DEnds} {lo : Int} {n : Nat} {ρ : DN} (I : Nat → DN → Prop) (h0 : I 0 ρ) (hs : ∀ (j : Nat) (ρ : DN), j < n → I j ρ → ∀ A : DN → Prop, (∀ ρ, I (j + 1) ρ → A ρ) → g (.int (lo + j)) ρ fun ρ1 => tb { nx := A, ct := A, bk := E.nx, rt := E.rt } ρ1)
    (he : ∀ ρ, I n ρ → E.nx ρ) : forW g tb E (rangeD lo n) ρ := by
  have l : (rangeD lo n).length = n := by unfold rangeD; simp
  refine for_inv I h0 (fun j d ρ hj h A hA => ?_) (fun ρ h => he ρ (by rw [l] at h; exact h))
  have hlt : j < n := by
    have := (List.getElem?_eq_some_iff.mp hj).1
    rw [l] at this; exact this
  rw [rangeD_get hlt] at hj
  cases hj
  exact hs j ρ hlt h A hA
/-- a while loop, by an invariant and a measure -/
theorem while_inv {c : DTT} {tb : DTS} {E : DEnds} {ρ : DN} (I : Nat → DN → Prop) (m0 : Nat) (h0 : I m0 ρ) (hs : ∀ m ρ, I m ρ → c ρ fun b => if b = true then tb { nx := fun ρ' => ∃ m', m' < m ∧ I m' ρ', ct := fun ρ' => ∃ m', m' < m ∧ I m' ρ', bk := E.nx, rt := E.rt } ρ else E.nx ρ) : dWhile c tb E ρ := ⟨I, ⟨m0, h0⟩, hs⟩
end L2

set_option Elab.async false
set_option linter.all false
set_option maxRecDepth 100000
set_option maxHeartbeats 4000000
namespace L2
open PySem PySem.Spec PyProof.Rows
/-! ### reversed(xs) -/
theorem bd_reversed : bootBuiltins "reversed" = some (.type "reversed") := by decide +kernel
section
variable {Z : DC} {X : Cx} {a b c e : Expr} {ta tb te : DTE} {t : DTA} {pos : Pos}
/-! ### x[k] += e (ints) -/
variable {md : List Nat} {rn : Nat} {k : Expr} {tk : DTE}
/-! ### x.clear() -/
variable {apos cpos : Pos}
/-! ### x = f(..), the answer the asker's own -/
variable {es : List Expr}
def fCall (sd : DSp) (t : DTA) : DTF := fun ρ P => t ρ fun as => sd as fun d => ∃ ds, d = .lst ds ∧ P ds
theorem df_call {n : Nat} {sd : DSp} {k : Nat} {f : Addr} {fd : FuncData} {ps : List Str} {x : Str} {p : Pos} (F : FnOk X.prog X.w X.K X.mg X.base CX0 k f fd ps (liftSpF Z n sd)) (hr : Room k X.A) (hg : Gl X x) (hm : X.mg x = some (.ref f)) (hk : PySem.W.keepIn X.K (.ref f) = true) (hb : Binds X.K fd ps [])
    (ha : DA Z X (e :: es) t) (hdb : (x == ("__debug__" : Str)) = false := by decide) (he : starEach (e :: es) X.env = (false, eval e X.env) :: starEach es X.env := by rfl) (hpl : (backTo pos (starEach es X.env)).any (·.1) = false := by rfl) :
    DF Z X n (.Call (.Name x p) (e :: es) [] pos) (fCall sd t) := by
  refine (pe_call F hr hg hm hk hb .nil pass0 ha hdb he hpl).imp ?_
  rintro σ H Q ⟨G, ρ, P, s, en, h, q⟩
  refine ⟨G, ρ, _, s, en, h, fun ds hd vs G1 H1 x1 dvs => ?_⟩
  show liftSpF Z n sd (vs ++ []) H1 Q E0
  rw [List.append_nil]
  refine ⟨G1, ds, _, x1.sub, dvs, hd, ?_⟩
  rintro _ ⟨ds', rfl, hp⟩ v f G2 H2 x2 o nd nw
  exact q _ hp v f G2 H2 (x1.trans x2) o nd fun b hb => ⟨x1.hh.free (nw b hb).1, (nw b hb).2⟩
end
end L2

set_option Elab.async false
set_option linter.all false
set_option maxRecDepth 100000
set_option maxHeartbeats 4000000
namespace L2
open PySem PySem.Spec PyProof.Rows
section
variable {X : Cx} {elt t0 i0 t1 i1 : Expr} {f0 f1 : List Expr} {scope : Scope} {pos : Pos} {wi wi1 : TI} {g g1 : TG} {tt tt1 : TT} {te : TE} {src : List (Option Nat)} {NC : List Str}
end
section
variable {Z : DC} {X : Cx} {md : List Nat} {rn : Nat} {elt t0 i0 t1 i1 : Expr} {f0 f1 : List Expr} {scope : Scope} {pos : Pos} {wi wi1 : DTI} {g g1 : DTG} {tt tt1 : DTT} {te : DTE} {src : List (Option Nat)} {NC : List Str}
end
end L2
namespace L2
open PySem PySem.Spec PyProof.Rows
section
variable {Z : DC} {X : Cx} {md : List Nat} {rn : Nat} {e : Expr} {pos : Pos}
theorem DvAll.flat {G G' : Hp} : ∀ {vs : List V} {ds : List D}, DvAll Z G vs ds → ds.all flatD = true → DvAll Z G' vs ds
  | _, _, .nil, _ => .nil
  | _, _, .cons a as, h => by
    rw [List.all_cons, Bool.and_eq_true] at h
    exact .cons (a.flat h.1) (as.flat h.2)
end
theorem enumD_get {l : List D} {j : Nat} {d : D} (h : (enumD l)[j]? = some d) : ∃ x, l[j]? = some x ∧ d = .tup [.int (j : Int), x] := by
  unfold enumD at h
  rw [List.getElem?_mapIdx] at h
  cases e : l[j]? with
  | none => rw [e] at h; cases h
  | some x => rw [e] at h; cases h; exact ⟨x, rfl, rfl⟩
theorem enumD_len (l : List D) : (enumD l).length = l.length := by unfold enumD; simp
theorem map_get {α β : Type} {f : α → β} {l : List α} {j : Nat} {y : β} (h : (l.map f)[j]? = some y) : ∃ x, l[j]? = some x ∧ y = f x := by
  rw [List.getElem?_map] at h
  cases e : l[j]? with
  | none => rw [e] at h; cases h
  | some x => rw [e] at h; cases h; exact ⟨x, rfl, rfl⟩
theorem flat_nat (r : List Nat) : (r.map natD).all flatD = true := by simp [natD, flatD]
theorem inD_nat {r : List Nat} {p : Nat} : inD (natD p) (r.map natD) = decide (p ∈ r) := by
  unfold inD
  rw [List.any_map]
  have : ((fun y => eqFD y (natD p)) ∘ natD) = fun q : Nat => decide (q = p) := by
    funext q
    simp [natD, eqFD, Function.comp]
    by_cases z : q = p
    · simp [z]
    · have : ¬ (q : Int) = (p : Int) := by omega
      simp [z, this]
  rw [this]
  by_cases h : p ∈ r
  · rw [decide_eq_true h, List.any_eq_true]; exact ⟨p, h, by simp⟩
  · rw [decide_eq_false h]
    apply Bool.eq_false_iff.mpr
    intro z
    rw [List.any_eq_true] at z
    obtain ⟨q, hq, e⟩ := z
    exact h (by have : q = p := by simpa using e
                rw [← this]; exact hq)
theorem atI_natD {l : List D} {p : Nat} {d : D} (h : l[p]? = some d) : atI l (p : Int) = some d := atI_nat h
theorem web_row {w : List (List Nat)} {p : Nat} (h : p < w.length) : (w.map rowW)[p]? = some (rowW (Wb.row w p)) := by
  rw [List.getElem?_map, Wb.row_get h]; rfl
end L2

set_option Elab.async false
set_option linter.all false
set_option maxRecDepth 100000
set_option maxHeartbeats 4000000
namespace L2
open PySem PySem.Spec PyProof.Rows
section
variable {Z : DC} {X : Cx} {md : List Nat} {rn : Nat} {e : Expr} {te : DTE} {pos : Pos}
end
theorem iteN {c : Bool} {A B : Prop} (e : c = false) (h : B) : if c = true then A else B := by rw [if_neg (by rw [e]; exact Bool.false_ne_true)]; exact h
theorem len1 {α : Type} {us : List α} (h : us.length = 1) : ∃ a0, us = [a0] := by
  cases us with
  | nil => cases h
  | cons a l =>
    cases l with
    | nil => exact ⟨a, rfl⟩
    | cons _ _ => cases h
theorem len2 {α : Type} {us : List α} (h : us.length = 2) : ∃ a0 a1, us = [a0, a1] := by
  cases us with
  | nil => cases h
  | cons a l =>
    obtain ⟨a1, rfl⟩ := len1 (Nat.succ.inj h)
    exact ⟨a, a1, rfl⟩
theorem len3 {α : Type} {us : List α} (h : us.length = 3) : ∃ a0 a1 a2, us = [a0, a1, a2] := by
  cases us with
  | nil => cases h
  | cons a l =>
    obtain ⟨a1, a2, rfl⟩ := len2 (Nat.succ.inj h)
    exact ⟨a, a1, a2, rfl⟩
end L2


set_option linter.all false
namespace Wb
/-! the points that are reached -/
structure RI (w : W) (bs : List Bool) (ws ex : List Nat) (c : Nat) : Prop where
  len : bs.length = w.length
  z : bs[0]? = some true
  wt : ∀ x ∈ ws, bs[x]? = some true
  cl : ∀ x, bs[x]? = some true → x ∈ ws ∨ x ∈ ex ∨ ∀ q ∈ row w x, bs[q]? = some true
  cnt : bs.count false + ws.length ≤ c
theorem RI.pop {w : W} {bs : List Bool} {ws : List Nat} {p c : Nat} (h : RI w bs (ws ++ [p]) [] (c + 1)) : RI w bs ws [p] c :=
  ⟨h.len, h.z, fun x hx => h.wt x (List.mem_append_left _ hx), fun x hx => by
    rcases h.cl x hx with q | q | q
    · rcases List.mem_append.mp q with q | q
      · exact .inl q
      · exact .inr (.inl q)
    · cases q
    · exact .inr (.inr q), by have := h.cnt; rw [List.length_append] at this; simp at this; omega⟩
theorem RI.push {w : W} {bs : List Bool} {ws ex : List Nat} {q c : Nat} (h : RI w bs ws ex c) (hq : bs[q]? = some false) : RI w (bs.set q true) (ws ++ [q]) ex c := by
  obtain ⟨hl, he⟩ := List.getElem?_eq_some_iff.mp hq
  have up : ∀ x, bs[x]? = some true → (bs.set q true)[x]? = some true := fun x hx => by
    rw [List.getElem?_set]
    by_cases e : q = x
    · rw [if_pos e, if_pos hl]
    · rw [if_neg e]; exact hx
  refine ⟨by rw [List.length_set]; exact h.len, up _ h.z, fun x hx => ?_, fun x hx => ?_, ?_⟩
  · rcases List.mem_append.mp hx with z | z
    · exact up _ (h.wt x z)
    · have : x = q := by simpa using z
      rw [this, List.getElem?_set, if_pos rfl, if_pos hl]
  · by_cases e : q = x
    · exact .inl (by rw [e]; simp)
    · rw [List.getElem?_set, if_neg e] at hx
      rcases h.cl x hx with z | z | z
      · exact .inl (List.mem_append_left _ z)
      · exact .inr (.inl z)
      · exact .inr (.inr fun y hy => up _ (z y hy))
  · have hc := h.cnt
    have : 0 < bs.count false := List.count_pos_iff.mpr (by rw [← he]; exact List.getElem_mem hl)
    rw [List.count_set hl, he, List.length_append]
    simp
    omega
theorem RI.close {w : W} {bs : List Bool} {ws : List Nat} {p c : Nat} (h : RI w bs ws [p] c) (hp : ∀ q ∈ row w p, bs[q]? = some true) : RI w bs ws [] c :=
  ⟨h.len, h.z, h.wt, fun x hx => by
    rcases h.cl x hx with q | q | q
    · exact .inl q
    · have : x = p := by simpa using q
      rw [this]; exact .inr (.inr hp)
    · exact .inr (.inr q), h.cnt⟩
theorem RI.all {w : W} {bs : List Bool} {c : Nat} (g : Good w) (h : RI w bs [] [] c) : bs = List.replicate w.length true := by
  have := closed_all g (S := fun x => bs[x]? = some true) h.z fun p q hp hq => by
    rcases h.cl p hp with z | z | z
    · cases z
    · cases z
    · exact z q hq
  refine List.ext_getElem? fun i => ?_
  by_cases hi : i < w.length
  · rw [this i hi, List.getElem?_replicate, if_pos hi]
  · rw [List.getElem?_eq_none (by rw [h.len]; omega), List.getElem?_eq_none (by simp; omega)]
end Wb

set_option Elab.async false
set_option linter.all false
set_option maxRecDepth 100000
set_option maxHeartbeats 4000000
namespace K33
open PySem L2 Wb
def top (i : Nat) : Stmt := PySem.Challenge.pw_mapdye_k33_parted_and_made_less.main.body.getD i (.Pass ⟨0, 0, 0, 0⟩)
abbrev s_is_among : Stmt := top 10
abbrev s_alien_fault : Stmt := top 11
abbrev s_self_fault : Stmt := top 12
abbrev s_twice_fault : Stmt := top 13
abbrev s_lone_fault : Stmt := top 14
abbrev s_reached_from_first : Stmt := top 15
abbrev s_apart_fault : Stmt := top 16
abbrev s_first_fault : Stmt := top 17
abbrev s_begun_at : Stmt := top 20
abbrev s_within_at : Stmt := top 21
abbrev s_parted : Stmt := top 22
abbrev s_made_less : Stmt := top 23
abbrev s__law_cell_at : Stmt := top 25
abbrev s__law_drawn : Stmt := top 26
abbrev s__law_grown : Stmt := top 27
abbrev s__law_named : Stmt := top 28
abbrev s__law_built : Stmt := top 29
abbrev s__law_web : Stmt := top 30
abbrev s__law_within : Stmt := top 31
abbrev s__law_chords : Stmt := top 32
abbrev s__law_halves : Stmt := top 33
abbrev s__law_lesser : Stmt := top 34
abbrev s__law_rings : Stmt := top 35
abbrev s__law_points : Stmt := top 36
abbrev s__law_parted_right : Stmt := top 37
abbrev s__law_less_right : Stmt := top 38
abbrev s_law : Stmt := top 39
abbrev s_Web___init__ : Stmt := L2.inClassD (top 18) 0
abbrev s_Web_many : Stmt := L2.inClassD (top 18) 1
abbrev s_Web_turns : Stmt := L2.inClassD (top 18) 2
abbrev s_Web_ties : Stmt := L2.inClassD (top 18) 3
abbrev s_Web_tied : Stmt := L2.inClassD (top 18) 4
abbrev s_Web_behind : Stmt := L2.inClassD (top 18) 5
theorem sc_is_among : FnScope ["thing", "many"] ["thing", "many"] (defScope s_is_among) := ⟨rfl, rfl, rfl, by decide +kernel, rfl, by decide +kernel, by decide +kernel⟩
theorem sc_alien_fault : FnScope ["rows", "p", "row", "q"] ["rows"] (defScope s_alien_fault) := ⟨rfl, rfl, rfl, by decide +kernel, rfl, by decide +kernel, by decide +kernel⟩
theorem sc_self_fault : FnScope ["rows", "p", "row"] ["rows"] (defScope s_self_fault) := ⟨rfl, rfl, rfl, by decide +kernel, rfl, by decide +kernel, by decide +kernel⟩
theorem sc_twice_fault : FnScope ["rows", "p", "row", "place", "q"] ["rows"] (defScope s_twice_fault) := ⟨rfl, rfl, rfl, by decide +kernel, rfl, by decide +kernel, by decide +kernel⟩
theorem sc_lone_fault : FnScope ["rows", "p", "row", "q"] ["rows"] (defScope s_lone_fault) := ⟨rfl, rfl, rfl, by decide +kernel, rfl, by decide +kernel, by decide +kernel⟩
theorem sc_reached_from_first : FnScope ["rows", "reached", "waiting", "p", "q"] ["rows"] (defScope s_reached_from_first) := ⟨rfl, rfl, rfl, by decide +kernel, rfl, by decide +kernel, by decide +kernel⟩
theorem sc_apart_fault : FnScope ["rows", "q", "reached"] ["rows"] (defScope s_apart_fault) := ⟨rfl, rfl, rfl, by decide +kernel, rfl, by decide +kernel, by decide +kernel⟩
theorem sc_first_fault : FnScope ["rows", "fault"] ["rows"] (defScope s_first_fault) := ⟨rfl, rfl, rfl, by decide +kernel, rfl, by decide +kernel, by decide +kernel⟩
theorem sc_begun_at : FnScope ["ring", "p", "place"] ["ring", "p"] (defScope s_begun_at) := ⟨rfl, rfl, rfl, by decide +kernel, rfl, by decide +kernel, by decide +kernel⟩
theorem sc_within_at : FnScope ["web", "ring", "i", "turn"] ["web", "ring", "i"] (defScope s_within_at) := ⟨rfl, rfl, rfl, by decide +kernel, rfl, by decide +kernel, by decide +kernel⟩
theorem sc_parted : FnScope ["ring", "i", "j"] ["ring", "i", "j"] (defScope s_parted) := ⟨rfl, rfl, rfl, by decide +kernel, rfl, by decide +kernel, by decide +kernel⟩
theorem sc_made_less : FnScope ["web", "ring"] ["web", "ring"] (defScope s_made_less) := ⟨rfl, rfl, rfl, by decide +kernel, rfl, by decide +kernel, by decide +kernel⟩
theorem sc__law_cell_at : FnScope ["_law_script", "_law_k"] ["_law_script", "_law_k"] (defScope s__law_cell_at) := ⟨rfl, rfl, rfl, by decide +kernel, rfl, by decide +kernel, by decide +kernel⟩
theorem sc__law_drawn : FnScope ["_law_cell", "_law_mixed"] ["_law_cell"] (defScope s__law_drawn) := ⟨rfl, rfl, rfl, by decide +kernel, rfl, by decide +kernel, by decide +kernel⟩
theorem sc__law_grown : FnScope ["_law_number", "_law_turns", "_law_ring", "_law_many", "_law_point", "_law_at", "_law_far", "_law_arc", "_law_other"] ["_law_number"] (defScope s__law_grown) := ⟨rfl, rfl, rfl, by decide +kernel, rfl, by decide +kernel, by decide +kernel⟩
theorem sc__law_named : FnScope ["_law_turns", "_law_ring", "_law_number", "_law_names", "_law_k", "_law_found", "_law_row", "_law_at"] ["_law_turns", "_law_ring", "_law_number"] (defScope s__law_named) := ⟨rfl, rfl, rfl, by decide +kernel, rfl, by decide +kernel, by decide +kernel⟩
theorem sc__law_built : FnScope ["_law_script", "_law_turns", "_law_ring", "_law_number", "_law_one", "_law_other", "_law_row"] ["_law_script"] (defScope s__law_built) := ⟨rfl, rfl, rfl, by decide +kernel, rfl, by decide +kernel, by decide +kernel⟩
theorem sc__law_web : FnScope ["_law_turns"] ["_law_turns"] (defScope s__law_web) := ⟨rfl, rfl, rfl, by decide +kernel, rfl, by decide +kernel, by decide +kernel⟩
theorem sc__law_within : FnScope ["_law_turns", "_law_ring", "_law_i", "_law_row", "_law_at"] ["_law_turns", "_law_ring", "_law_i"] (defScope s__law_within) := ⟨rfl, rfl, rfl, by decide +kernel, rfl, by decide +kernel, by decide +kernel⟩
theorem sc__law_chords : FnScope ["_law_turns", "_law_ring", "_law_found", "_law_i", "_law_inner"] ["_law_turns", "_law_ring"] (defScope s__law_chords) := ⟨rfl, rfl, rfl, by decide +kernel, rfl, by decide +kernel, by decide +kernel⟩
theorem sc__law_halves : FnScope ["_law_ring", "_law_i", "_law_j"] ["_law_ring", "_law_i", "_law_j"] (defScope s__law_halves) := ⟨rfl, rfl, rfl, by decide +kernel, rfl, by decide +kernel, by decide +kernel⟩
theorem sc__law_lesser : FnScope ["_law_turns", "_law_ring", "_law_number", "_law_some", "_law_last", "_law_i", "_law_j"] ["_law_turns", "_law_ring", "_law_number"] (defScope s__law_lesser) := ⟨rfl, rfl, rfl, by decide +kernel, rfl, by decide +kernel, by decide +kernel⟩
theorem sc__law_rings : FnScope ["_law_turns", "_law_ring", "_law_number", "_law_found", "_law_at"] ["_law_turns", "_law_ring", "_law_number"] (defScope s__law_rings) := ⟨rfl, rfl, rfl, by decide +kernel, rfl, by decide +kernel, by decide +kernel⟩
theorem sc__law_points : FnScope ["_law_found", "_law_due"] ["_law_found", "_law_due"] (defScope s__law_points) := ⟨rfl, rfl, rfl, by decide +kernel, rfl, by decide +kernel, by decide +kernel⟩
theorem sc__law_parted_right : FnScope ["_law_ring", "_law_i", "_law_j", "_law_handed", "_law_due", "_law_found"] ["_law_ring", "_law_i", "_law_j"] (defScope s__law_parted_right) := ⟨rfl, rfl, rfl, by decide +kernel, rfl, by decide +kernel, by decide +kernel⟩
theorem sc__law_less_right : FnScope ["_law_web_here", "_law_turns", "_law_ring", "_law_last", "_law_inner", "_law_handed", "_law_due", "_law_found"] ["_law_web_here", "_law_turns", "_law_ring"] (defScope s__law_less_right) := ⟨rfl, rfl, rfl, by decide +kernel, rfl, by decide +kernel, by decide +kernel⟩
theorem sc_law : FnScope ["_law_script", "_law_turns", "_law_ring", "_law_web_here", "_law_one", "_law_i", "_law_j", "_law_at"] ["_law_script"] (defScope s_law) := ⟨rfl, rfl, rfl, by decide +kernel, rfl, by decide +kernel, by decide +kernel⟩
theorem sc_Web___init__ : FnScope ["self", "turns", "rows", "fault"] ["self", "turns"] (defScope s_Web___init__) := ⟨rfl, rfl, rfl, by decide +kernel, rfl, by decide +kernel, by decide +kernel⟩
theorem sc_Web_turns : FnScope ["self"] ["self"] (defScope s_Web_turns) := ⟨rfl, rfl, rfl, by decide +kernel, rfl, by decide +kernel, by decide +kernel⟩
structure Txt (Z : DC) (mg : Str → Option Value) where
  B : BltD mg
  d_is_among : Dfn Z.K mg "is_among" s_is_among ["thing", "many"]
  d_alien_fault : Dfn Z.K mg "alien_fault" s_alien_fault ["rows"]
  d_self_fault : Dfn Z.K mg "self_fault" s_self_fault ["rows"]
  d_twice_fault : Dfn Z.K mg "twice_fault" s_twice_fault ["rows"]
  d_lone_fault : Dfn Z.K mg "lone_fault" s_lone_fault ["rows"]
  d_reached_from_first : Dfn Z.K mg "reached_from_first" s_reached_from_first ["rows"]
  d_apart_fault : Dfn Z.K mg "apart_fault" s_apart_fault ["rows"]
  d_first_fault : Dfn Z.K mg "first_fault" s_first_fault ["rows"]
  d_begun_at : Dfn Z.K mg "begun_at" s_begun_at ["ring", "p"]
  d_within_at : Dfn Z.K mg "within_at" s_within_at ["web", "ring", "i"]
  d_parted : Dfn Z.K mg "parted" s_parted ["ring", "i", "j"]
  d_made_less : Dfn Z.K mg "made_less" s_made_less ["web", "ring"]
  d__law_cell_at : Dfn Z.K mg "_law_cell_at" s__law_cell_at ["_law_script", "_law_k"]
  d__law_drawn : Dfn Z.K mg "_law_drawn" s__law_drawn ["_law_cell"]
  d__law_grown : Dfn Z.K mg "_law_grown" s__law_grown ["_law_number"]
  d__law_named : Dfn Z.K mg "_law_named" s__law_named ["_law_turns", "_law_ring", "_law_number"]
  d__law_built : Dfn Z.K mg "_law_built" s__law_built ["_law_script"]
  d__law_web : Dfn Z.K mg "_law_web" s__law_web ["_law_turns"]
  d__law_within : Dfn Z.K mg "_law_within" s__law_within ["_law_turns", "_law_ring", "_law_i"]
  d__law_chords : Dfn Z.K mg "_law_chords" s__law_chords ["_law_turns", "_law_ring"]
  d__law_halves : Dfn Z.K mg "_law_halves" s__law_halves ["_law_ring", "_law_i", "_law_j"]
  d__law_lesser : Dfn Z.K mg "_law_lesser" s__law_lesser ["_law_turns", "_law_ring", "_law_number"]
  d__law_rings : Dfn Z.K mg "_law_rings" s__law_rings ["_law_turns", "_law_ring", "_law_number"]
  d__law_points : Dfn Z.K mg "_law_points" s__law_points ["_law_found", "_law_due"]
  d__law_parted_right : Dfn Z.K mg "_law_parted_right" s__law_parted_right ["_law_ring", "_law_i", "_law_j"]
  d__law_less_right : Dfn Z.K mg "_law_less_right" s__law_less_right ["_law_web_here", "_law_turns", "_law_ring"]
  d_law : Dfn Z.K mg "law" s_law ["_law_script"]
  W : WCls Z
  mC : mg "Web" = some (.ref Z.C)
  i_f : Addr
  i_fd : FuncData
  i_F : Fun Z.K "__init__" "Web.__init__" s_Web___init__ i_f i_fd
  mkW : Mk Z.K Z.C i_f
  m___init__b : Binds Z.K i_fd ["self", "turns"] []
  m_many : Mfn Z "many" "Web.many" s_Web_many ["self"]
  m_turns : Mfn Z "turns" "Web.turns" s_Web_turns ["self"]
  m_ties : Mfn Z "ties" "Web.ties" s_Web_ties ["self"]
  m_tied : Mfn Z "tied" "Web.tied" s_Web_tied ["self", "a", "b"]
  m_behind : Mfn Z "behind" "Web.behind" s_Web_behind ["self", "p", "q"]
  c_MOST_POINTS : ∃ tk, mg "MOST_POINTS" = some (.int 14 tk)
/-! ### the web's own defs, of good webs -/
def spAmong : DSp := fun ds P => ∃ (i n : Int), ds = [.int i, .int n] ∧ P (.bl (decide (0 ≤ i ∧ i < n)))
theorem ok_is_among {P : Program} {w : World} {mg : Str → Option Value} {base : Heap} {Z : DC} (T : Txt Z mg) : FnOk P w Z.K mg base CX0 1 T.d_is_among.f T.d_is_among.fd ["thing", "many"] (liftSp Z spAmong) := by
  have nd := sc_is_among.nd
  refine fn_data T.d_is_among.F sc_is_among [0, 0] (by decide) (fun ds R h => by obtain ⟨_, _, rfl, _⟩ := h; rfl) (fun cdv A outer s H E ds R hr h => ?_)
  have hu := hr.units
  refine ⟨_, (dss_one (ds_ret (de_and (de_isI "int" (de_var 0) rfl T.B.isinstance rfl T.B.int bd_int) (de_and (de_not (de_isI "bool" (de_var 0) rfl T.B.isinstance rfl T.B.bool bd_bool)) (de_one (de_chain od_le od_lt de_int (de_var 0) (de_var 1))))))), ?_⟩
  obtain ⟨i, n, rfl, q⟩ := h
  refine ⟨_, rfl, rfl, true, rfl, iteT ⟨_, rfl, rfl, false, rfl, true, rfl, iteT ⟨_, rfl, ?_⟩⟩⟩
  refine ⟨_, rfl, ite_of (fun h0 => ⟨_, rfl, ?_⟩) (fun h0 => ?_)⟩
  · have h0 : 0 ≤ i := of_decide_eq_true h0
    show R (.bl (decide (i < n)))
    rw [show decide (i < n) = decide (0 ≤ i ∧ i < n) by simp [h0]]
    exact q
  · have h0 : ¬ 0 ≤ i := of_decide_eq_false h0
    rw [show decide (0 ≤ i ∧ i < n) = false by simp [h0]] at q
    exact q
def spNone : DSp := fun ds P => ∃ (w : W), ds = [webW w] ∧ Good w ∧ 1 ≤ w.length ∧ w.length ≤ 14 ∧ P .non
theorem web3 {w : W} {j : Nat} {d : D} (h : (enumD (w.map rowW))[j]? = some d) : j < w.length ∧ d = .tup [.int (j : Int), rowW (row w j)] := by
  obtain ⟨x, hx, rfl⟩ := enumD_get h
  obtain ⟨r, hr, rfl⟩ := map_get hx
  have hj : j < w.length := (List.getElem?_eq_some_iff.mp hr).1
  refine ⟨hj, ?_⟩
  rw [row_of hr]
theorem ok_alien_fault {P : Program} {w : World} {mg : Str → Option Value} {base : Heap} {Z : DC} (T : Txt Z mg) : FnOk P w Z.K mg base CX0 2 T.d_alien_fault.f T.d_alien_fault.fd ["rows"] (liftSp Z spNone) := by
  have g_is_among := ok_is_among (P := P) (w := w) (base := base) T
  have nd := sc_alien_fault.nd
  refine fn_data T.d_alien_fault.F sc_alien_fault [0, 0, 0, 0] (by decide) (fun ds R h => by obtain ⟨_, rfl, _⟩ := h; rfl) (fun cdv A outer s H E ds R hr h => ?_)
  have hu := hr.units
  refine ⟨_, (dss_cons (ds_for rfl PassesOwn.never (di_enum rfl T.B.enumerate (da_cons (de_var 0) da_nil)) (dt_tup 2 rfl (dts_cons (dt_name 1 nd) (dts_cons (dt_name 2 nd) dts_nil'))) (dss_one (ds_for rfl PassesOwn.never (di_list (de_var 2)) (dt_name 3 nd) (dss_one (ds_if (dt_not (dt_tru (de_call g_is_among (hr.mono (by decide)) rfl T.d_is_among.m T.d_is_among.F.kp T.d_is_among.b (da_cons (de_var 3) (da_cons (de_callB cd_len rfl T.B.len bd_len (da_cons (de_var 0) da_nil)) da_nil))))) (dss_one (ds_ret (de_tup (da_cons de_str (da_cons (de_var 1) (da_cons (de_var 3) da_nil)))))) dss_nil)))))
      (dss_one (ds_ret de_non))), ?_⟩
  obtain ⟨w', rfl, g, h1, h14, q⟩ := h
  refine ⟨_, rfl, for_inv (fun _ ρ => ∃ o1 o2 o3, ρ = [some (webW w'), o1, o2, o3]) ⟨_, _, _, rfl⟩ ?_ ?_⟩
  · rintro j d _ hd ⟨o1, o2, o3, rfl⟩ A hA
    obtain ⟨hj, rfl⟩ := web3 hd
    refine ⟨rfl, rfl, ?_⟩
    refine ⟨_, rfl, for_inv (fun _ ρ => ∃ o3, ρ = [some (webW w'), some (.int (j : Int)), some (rowW (row w' j)), o3]) ⟨_, rfl⟩ ?_ ?_⟩
    · rintro k d' _ hk ⟨o4, rfl⟩ A' hA'
      obtain ⟨x, hx, rfl⟩ := map_get hk
      refine ⟨_, rfl, _, rfl, _, _, rfl, ⟨rfl, ?_⟩⟩
      have hlt : x < w'.length := g.rng _ _ (List.mem_of_getElem? hx)
      rw [show decide ((0 : Int) ≤ (x : Int) ∧ (x : Int) < ((w'.map rowW).length : Int)) = true by simp; omega]
      exact iteF (hA' _ ⟨_, rfl⟩)
    · rintro _ ⟨o4, rfl⟩
      exact hA _ ⟨_, _, _, rfl⟩
  · rintro _ ⟨o1, o2, o3, rfl⟩
    exact q
theorem ok_self_fault {P : Program} {w : World} {mg : Str → Option Value} {base : Heap} {Z : DC} (T : Txt Z mg) : FnOk P w Z.K mg base CX0 1 T.d_self_fault.f T.d_self_fault.fd ["rows"] (liftSp Z spNone) := by
  have nd := sc_self_fault.nd
  refine fn_data T.d_self_fault.F sc_self_fault [0, 0, 0] (by decide) (fun ds R h => by obtain ⟨_, rfl, _⟩ := h; rfl) (fun cdv A outer s H E ds R hr h => ?_)
  have hu := hr.units
  refine ⟨_, (dss_cons (ds_for rfl PassesOwn.never (di_enum rfl T.B.enumerate (da_cons (de_var 0) da_nil)) (dt_tup 2 rfl (dts_cons (dt_name 1 nd) (dts_cons (dt_name 2 nd) dts_nil'))) (dss_one (ds_if (dt_cmp od_in (de_var 1) (de_var 2) (by with_unfolding_all rfl)) (dss_one (ds_ret (de_tup (da_cons de_str (da_cons (de_var 1) (da_cons (de_var 1) da_nil)))))) dss_nil)))
      (dss_one (ds_ret de_non))), ?_⟩
  obtain ⟨w', rfl, g, h1, h14, q⟩ := h
  refine ⟨_, rfl, for_inv (fun _ ρ => ∃ o1 o2, ρ = [some (webW w'), o1, o2]) ⟨_, _, rfl⟩ ?_ ?_⟩
  · rintro j d _ hd ⟨o1, o2, rfl⟩ A hA
    obtain ⟨hj, rfl⟩ := web3 hd
    refine ⟨rfl, rfl, ?_⟩
    refine ⟨_, rfl, _, rfl, rfl, flat_nat _, _, rfl, ?_⟩
    have e : inD (.int (j : Int)) ((row w' j).map natD) = false := by
      have := inD_nat (r := row w' j) (p := j)
      rw [decide_eq_false (g.irr j)] at this
      exact this
    rw [if_neg Bool.false_ne_true, e]
    exact iteF (hA _ ⟨_, _, rfl⟩)
  · rintro _ ⟨o1, o2, rfl⟩
    exact q
theorem cutD_take {α : Type} (l : List α) (k : Nat) (h : k ≤ l.length) : cutD l none (some (k : Int)) = l.take k := by
  unfold cutD
  have e1 : HT.sIx l.length 0 none = 0 := rfl
  have e2 : HT.sIx l.length l.length (some (k : Int)) = k := by
    simp only [HT.sIx]
    split <;> omega
  rw [e1, e2]
  simp
theorem ok_twice_fault {P : Program} {w : World} {mg : Str → Option Value} {base : Heap} {Z : DC} (T : Txt Z mg) : FnOk P w Z.K mg base CX0 1 T.d_twice_fault.f T.d_twice_fault.fd ["rows"] (liftSp Z spNone) := by
  have nd := sc_twice_fault.nd
  refine fn_data T.d_twice_fault.F sc_twice_fault [0, 0, 0, 0, 0] (by decide) (fun ds R h => by obtain ⟨_, rfl, _⟩ := h; rfl) (fun cdv A outer s H E ds R hr h => ?_)
  have hu := hr.units
  refine ⟨_, (dss_cons (ds_for rfl PassesOwn.never (di_enum rfl T.B.enumerate (da_cons (de_var 0) da_nil)) (dt_tup 2 rfl (dts_cons (dt_name 1 nd) (dts_cons (dt_name 2 nd) dts_nil'))) (dss_one (ds_for rfl PassesOwn.never (di_enum rfl T.B.enumerate (da_cons (de_var 2) da_nil)) (dt_tup 2 rfl (dts_cons (dt_name 3 nd) (dts_cons (dt_name 4 nd) dts_nil'))) (dss_one (ds_if (dt_cmp od_in (de_var 4) (de_slice (de_var 2) do_none (do_some (de_var 3))) (by with_unfolding_all rfl)) (dss_one (ds_ret (de_tup (da_cons de_str (da_cons (de_var 1) (da_cons (de_var 4) da_nil)))))) dss_nil)))))
      (dss_one (ds_ret de_non))), ?_⟩
  obtain ⟨w', rfl, g, h1, h14, q⟩ := h
  refine ⟨_, rfl, for_inv (fun _ ρ => ∃ o1 o2 o3 o4, ρ = [some (webW w'), o1, o2, o3, o4]) ⟨_, _, _, _, rfl⟩ ?_ ?_⟩
  · rintro j d _ hd ⟨o1, o2, o3, o4, rfl⟩ A hA
    obtain ⟨hj, rfl⟩ := web3 hd
    refine ⟨rfl, rfl, ?_⟩
    refine ⟨_, rfl, for_inv (fun _ ρ => ∃ o3 o4, ρ = [some (webW w'), some (.int (j : Int)), some (rowW (row w' j)), o3, o4]) ⟨_, _, rfl⟩ ?_ ?_⟩
    · rintro k d' _ hk ⟨o5, o6, rfl⟩ A' hA'
      obtain ⟨y, hy, rfl⟩ := enumD_get hk
      obtain ⟨x, hx, rfl⟩ := map_get hy
      have hk' : k < (row w' j).length := (List.getElem?_eq_some_iff.mp hx).1
      refine ⟨rfl, rfl, ?_⟩
      refine ⟨_, rfl, _, rfl, _, rfl, ?_⟩
      have ec : cutD ((row w' j).map natD) none (some (k : Int)) = ((row w' j).take k).map natD := by rw [cutD_take _ _ (by simp; omega), List.map_take]
      refine (?_ : dIn false (natD x) (.lst (cutD ((row w' j).map natD) none (some (k : Int)))) _)
      rw [ec]
      refine ⟨rfl, flat_nat _, _, rfl, ?_⟩
      have e : inD (natD x) (((row w' j).take k).map natD) = false := by
        rw [inD_nat, decide_eq_false]
        intro z
        obtain ⟨m, hm⟩ := List.getElem?_of_mem z
        have hm' : m < k := by
          have := (List.getElem?_eq_some_iff.mp hm).1
          rw [List.length_take] at this; omega
        rw [List.getElem?_take_of_lt hm'] at hm
        exact absurd ((List.getElem?_inj (by omega) (g.nod j)).mp (hm.trans hx.symm)) (by omega)
      rw [if_neg Bool.false_ne_true, e]
      exact iteF (hA' _ ⟨_, _, rfl⟩)
    · rintro _ ⟨o5, o6, rfl⟩
      exact hA _ ⟨_, _, _, _, rfl⟩
  · rintro _ ⟨o1, o2, o3, o4, rfl⟩
    exact q
theorem ok_lone_fault {P : Program} {w : World} {mg : Str → Option Value} {base : Heap} {Z : DC} (T : Txt Z mg) : FnOk P w Z.K mg base CX0 1 T.d_lone_fault.f T.d_lone_fault.fd ["rows"] (liftSp Z spNone) := by
  have nd := sc_lone_fault.nd
  refine fn_data T.d_lone_fault.F sc_lone_fault [0, 0, 0, 0] (by decide) (fun ds R h => by obtain ⟨_, rfl, _⟩ := h; rfl) (fun cdv A outer s H E ds R hr h => ?_)
  have hu := hr.units
  refine ⟨_, (dss_cons (ds_for rfl PassesOwn.never (di_enum rfl T.B.enumerate (da_cons (de_var 0) da_nil)) (dt_tup 2 rfl (dts_cons (dt_name 1 nd) (dts_cons (dt_name 2 nd) dts_nil'))) (dss_one (ds_for rfl PassesOwn.never (di_list (de_var 2)) (dt_name 3 nd) (dss_one (ds_if (dt_cmp od_notin (de_var 1) (de_ix (de_var 0) (de_var 3)) (by with_unfolding_all rfl)) (dss_one (ds_ret (de_tup (da_cons de_str (da_cons (de_var 1) (da_cons (de_var 3) da_nil)))))) dss_nil)))))
      (dss_one (ds_ret de_non))), ?_⟩
  obtain ⟨w', rfl, g, h1, h14, q⟩ := h
  refine ⟨_, rfl, for_inv (fun _ ρ => ∃ o1 o2 o3, ρ = [some (webW w'), o1, o2, o3]) ⟨_, _, _, rfl⟩ ?_ ?_⟩
  · rintro j d _ hd ⟨o1, o2, o3, rfl⟩ A hA
    obtain ⟨hj, rfl⟩ := web3 hd
    refine ⟨rfl, rfl, ?_⟩
    refine ⟨_, rfl, for_inv (fun _ ρ => ∃ o3, ρ = [some (webW w'), some (.int (j : Int)), some (rowW (row w' j)), o3]) ⟨_, rfl⟩ ?_ ?_⟩
    · rintro k d' _ hk ⟨o4, rfl⟩ A' hA'
      obtain ⟨x, hx, rfl⟩ := map_get hk
      have hxj := List.mem_of_getElem? hx
      have hlt : x < w'.length := g.rng _ _ hxj
      refine ⟨_, rfl, _, rfl, _, rfl, _, atI_natD (web_row hlt), rfl, flat_nat _, _, rfl, ?_⟩
      have e : inD (.int (j : Int)) ((row w' x).map natD) = true := by
        have := inD_nat (r := row w' x) (p := j)
        rw [decide_eq_true (g.sym _ _ hxj)] at this
        exact this
      rw [if_pos rfl, e]
      exact iteF (hA' _ ⟨_, rfl⟩)
    · rintro _ ⟨o4, rfl⟩
      exact hA _ ⟨_, _, _, rfl⟩
  · rintro _ ⟨o1, o2, o3, rfl⟩
    exact q
def blD (bs : List Bool) : List D := bs.map D.bl
theorem blD_get {bs : List Bool} {i : Nat} {b : Bool} (h : bs[i]? = some b) : (blD bs)[i]? = some (.bl b) := by unfold blD; rw [List.getElem?_map, h]; rfl
theorem blD_set (bs : List Bool) (i : Nat) (b : Bool) : (blD bs).set i (.bl b) = blD (bs.set i b) := by unfold blD; rw [List.map_set]
theorem blD_len (bs : List Bool) : (blD bs).length = bs.length := List.length_map _
theorem ixN_natD {n k : Nat} (h : k < n) : ixN n (k : Int) = some k := by unfold ixN; rw [if_pos (by omega), if_pos (by omega)]; simp
def spReached : DSp := fun ds P => ∃ (w : W), ds = [webW w] ∧ Good w ∧ 1 ≤ w.length ∧ w.length ≤ 14 ∧ P (.lst (blD (List.replicate w.length true)))
theorem ok_reached_from_first {P : Program} {w : World} {mg : Str → Option Value} {base : Heap} {Z : DC} (T : Txt Z mg) : FnOk P w Z.K mg base CX0 1 T.d_reached_from_first.f T.d_reached_from_first.fd ["rows"] (liftSp Z spReached) := by
  have nd := sc_reached_from_first.nd
  refine fn_data T.d_reached_from_first.F sc_reached_from_first [0, 1, 1, 0, 0] (by decide) (fun ds R h => by obtain ⟨_, rfl, _⟩ := h; rfl) (fun cdv A outer s H E ds R hr h => ?_)
  have hu := hr.units
  refine ⟨_, (dss_cons (ds_newlc 1 (NC := ["row"]) (src := [none]) rfl nd (CompOk.of (defScope s_reached_from_first) rfl rfl (by decide +kernel) (by decide +kernel) (by decide +kernel)) trivial (di_list (de_var 0)) (fun _ _ _ => (dg_name 0 (show (["row"] : List Str).Nodup from by decide +kernel))) (fun _ _ _ => dts_nil) (fun _ _ _ => de_bl))
      (dss_cons (ds_setix false 1 de_int de_bl)
      (dss_cons (ds_new 2 nd (df_lst (da_cons de_int da_nil)))
      (dss_cons (ds_while PassesOwn.never (dt_tru (de_var 2)) (dss_cons (ds_pop 3 2 nd)
      (dss_one (ds_for rfl PassesOwn.never (di_list (de_ix (de_var 0) (de_var 3))) (dt_name 4 nd) (dss_one (ds_if (dt_not (dt_tru (de_ix (de_var 1) (de_var 4)))) (dss_cons (ds_setix false 1 (de_var 4) de_bl)
      (dss_one (ds_app false 2 (de_var 4)))) dss_nil))))))
      (dss_one (ds_ret (de_var 1))))))), ?_⟩
  obtain ⟨w', rfl, g, h1, h14, q⟩ := h
  refine ⟨_, rfl, lc_all (ρ := [none]) rowW (fun _ => .bl false) w' _ (fun y hy Y h => h) rfl (small (by omega)) fun ρ' => ?_⟩
  have e0 : w'.map (fun _ => D.bl false) = blD (List.replicate w'.length false) := by unfold blD; rw [List.map_replicate, List.map_const']
  rw [e0]
  refine ⟨trivial, _, rfl, 0, 0, rfl, by rw [blD_len, List.length_replicate]; exact ixN_natD (k := 0) (by omega), ?_⟩
  rw [blD_set]
  refine ⟨by show 1 ≤ sizeLine; decide, ?_⟩
  refine while_inv (fun m ρ => ∃ (bs : List Bool) (ws : List Nat) (o3 o4 : Option D), ρ = [some (webW w'), some (.lst (blD bs)), some (.lst (ws.map natD)), o3, o4] ∧ RI w' bs ws [] m ∧ m ≤ 14 ∧ bs.count false + ws.length = m) w'.length ?_ ?_
  · refine ⟨_, [0], none, none, rfl, ⟨by simp, ?_, ?_, fun x hx => ?_, ?_⟩, h14, ?_⟩
    · rw [List.getElem?_set, if_pos rfl, if_pos (by rw [List.length_replicate]; omega)]
    · intro x hx
      have : x = 0 := by simpa using hx
      rw [this, List.getElem?_set, if_pos rfl, if_pos (by rw [List.length_replicate]; omega)]
    · by_cases e : 0 = x
      · exact .inl (by rw [← e]; simp)
      · rw [List.getElem?_set, if_neg e, List.getElem?_replicate] at hx
        split at hx <;> cases hx
    · rw [List.count_set (by rw [List.length_replicate]; omega), List.count_replicate_self, List.getElem_replicate]
      simp
      omega
    · rw [List.count_set (by rw [List.length_replicate]; omega), List.count_replicate_self, List.getElem_replicate]
      simp
      omega
  · rintro m _ ⟨bs, ws, o3, o4, rfl, ri, hc, hcn⟩
    refine ⟨_, rfl, rfl, ?_⟩
    rcases List.eq_nil_or_concat ws with rfl | ⟨ws', p, e⟩
    · refine iteF ?_
      have e := ri.all g
      rw [← e] at q
      exact ⟨_, rfl, q⟩
    · rw [List.concat_eq_append] at e
      subst e
      rw [show truD (.lst ((ws' ++ [p]).map natD)) = true by simp [truD]]
      refine iteT ?_
      rw [List.length_append] at hcn
      simp only [List.length_singleton] at hcn
      obtain ⟨c', rfl⟩ : ∃ c', m = c' + 1 := ⟨m - 1, by omega⟩
      have ri2 := ri.pop
      have hp : bs[p]? = some true := ri.wt p (by simp)
      have hpw : p < w'.length := by rw [← ri.len]; exact (List.getElem?_eq_some_iff.mp hp).1
      refine ⟨ws'.map natD, natD p, by rw [List.map_append]; rfl, ?_⟩
      refine ⟨_, rfl, _, rfl, _, atI_natD (web_row hpw), for_inv (fun j ρ => ∃ (bs1 : List Bool) (ws1 : List Nat) (o4 : Option D), ρ = [some (webW w'), some (.lst (blD bs1)), some (.lst (ws1.map natD)), some (natD p), o4] ∧ RI w' bs1 ws1 [p] c' ∧ (∀ k y, k < j → (row w' p)[k]? = some y → bs1[y]? = some true) ∧ bs1.count false + ws1.length = c') ?_ ?_ ?_⟩
      · exact ⟨bs, ws', _, rfl, ri2, (fun k n hk => by omega), by omega⟩
      · rintro j x _ hx ⟨bs1, ws1, o5, rfl, ri6, don6, cn6⟩ A hA
        obtain ⟨n, hn, rfl⟩ := map_get hx
        have hnw := g.rng _ _ (List.mem_of_getElem? hn)
        have hnb : n < bs1.length := by rw [ri6.len]; exact hnw
        have hbn : bs1[n]? = some (bs1[n]) := List.getElem?_eq_getElem hnb
        refine ⟨_, rfl, _, rfl, _, atI_natD (blD_get hbn), rfl, ?_⟩
        generalize bs1[n] = bn at hbn
        cases bn with
        | true =>
          refine iteF (hA _ ⟨bs1, ws1, _, rfl, ri6, fun k y hk hy => ?_, cn6⟩)
          by_cases e : k = j
          · rw [e, hn] at hy; cases hy; exact hbn
          · exact don6 k y (by omega) hy
        | false =>
          refine iteT ?_
          refine ⟨trivial, _, rfl, _, rfl, _, n, rfl, by rw [blD_len]; exact ixN_natD hnb, ?_⟩
          rw [blD_set]
          have ri7 := ri6.push hbn
          have cnt7 := ri7.cnt
          refine ⟨_, rfl, _, rfl, trivial, small1000 (by rw [List.length_map]; omega), ?_⟩
          have er : ws1.map natD ++ [natD n] = (ws1 ++ [n]).map natD := by rw [List.map_append]; rfl
          rw [er]
          refine hA _ ⟨bs1.set n true, ws1 ++ [n], _, rfl, ri7, fun k y hk hy => ?_, ?_⟩
          · rw [List.getElem?_set]
            by_cases e : n = y
            · rw [if_pos e, if_pos hnb]
            · rw [if_neg e]
              refine don6 k y ?_ hy
              apply Classical.byContradiction
              intro z
              have : k = j := by omega
              rw [this, hn] at hy; cases hy; exact e rfl
          · obtain ⟨hl, he⟩ := List.getElem?_eq_some_iff.mp hbn
            have : 0 < bs1.count false := List.count_pos_iff.mpr (by rw [← he]; exact List.getElem_mem hl)
            rw [List.count_set hl, he, List.length_append]
            simp
            omega
      · rintro _ ⟨bs1, ws1, o5, rfl, ri6, don6, cn6⟩
        have ri7 := ri6.close fun y hy => by
          obtain ⟨k, hk⟩ := List.getElem?_of_mem hy
          exact don6 k y (by rw [List.length_map]; exact (List.getElem?_eq_some_iff.mp hk).1) hk
        exact ⟨c', by omega, bs1, ws1, _, _, rfl, ri7, by omega, cn6⟩
theorem ok_apart_fault {P : Program} {w : World} {mg : Str → Option Value} {base : Heap} {Z : DC} (T : Txt Z mg) : FnOk P w Z.K mg base CX0 2 T.d_apart_fault.f T.d_apart_fault.fd ["rows"] (liftSp Z spNone) := by
  have g_reached_from_first := ok_reached_from_first (P := P) (w := w) (base := base) T
  have nd := sc_apart_fault.nd
  refine fn_data T.d_apart_fault.F sc_apart_fault [0, 0, 0] (by decide) (fun ds R h => by obtain ⟨_, rfl, _⟩ := h; rfl) (fun cdv A outer s H E ds R hr h => ?_)
  have hu := hr.units
  refine ⟨_, (dss_cons (ds_for rfl PassesOwn.never (di_enum rfl T.B.enumerate (da_cons (de_call g_reached_from_first (hr.mono (by decide)) rfl T.d_reached_from_first.m T.d_reached_from_first.F.kp T.d_reached_from_first.b (da_cons (de_var 0) da_nil)) da_nil)) (dt_tup 2 rfl (dts_cons (dt_name 1 nd) (dts_cons (dt_name 2 nd) dts_nil'))) (dss_one (ds_if (dt_not (dt_tru (de_var 2))) (dss_one (ds_ret (de_tup (da_cons de_str (da_cons de_int (da_cons (de_var 1) da_nil)))))) dss_nil)))
      (dss_one (ds_ret de_non))), ?_⟩
  obtain ⟨w', rfl, g, h1, h14, q⟩ := h
  refine ⟨_, rfl, w', rfl, g, h1, h14, for_inv (fun _ ρ => ∃ o1 o2, ρ = [some (webW w'), o1, o2]) ⟨_, _, rfl⟩ ?_ ?_⟩
  · rintro j d _ hd ⟨o1, o2, rfl⟩ A hA
    obtain ⟨y, hy, rfl⟩ := enumD_get hd
    have ey : y = .bl true := by
      obtain ⟨b, hb, rfl⟩ := map_get hy
      have := List.mem_of_getElem? hb
      rw [List.mem_replicate] at this
      rw [this.2]
    subst ey
    refine ⟨rfl, rfl, ?_⟩
    exact ⟨_, rfl, rfl, iteF (hA _ ⟨_, _, rfl⟩)⟩
  · rintro _ ⟨o1, o2, rfl⟩
    exact q
theorem ok_first_fault {P : Program} {w : World} {mg : Str → Option Value} {base : Heap} {Z : DC} (T : Txt Z mg) : FnOk P w Z.K mg base CX0 3 T.d_first_fault.f T.d_first_fault.fd ["rows"] (liftSp Z spNone) := by
  have g_alien_fault := ok_alien_fault (P := P) (w := w) (base := base) T
  have g_apart_fault := ok_apart_fault (P := P) (w := w) (base := base) T
  have g_lone_fault := ok_lone_fault (P := P) (w := w) (base := base) T
  have g_self_fault := ok_self_fault (P := P) (w := w) (base := base) T
  have g_twice_fault := ok_twice_fault (P := P) (w := w) (base := base) T
  have nd := sc_first_fault.nd
  refine fn_data T.d_first_fault.F sc_first_fault [0, 0] (by decide) (fun ds R h => by obtain ⟨_, rfl, _⟩ := h; rfl) (fun cdv A outer s H E ds R hr h => ?_)
  have hu := hr.units
  refine ⟨_, (dss_cons (ds_set false 1 nd (de_call g_alien_fault (hr.mono (by decide)) rfl T.d_alien_fault.m T.d_alien_fault.F.kp T.d_alien_fault.b (da_cons (de_var 0) da_nil)))
      (dss_cons (ds_if (dt_cmp od_is (de_var 1) de_non (nomark _)) (dss_one (ds_set false 1 nd (de_call g_self_fault (hr.mono (by decide)) rfl T.d_self_fault.m T.d_self_fault.F.kp T.d_self_fault.b (da_cons (de_var 0) da_nil)))) dss_nil)
      (dss_cons (ds_if (dt_cmp od_is (de_var 1) de_non (nomark _)) (dss_one (ds_set false 1 nd (de_call g_twice_fault (hr.mono (by decide)) rfl T.d_twice_fault.m T.d_twice_fault.F.kp T.d_twice_fault.b (da_cons (de_var 0) da_nil)))) dss_nil)
      (dss_cons (ds_if (dt_cmp od_is (de_var 1) de_non (nomark _)) (dss_one (ds_set false 1 nd (de_call g_lone_fault (hr.mono (by decide)) rfl T.d_lone_fault.m T.d_lone_fault.F.kp T.d_lone_fault.b (da_cons (de_var 0) da_nil)))) dss_nil)
      (dss_cons (ds_if (dt_cmp od_is (de_var 1) de_non (nomark _)) (dss_one (ds_set false 1 nd (de_call g_apart_fault (hr.mono (by decide)) rfl T.d_apart_fault.m T.d_apart_fault.F.kp T.d_apart_fault.b (da_cons (de_var 0) da_nil)))) dss_nil)
      (dss_one (ds_ret (de_var 1)))))))), ?_⟩
  obtain ⟨w', rfl, g, h1, h14, q⟩ := h
  have no : ∀ (u : DTS) (E : DEnds) (ρ : DN) (te : DTE), ρ[1]? = some (some .non) → E.nx ρ → dIfS (dTest (dOp (dIsN false) (dVar 1) (dC .non))) u dNext E ρ → True := fun _ _ _ _ _ _ _ => trivial
  refine ⟨_, rfl, w', rfl, g, h1, h14, trivial, ?_⟩
  refine ⟨_, rfl, _, rfl, iteT ⟨_, rfl, w', rfl, g, h1, h14, trivial, ?_⟩⟩
  refine ⟨_, rfl, _, rfl, iteT ⟨_, rfl, w', rfl, g, h1, h14, trivial, ?_⟩⟩
  refine ⟨_, rfl, _, rfl, iteT ⟨_, rfl, w', rfl, g, h1, h14, trivial, ?_⟩⟩
  refine ⟨_, rfl, _, rfl, iteT ⟨_, rfl, w', rfl, g, h1, h14, trivial, ?_⟩⟩
  exact ⟨_, rfl, q⟩
theorem ok_Web___init__ {P : Program} {w : World} {mg : Str → Option Value} {base : Heap} {Z : DC} (T : Txt Z mg) : FnOk P w Z.K mg base CX0 4 T.i_f T.i_fd ["self", "turns"] (spInitD Z) := by
  have g_first_fault := ok_first_fault (P := P) (w := w) (base := base) T
  have nd := sc_Web___init__.nd
  refine T.i_F.ok sc_Web___init__ (fun vs H Q E h => ?_) (fun cdv A outer s H vs Q E hr h => ?_)
  · obtain ⟨p, dx, v, G, w', rfl, _⟩ := h; rfl
  obtain ⟨p, dx, v, G, w', rfl, hp, sG, gp, dv, g, h1, h14, q⟩ := h
  have hu := hr.units
  refine ⟨_, pss_cons (t := liftS Z [0, 0, 0, 0] 0 _)
      (ds_if (dt_not (dt_chain od_le od_le de_int (de_callB cd_len rfl T.B.len bd_len (da_cons (de_var 1) da_nil)) (de_globI rfl T.c_MOST_POINTS))) (dss_one ds_never) dss_nil)
    (pss_cons (t := liftS Z [0, 0, 0, 0] 0 _)
      (ds_setlc 2 (NC := ["row"]) (src := [none]) rfl nd (CompOk.of (defScope s_Web___init__) rfl rfl (by decide +kernel) (by decide +kernel) (by decide +kernel)) trivial (di_list (de_var 1)) (fun _ _ _ => (dg_name 0 (show (["row"] : List Str).Nodup from by decide +kernel))) (fun _ _ _ => dts_nil) (fun _ _ _ => (de_callTy cd_list rfl T.B.list bd_list (da_cons (de_var 0) da_nil))))
    (pss_cons (t := liftS Z [0, 0, 0, 0] 0 _)
      (ds_set false 3 nd (de_call g_first_fault (hr.mono (by decide)) rfl T.d_first_fault.m T.d_first_fault.F.kp T.d_first_fault.b (da_cons (de_var 2) da_nil)))
    (pss_cons (t := liftS Z [0, 0, 0, 0] 0 _)
      (ds_if (dt_cmp od_isnot (de_var 3) de_non (nomark _)) (dss_one ds_never) dss_nil)
    (pss_one (ps_fld (pv 0) (pv 2) rfl))))), ?_⟩
  have lw : (w'.map rowW).length = w'.length := List.length_map _
  refine ⟨⟨G, H, G⟩, [some (.obj p), some (webW w'), none, none], { nx := fun ρ => ρ = [some (.obj p), some (webW w'), none, none], rt := fun _ => False }, ⟨G, fun _ => [], ?_⟩, ?_, ⟨?_, fun _ z => z.elim, fun _ z => z.elim, fun _ z => z.elim⟩⟩
  · refine ⟨.refl sG, .refl _, rfl, fun i d hi => ?_, fun _ => List.nodup_nil, (fun _ _ _ _ z => by cases z), (fun _ _ z => by cases z)⟩
    match i, hi with
    | 0, hi => cases hi; exact ⟨_, rfl, .obj p, rfl⟩
    | 1, hi => cases hi; exact ⟨_, rfl, dv, rfl⟩
    | 2, hi => cases hi
    | 3, hi => cases hi
    | i + 4, hi => cases hi
  · have e1 : D.bl (decide ((1 : Int) ≤ ((w'.map rowW).length : Int))) = .bl true := congrArg D.bl (decide_eq_true (by rw [lw]; omega))
    have e2 : D.bl (decide (((w'.map rowW).length : Int) ≤ 14)) = .bl true := congrArg D.bl (decide_eq_true (by rw [lw]; omega))
    exact ⟨_, rfl, true, e1, iteT ⟨true, e2, iteF rfl⟩⟩
  rintro _ rfl σ1 H1 S1
  refine ⟨⟨G, H, G⟩, _, { nx := fun ρ => ρ = [some (.obj p), some (webW w'), some (webW w'), none], rt := fun _ => False }, S1, ?_, ⟨?_, fun _ z => z.elim, fun _ z => z.elim, fun _ z => z.elim⟩⟩
  · exact ⟨_, rfl, lc_all (ρ := [none]) rowW rowW w' _ (fun y hy Y h => ⟨_, rfl, h⟩) rfl (small (by omega)) fun ρ' => ⟨trivial, rfl⟩⟩
  rintro _ rfl σ2 H2 S2
  refine ⟨⟨G, H, G⟩, _, { nx := fun ρ => ρ = [some (.obj p), some (webW w'), some (webW w'), some .non], rt := fun _ => False }, S2, ?_, ⟨?_, fun _ z => z.elim, fun _ z => z.elim, fun _ z => z.elim⟩⟩
  · exact ⟨_, rfl, w', rfl, g, h1, h14, trivial, rfl⟩
  rintro _ rfl σ3 H3 S3
  refine ⟨⟨G, H, G⟩, _, { nx := fun ρ => ρ = [some (.obj p), some (webW w'), some (webW w'), some .non], rt := fun _ => False }, S3, ?_, ⟨?_, fun _ z => z.elim, fun _ z => z.elim, fun _ z => z.elim⟩⟩
  · exact ⟨_, rfl, _, rfl, iteF rfl⟩
  rintro _ rfl σ4 H4 ⟨G4, fp, S4⟩
  obtain ⟨v0, hv0, o0⟩ := S4.at_ 0 _ rfl
  obtain ⟨v2, hv2, o2⟩ := S4.at_ 2 _ rfl
  obtain ⟨d0, _⟩ := o0
  obtain ⟨d2, _⟩ := o2
  cases d0
  have d2' := d2
  cases d2 with
  | @lst R xs ds hR e =>
    have hp4 := S4.ex.hh _ _ hp
    refine ⟨_, hv2, _, hv0, p, Z.C, dx, [], rfl, hp4, T.W.cl, T.W.nR, by decide, ?_⟩
    have g4 : G4 p = none := S4.ex.off p (by show H p ≠ none; rw [hp]; exact fun z => nomatch z) gp
    refine q R G4 _ S4.ex.gg (fun b o eb => ?_) (fun b o eb nb => ?_) S4.ex.off upd_same d2'
    · rw [upd_ne (ne_of_none eb g4)]; exact S4.ex.sub _ _ eb
    · rw [upd_ne nb]; exact S4.ex.hh _ _ eb
def spTurns : DSp := fun ds P => ∃ (w : W), ds = [.web w] ∧ w.length ≤ 14 ∧ P (webW w)
theorem ok_Web_turns {P : Program} {w : World} {mg : Str → Option Value} {base : Heap} {Z : DC} (T : Txt Z mg) : FnOk P w Z.K mg base CX0 1 T.m_turns.f T.m_turns.fd ["self"] (liftSp Z spTurns) := by
  have nd := sc_Web_turns.nd
  refine fn_data T.m_turns.F sc_Web_turns [0] (by decide) (fun ds R h => by obtain ⟨_, rfl, _⟩ := h; rfl) (fun cdv A outer s H E ds R hr h => ?_)
  have hu := hr.units
  refine ⟨_, (dss_one (ds_ret (de_lc (NC := ["row"]) (src := [none]) rfl (CompOk.of (defScope s_Web_turns) rfl rfl (by decide +kernel) (by decide +kernel) (by decide +kernel)) trivial (di_list (de_rows T.W (de_var 0))) (fun _ _ _ => (dg_name 0 (show (["row"] : List Str).Nodup from by decide +kernel))) (fun _ _ _ => dts_nil) (fun _ _ _ => (de_callTy cd_list rfl T.B.list bd_list (da_cons (de_var 0) da_nil)))))), ?_⟩
  obtain ⟨w', rfl, h14, q⟩ := h
  exact ⟨_, rfl, w', rfl, lc_all (ρ := [none]) rowW rowW w' _ (fun y hy Y h => ⟨_, rfl, h⟩) rfl (small (by omega)) fun ρ' => q⟩
end K33

set_option linter.all false
set_option maxRecDepth 100000
/-! rings: what is within -/
namespace Wb
theorem succR_app {a b : List Nat} {x y : Nat} (nd : (a ++ x :: y :: b).Nodup) : succR (a ++ x :: y :: b) x = y := by
  have hx : x ∉ a := fun h => by
    have := (List.nodup_append.mp nd).2.2 x h x (List.mem_cons_self ..)
    exact this rfl
  have e : (a ++ x :: y :: b).idxOf x = a.length := by
    rw [List.idxOf_append, if_neg hx, List.idxOf_cons_self]; simp
  unfold succR
  rw [e, Nat.mod_eq_of_lt (by simp), List.getD_eq_getElem?_getD, List.getElem?_append_right (by omega)]
  simp
theorem succR_last {b : List Nat} {x y : Nat} (nd : (y :: (b ++ [x])).Nodup) : succR (y :: (b ++ [x])) x = y := by
  have hx : x ∉ y :: b := fun h => by
    have h2 : (y :: b ++ [x]).Nodup := nd
    exact (List.nodup_append.mp h2).2.2 x h x (by simp) rfl
  have e : (y :: (b ++ [x])).idxOf x = b.length + 1 := by
    show (y :: b ++ [x]).idxOf x = _
    rw [List.idxOf_append, if_neg hx]; simp
  unfold succR
  rw [e]
  have : (b.length + 1 + 1) % (y :: (b ++ [x])).length = 0 := by simp
  rw [this]; rfl
/-- as a ring: begun elsewhere, the same -/
theorem succR_rot {a b : List Nat} {x : Nat} (nd : (a ++ b).Nodup) (h : x ∈ a ++ b) : succR (b ++ a) x = succR (a ++ b) x := by
  have nd' : (b ++ a).Nodup := (List.perm_append_comm.nodup_iff).mp nd
  obtain ⟨u, v, e⟩ := List.append_of_mem h
  -- a ++ b = u ++ x :: v
  cases v with
  | cons y v =>
    rw [e, succR_app (e ▸ nd)]
    -- x y next to each other in a ++ b
    rcases List.append_eq_append_iff.mp e with ⟨c, h1, h2⟩ | ⟨c, h1, h2⟩
    · -- u = a ++ c, b = c ++ x :: y :: v
      rw [h2, show c ++ x :: y :: v ++ a = c ++ x :: y :: (v ++ a) by simp]
      refine succR_app ?_
      rw [h2] at nd'
      simpa using nd'
    · -- a = u ++ c, x :: y :: v = c ++ b
      cases c with
      | nil =>
        have hb : b = x :: y :: v := by simpa using h2.symm
        rw [hb, show x :: y :: v ++ a = [] ++ x :: y :: (v ++ a) by simp]
        refine succR_app ?_
        rw [hb] at nd'
        simpa using nd'
      | cons z c =>
        have hz : x = z ∧ y :: v = c ++ b := by simpa using h2
        obtain ⟨rfl, h3⟩ := hz
        cases c with
        | nil =>
          have hb : b = y :: v := by simpa using h3.symm
          rw [h1, hb, show y :: v ++ (u ++ [x]) = y :: ((v ++ u) ++ [x]) by simp]
          refine succR_last ?_
          rw [h1, hb] at nd'
          simpa using nd'
        | cons z c =>
          have hz : y = z ∧ v = c ++ b := by simpa using h3
          obtain ⟨rfl, rfl⟩ := hz
          rw [h1, show b ++ (u ++ x :: y :: c) = (b ++ u) ++ x :: y :: c by simp]
          refine succR_app ?_
          rw [h1] at nd'
          simpa using nd'
  | nil =>
    -- x is the last of a ++ b
    cases b with
    | nil => simp
    | cons y b =>
      rcases List.eq_nil_or_concat b with rfl | ⟨b', z, rfl⟩
      · -- b = [y], x = y
        have : a = u ∧ y = x := by
          have := List.append_inj' e rfl
          exact ⟨this.1, by simpa using this.2⟩
        obtain ⟨rfl, rfl⟩ := this
        cases a with
        | nil => rfl
        | cons t a =>
          have e1 : succR (t :: a ++ [y]) y = t := succR_last (b := a) nd
          rw [e1]
          show succR ([] ++ y :: t :: a) y = t
          exact succR_app (by simpa using nd')
      · have hx : z = x := by
          rw [List.concat_eq_append] at e
          have e : (a ++ y :: b') ++ [z] = u ++ [x] := by simpa using e
          exact by simpa using (List.append_inj' e rfl).2
        subst hx
        rw [List.concat_eq_append] at nd nd' ⊢
        cases a with
        | nil => simp
        | cons t a =>
          have e1 : succR (t :: a ++ y :: (b' ++ [z])) z = t := by
            have := succR_last (y := t) (b := a ++ y :: b') (x := z) (by simpa using nd)
            simpa using this
          have e2 : succR (y :: (b' ++ [z]) ++ t :: a) z = t := by
            have := succR_app (a := y :: b') (x := z) (y := t) (b := a) (by simpa using nd')
            simpa using this
          rw [e1, e2]
/-! ### what is within a ring -/
structure Disc (w : W) (R : List Nat) (A : Nat × Nat → Prop) : Prop where
  nd : R.Nodup
  len : 3 ≤ R.length
  dart : ∀ d, A d → Dart w d
  face : ∀ d, Dart w d → (A d ↔ A (nxt w d))
  tri : ∀ d, A d → nxt w (nxt w (nxt w d)) = d
  ring : ∀ p ∈ R, Dart w (succR R p, p) ∧ A (succR R p, p) ∧ ¬ A (p, succR R p)
  sym : ∀ p q, Dart w (p, q) → ¬ (p ∈ R ∧ q = succR R p) → ¬ (q ∈ R ∧ p = succR R q) → (A (p, q) ↔ A (q, p))
/-- the ties at v, from one to another, in the turned order -/
structure Fan (w : W) (v : Nat) (m : Nat) (y : Nat → Nat) : Prop where
  on : ∀ k, k < m → succR (row w v) (y k) = y (k + 1)
  mem : ∀ k, k ≤ m → y k ∈ row w v
  inj : ∀ i j, i ≤ m → j ≤ m → y i = y j → i = j
  pos : 1 ≤ m
/-- v, its next and its last in the ring, and the ties between -/
structure At (w : W) (R : List Nat) (v : Nat) (m : Nat) (y : Nat → Nat) : Prop where
  fan : Fan w v m y
  vm : v ∈ R
  nx : y 0 = succR R v
  pm : y m ∈ R
  pv : succR R (y m) = v
theorem succR_ix {l : List Nat} {i : Nat} (nd : l.Nodup) (h : i + 1 < l.length) : succR l (l.getD i 0) = l.getD (i + 1) 0 := by
  have e : l.getD i 0 = l[i] := by rw [List.getD_eq_getElem?_getD, List.getElem?_eq_getElem (by omega)]; rfl
  unfold succR
  rw [e, nd.idxOf_getElem i (by omega), Nat.mod_eq_of_lt h]
theorem succR_end {l : List Nat} {i : Nat} (nd : l.Nodup) (h : i + 1 = l.length) : succR l (l.getD i 0) = l.getD 0 0 := by
  have e : l.getD i 0 = l[i] := by rw [List.getD_eq_getElem?_getD, List.getElem?_eq_getElem (by omega)]; rfl
  unfold succR
  rw [e, nd.idxOf_getElem i (by omega), h, Nat.mod_self]
section
variable {w : W} {R : List Nat} {A : Nat × Nat → Prop} {v m : Nat} {y : Nat → Nat}
theorem At.ne (g : Good w) (F : At w R v m y) {k : Nat} (hk : k ≤ m) : y k ≠ v := fun e => g.irr v (by have := F.fan.mem k hk; rw [e] at this; exact this)
theorem At.dart (g : Good w) (F : At w R v m y) {k : Nat} (hk : k ≤ m) : Dart w (y k, v) := g.sym _ _ (F.fan.mem k hk)
theorem At.nxt1 (F : At w R v m y) {k : Nat} (hk : k < m) : nxt w (y k, v) = (v, y (k + 1)) := by
  show (v, succR (row w v) (y k)) = _
  rw [F.fan.on k hk]
theorem At.ym (D : Disc w R A) (F : At w R v m y) {k : Nat} (hk : k ≤ m) (hR : y k ∈ R) (e : v = succR R (y k)) : k = m := by
  have := F.pv
  rw [e] at this
  exact F.fan.inj k m hk (Nat.le_refl _) (succR_inj D.nd hR F.pm this.symm)
theorem At.y0 (F : At w R v m y) {k : Nat} (hk : k ≤ m) (e : y k = succR R v) : k = 0 := F.fan.inj k 0 hk (Nat.zero_le _) (by rw [e, F.nx])
theorem At.inA (g : Good w) (D : Disc w R A) (F : At w R v m y) : ∀ k, k < m → A (y k, v) ∧ A (v, y (k + 1))
  | 0, h => by
    have a : A (y 0, v) := by rw [F.nx]; exact (D.ring v F.vm).2.1
    refine ⟨a, ?_⟩
    have := (D.face _ (F.dart g (Nat.zero_le _))).mp a
    rw [F.nxt1 h] at this
    exact this
  | k + 1, h => by
    have ih := (F.inA g D k (by omega)).2
    have a : A (y (k + 1), v) := by
      refine (D.sym v (y (k + 1)) (F.fan.mem (k + 1) (by omega)) (fun z => ?_) (fun z => ?_)).mp ih
      · have := F.y0 (by omega) z.2; omega
      · have := F.ym D (by omega) z.1 z.2; omega
    refine ⟨a, ?_⟩
    have := (D.face _ (F.dart g (by omega))).mp a
    rw [F.nxt1 h] at this
    exact this
theorem At.nxt2 (g : Good w) (D : Disc w R A) (F : At w R v m y) {k : Nat} (hk : k < m) : nxt w (v, y (k + 1)) = (y (k + 1), y k) ∧ nxt w (y (k + 1), y k) = (y k, v) ∧ A (y (k + 1), y k) := by
  have a := F.inA g D k hk
  have t := D.tri _ a.1
  rw [F.nxt1 hk] at t
  have e : nxt w (v, y (k + 1)) = (y (k + 1), y k) := by
    have h1 : (nxt w (nxt w (v, y (k + 1)))).1 = y k := by rw [t]
    show (y (k + 1), succR (row w (y (k + 1))) v) = _
    exact congrArg (Prod.mk _) h1
  refine ⟨e, by rw [e] at t; exact t, ?_⟩
  have := (D.face _ (D.dart _ a.2)).mp a.2
  rw [e] at this
  exact this
/-- the triangles at v, between -/
def TriAt (v m : Nat) (y : Nat → Nat) (d : Nat × Nat) : Prop := ∃ k, k < m ∧ (d = (y k, v) ∨ d = (v, y (k + 1)) ∨ d = (y (k + 1), y k))
theorem At.triF (g : Good w) (D : Disc w R A) (F : At w R v m y) {d : Nat × Nat} (hd : Dart w d) : TriAt v m y d ↔ TriAt v m y (nxt w d) := by
  constructor
  · rintro ⟨k, hk, h⟩
    have b := F.nxt2 g D hk
    refine ⟨k, hk, ?_⟩
    rcases h with rfl | rfl | rfl
    · rw [F.nxt1 hk]; exact .inr (.inl rfl)
    · rw [b.1]; exact .inr (.inr rfl)
    · rw [b.2.1]; exact .inl rfl
  · rintro ⟨k, hk, h⟩
    have b := F.nxt2 g D hk
    have a := F.inA g D k hk
    refine ⟨k, hk, ?_⟩
    rcases h with h | h | h
    · exact .inr (.inr (nxt_inj g hd (D.dart _ b.2.2) (by rw [h, b.2.1])))
    · exact .inl (nxt_inj g hd (D.dart _ a.1) (by rw [h, F.nxt1 hk]))
    · exact .inr (.inl (nxt_inj g hd (D.dart _ a.2) (by rw [h, b.1])))
/-! ### a ring made less -/
def lessR (pre : List Nat) (m : Nat) (y : Nat → Nat) : List Nat := pre ++ (List.range m).map fun i => y (m - i)
theorem lessR_len (pre : List Nat) (m : Nat) (y : Nat → Nat) : (lessR pre m y).length = pre.length + m := by unfold lessR; simp
theorem lessR_lo {pre : List Nat} {m i : Nat} {y : Nat → Nat} (h : i < pre.length) : (lessR pre m y).getD i 0 = pre.getD i 0 := by
  unfold lessR
  rw [List.getD_eq_getElem?_getD, List.getElem?_append_left h, ← List.getD_eq_getElem?_getD]
theorem lessR_hi {pre : List Nat} {m i : Nat} {y : Nat → Nat} (h : i < m) : (lessR pre m y).getD (pre.length + i) 0 = y (m - i) := by
  unfold lessR
  rw [List.getD_eq_getElem?_getD, List.getElem?_append_right (by omega), show pre.length + i - pre.length = i by omega, List.getElem?_map, List.getElem?_range h]; rfl
theorem lessR_mem {pre : List Nat} {m p : Nat} {y : Nat → Nat} : p ∈ lessR pre m y ↔ p ∈ pre ∨ ∃ k, 1 ≤ k ∧ k ≤ m ∧ p = y k := by
  unfold lessR
  rw [List.mem_append, List.mem_map]
  constructor
  · rintro (h | ⟨i, hi, rfl⟩)
    · exact .inl h
    · have := List.mem_range.mp hi
      exact .inr ⟨m - i, by omega, by omega, rfl⟩
  · rintro (h | ⟨k, h1, h2, rfl⟩)
    · exact .inl h
    · exact .inr ⟨m - k, List.mem_range.mpr (by omega), by rw [show m - (m - k) = k by omega]⟩
theorem made_less (g : Good w) (D : Disc w R A) (F : At w R v m y) {pre : List Nat} (hR : R = pre ++ [y m, v]) (h0 : pre.getD 0 0 = y 0) (hp : pre ≠ []) (hin : ∀ k, 0 < k → k < m → y k ∉ R) (hl : 3 ≤ pre.length + m) :
    Disc w (lessR pre m y) fun d => A d ∧ ¬ TriAt v m y d := by
  have ndR := D.nd
  have lR : R.length = pre.length + 2 := by rw [hR]; simp
  have ppos : 0 < pre.length := List.length_pos_iff.mpr hp
  have preR : ∀ p ∈ pre, p ∈ R := fun p h => by rw [hR]; exact List.mem_append_left _ h
  have ndp : pre.Nodup := by rw [hR] at ndR; exact (List.nodup_append.mp ndR).1
  have pv : ∀ p ∈ pre, p ≠ v ∧ p ≠ y m := fun p h => by
    rw [hR] at ndR
    have := (List.nodup_append.mp ndR).2.2 p h
    exact ⟨this v (by simp), this (y m) (by simp)⟩
  have m0 : y 0 ∈ pre := by
    rw [← h0, List.getD_eq_getElem?_getD, List.getElem?_eq_getElem ppos]; exact List.getElem_mem ppos
  have out : ∀ k, 1 ≤ k → k ≤ m → y k ∉ pre := fun k h1 h2 hk => by
    by_cases e : k = m
    · subst e; exact (pv _ hk).2 rfl
    · exact hin k (by omega) (by omega) (preR _ hk)
  have nd2 : (lessR pre m y).Nodup := by
    unfold lessR
    refine List.nodup_append.mpr ⟨ndp, ?_, fun a ha b hb e => ?_⟩
    · unfold List.Nodup
      rw [List.pairwise_map]
      refine List.Pairwise.imp_of_mem (fun {i j} hi hj h e => ?_) List.nodup_range
      have := List.mem_range.mp hi
      have := List.mem_range.mp hj
      have := F.fan.inj (m - i) (m - j) (by omega) (by omega) e
      omega
    · obtain ⟨i, hi, rfl⟩ := List.mem_map.mp hb
      have := List.mem_range.mp hi
      subst e
      exact out (m - i) (by omega) (by omega) ha
  have getR : ∀ i, i < pre.length → R.getD i 0 = pre.getD i 0 := fun i hi => by
    rw [hR, List.getD_eq_getElem?_getD, List.getElem?_append_left hi, ← List.getD_eq_getElem?_getD]
  have getR1 : R.getD pre.length 0 = y m := by
    rw [hR, List.getD_eq_getElem?_getD, List.getElem?_append_right (Nat.le_refl _)]; simp
  -- next ones
  have sPre : ∀ p ∈ pre, succR (lessR pre m y) p = succR R p := fun p h => by
    obtain ⟨i, hi, rfl⟩ := List.mem_iff_getElem.mp h
    have e : pre[i] = pre.getD i 0 := by rw [List.getD_eq_getElem?_getD, List.getElem?_eq_getElem hi]; rfl
    have l1 : succR R (R.getD i 0) = R.getD (i + 1) 0 := succR_ix ndR (by omega)
    have mp := F.fan.pos
    have l2 : succR (lessR pre m y) ((lessR pre m y).getD i 0) = (lessR pre m y).getD (i + 1) 0 := succR_ix nd2 (by rw [lessR_len]; omega)
    rw [getR i hi] at l1
    rw [lessR_lo hi] at l2
    rw [e, l1, l2]
    by_cases c : i + 1 < pre.length
    · rw [lessR_lo c, getR _ c]
    · have c : i + 1 = pre.length := by omega
      have := lessR_hi (pre := pre) (y := y) (m := m) (i := 0) (by omega)
      rw [c, getR1]
      simpa using this
  have sY : ∀ k, 1 ≤ k → k ≤ m → succR (lessR pre m y) (y k) = y (k - 1) := fun k h1 h2 => by
    have e1 := lessR_hi (pre := pre) (y := y) (m := m) (i := m - k) (by omega)
    rw [show m - (m - k) = k by omega] at e1
    rw [← e1]
    by_cases c : k = 1
    · rw [succR_end nd2 (by rw [lessR_len]; omega), lessR_lo ppos, h0, c]
    · rw [succR_ix nd2 (by rw [lessR_len]; omega)]
      have e2 := lessR_hi (pre := pre) (y := y) (m := m) (i := m - k + 1) (by omega)
      rw [show pre.length + (m - k) + 1 = pre.length + (m - k + 1) by omega, e2, show m - (m - k + 1) = k - 1 by omega]
  -- if y 0 and y m stand next to each other in R, it is a ring of three
  have three : m = 1 → succR R (y 0) ≠ y 1 := fun hm e => by
    have e0 : R.getD 0 0 = y 0 := by rw [getR 0 ppos, h0]
    have s0 := succR_ix ndR (i := 0) (by omega)
    rw [e0, e] at s0
    by_cases c : 1 < pre.length
    · rw [getR 1 c] at s0
      have : y 1 ∈ pre := by rw [s0, List.getD_eq_getElem?_getD, List.getElem?_eq_getElem c]; exact List.getElem_mem c
      exact out 1 (by omega) (by omega) this
    · omega
  have symY : ∀ k, 1 ≤ k → k ≤ m → A (y (k - 1), y k) := fun k h1 h2 => by
    have b := F.nxt2 g D (k := k - 1) (by omega)
    rw [show k - 1 + 1 = k by omega] at b
    have inn : ∀ i, i ≤ m → y i ∈ R → i = 0 ∨ i = m := fun i hi h => by
      by_cases c : 0 < i ∧ i < m
      · exact absurd h (hin i c.1 c.2)
      · omega
    refine (D.sym _ _ (D.dart _ b.2.2) (fun z => ?_) (fun z => ?_)).mp b.2.2
    · have r2 : y (k - 1) ∈ R := by rw [z.2]; exact succR_mem z.1
      have i1 := inn k h2 z.1
      have i2 := inn (k - 1) (by omega) r2
      have hm : m = 1 := by omega
      have hk : k = 1 := by omega
      subst hk
      have e := z.2
      have p := F.pv
      rw [hm] at p
      rw [p] at e
      exact F.ne g (k := 0) (Nat.zero_le _) e
    · have r2 : y k ∈ R := by rw [z.2]; exact succR_mem z.1
      have i1 := inn k h2 r2
      have i2 := inn (k - 1) (by omega) z.1
      have hm : m = 1 := by omega
      have hk : k = 1 := by omega
      subst hk
      exact three hm z.2.symm
  refine ⟨nd2, by rw [lessR_len]; exact hl, fun d h => D.dart d h.1, fun d hd => ?_, fun d h => D.tri d h.1, fun p hp' => ?_, fun p q hd n1 n2 => ?_⟩
  · rw [D.face d hd, F.triF g D hd]
  · rcases lessR_mem.mp hp' with h | ⟨k, h1, h2, rfl⟩
    · rw [sPre p h]
      have r := D.ring p (preR p h)
      refine ⟨r.1, ⟨r.2.1, ?_⟩, fun z => r.2.2 z.1⟩
      rintro ⟨k, hk, e | e | e⟩
      · exact (pv p h).1 (congrArg Prod.snd e)
      · have : succR R p = v := congrArg Prod.fst e
        have e2 := congrArg Prod.snd e
        exact out (k + 1) (by omega) (by omega) (by rw [← (show p = y (k + 1) from e2)]; exact h)
      · have e1 : succR R p = y (k + 1) := congrArg Prod.fst e
        have e2 : p = y k := congrArg Prod.snd e
        have k0 : k = 0 := by
          by_cases c : k = 0
          · exact c
          · exact absurd (e2 ▸ h) (out k (by omega) (by omega))
        subst k0
        have : y 1 ∈ R := by rw [← (show succR R p = y 1 from e1)]; exact succR_mem (preR p h)
        have hm : m = 1 := by
          by_cases c : 1 < m
          · exact absurd this (hin 1 (by omega) c)
          · omega
        rw [e2] at e1
        exact three hm e1
    · rw [sY k h1 h2]
      have a := symY k h1 h2
      refine ⟨D.dart _ a, ⟨a, ?_⟩, fun z => z.2 ⟨k - 1, by omega, .inr (.inr (by rw [show k - 1 + 1 = k by omega]))⟩⟩
      rintro ⟨j, hj, e | e | e⟩
      · exact F.ne g (k := k) h2 (congrArg Prod.snd e)
      · exact F.ne g (k := k - 1) (by omega) (congrArg Prod.fst e)
      · have e1 := F.fan.inj (k - 1) (j + 1) (by omega) (by omega) (congrArg Prod.fst e)
        have e2 := F.fan.inj k j (by omega) (by omega) (congrArg Prod.snd e)
        omega
  · -- ties that are not of the lesser ring
    have one : ∀ p q, Dart w (p, q) → ¬ (p ∈ lessR pre m y ∧ q = succR (lessR pre m y) p) → ¬ (q ∈ lessR pre m y ∧ p = succR (lessR pre m y) q) → (A (p, q) ∧ ¬ TriAt v m y (p, q)) → (A (q, p) ∧ ¬ TriAt v m y (q, p)) := by
      intro p q hd n1 n2 ⟨a, nt⟩
      have r1 : ¬ (p ∈ R ∧ q = succR R p) := fun z => (D.ring p z.1).2.2 (by rw [← z.2]; exact a)
      have r2 : ¬ (q ∈ R ∧ p = succR R q) := fun z => by
        have hq := z.1
        rw [hR] at hq
        rcases List.mem_append.mp hq with h | h
        · exact n2 ⟨lessR_mem.mpr (.inl h), by rw [sPre q h]; exact z.2⟩
        · have h : q = y m ∨ q = v := by simpa using h
          rcases h with rfl | rfl
          · have : p = v := by rw [z.2]; exact F.pv
            subst this
            exact nt ⟨m - 1, by have := F.fan.pos; omega, .inr (.inl (by rw [show m - 1 + 1 = m by have := F.fan.pos; omega]))⟩
          · have : p = y 0 := by rw [z.2, F.nx]
            subst this
            exact nt ⟨0, F.fan.pos, .inl rfl⟩
      refine ⟨(D.sym p q hd r1 r2).mp a, ?_⟩
      rintro ⟨k, hk, e | e | e⟩
      · have e1 : q = y k := congrArg Prod.fst e
        have e2 : p = v := congrArg Prod.snd e
        subst e1 e2
        by_cases c : k = 0
        · subst c; exact r1 ⟨F.vm, F.nx⟩
        · exact nt ⟨k - 1, by omega, .inr (.inl (by rw [show k - 1 + 1 = k by omega]))⟩
      · have e1 : q = v := congrArg Prod.fst e
        have e2 : p = y (k + 1) := congrArg Prod.snd e
        subst e1 e2
        by_cases c : k + 1 = m
        · exact r1 ⟨by rw [c]; exact F.pm, by rw [c]; exact F.pv.symm⟩
        · exact nt ⟨k + 1, by omega, .inl rfl⟩
      · have e1 : q = y (k + 1) := congrArg Prod.fst e
        have e2 : p = y k := congrArg Prod.snd e
        subst e1 e2
        exact n2 ⟨lessR_mem.mpr (.inr ⟨k + 1, by omega, by omega, rfl⟩), by rw [sY (k + 1) (by omega) (by omega)]; rfl⟩
    exact ⟨one p q hd n1 n2, one q p (g.sym _ _ hd) n2 n1⟩
end
end Wb

set_option linter.all false
set_option maxRecDepth 100000
/-! rings parted by a chord -/
namespace Wb
theorem Disc.rot {w : W} {a b : List Nat} {A : Nat × Nat → Prop} (D : Disc w (a ++ b) A) : Disc w (b ++ a) A := by
  have mem : ∀ p, p ∈ b ++ a ↔ p ∈ a ++ b := fun p => List.perm_append_comm.mem_iff
  have s : ∀ p, p ∈ b ++ a → succR (b ++ a) p = succR (a ++ b) p := fun p h => succR_rot D.nd ((mem p).mp h)
  refine ⟨(List.perm_append_comm.nodup_iff).mp D.nd, by have := D.len; simp at this ⊢; omega, D.dart, D.face, D.tri, fun p hp => ?_, fun p q hd n1 n2 => ?_⟩
  · rw [s p hp]; exact D.ring p ((mem p).mp hp)
  · refine D.sym p q hd (fun z => n1 ⟨(mem p).mpr z.1, ?_⟩) (fun z => n2 ⟨(mem q).mpr z.1, ?_⟩)
    · rw [s p ((mem p).mpr z.1)]; exact z.2
    · rw [s q ((mem q).mpr z.1)]; exact z.2
/-! ### the whole turn at a point of the ring -/
def rotA (l : List Nat) (a : Nat) : List Nat := l.drop (l.idxOf a) ++ l.take (l.idxOf a)
theorem rotA_perm (l : List Nat) (a : Nat) : (rotA l a).Perm l := by
  unfold rotA
  exact List.perm_append_comm.trans (by rw [List.take_append_drop])
theorem rotA_len (l : List Nat) (a : Nat) : (rotA l a).length = l.length := (rotA_perm l a).length_eq
theorem rotA_succ {l : List Nat} {a x : Nat} (nd : l.Nodup) (hx : x ∈ l) : succR (rotA l a) x = succR l x := by
  unfold rotA
  have e : l.take (l.idxOf a) ++ l.drop (l.idxOf a) = l := List.take_append_drop _ _
  have := succR_rot (a := l.take (l.idxOf a)) (b := l.drop (l.idxOf a)) (x := x) (by rw [e]; exact nd) (by rw [e]; exact hx)
  rw [this, e]
theorem rotA_zero {l : List Nat} {a : Nat} (h : a ∈ l) : (rotA l a).getD 0 0 = a := by
  have hl := List.idxOf_lt_length_iff.mpr h
  unfold rotA
  rw [List.getD_eq_getElem?_getD, List.getElem?_append_left (by rw [List.length_drop]; omega), List.getElem?_drop, Nat.add_zero, List.getElem?_eq_getElem hl, List.getElem_idxOf hl]; rfl
theorem getD_inj {l : List Nat} (nd : l.Nodup) {i j : Nat} (hi : i < l.length) (hj : j < l.length) (e : l.getD i 0 = l.getD j 0) : i = j := by
  have ei : l.getD i 0 = l[i] := by rw [List.getD_eq_getElem?_getD, List.getElem?_eq_getElem hi]; rfl
  have ej : l.getD j 0 = l[j] := by rw [List.getD_eq_getElem?_getD, List.getElem?_eq_getElem hj]; rfl
  rw [ei, ej] at e
  have h1 := nd.idxOf_getElem i hi
  have h2 := nd.idxOf_getElem j hj
  rw [e, h2] at h1
  exact h1.symm
theorem getD_memL {l : List Nat} {i : Nat} (h : i < l.length) : l.getD i 0 ∈ l := by
  rw [List.getD_eq_getElem?_getD, List.getElem?_eq_getElem h]; exact List.getElem_mem h
theorem pred_ex {R : List Nat} {x : Nat} (nd : R.Nodup) (h : x ∈ R) : ∃ b, b ∈ R ∧ succR R b = x := by
  obtain ⟨i, hi, rfl⟩ := List.mem_iff_getElem.mp h
  have e : R[i] = R.getD i 0 := by rw [List.getD_eq_getElem?_getD, List.getElem?_eq_getElem hi]; rfl
  by_cases c : i = 0
  · subst c
    exact ⟨R.getD (R.length - 1) 0, getD_memL (by omega), by rw [succR_end nd (by omega), e]⟩
  · refine ⟨R.getD (i - 1) 0, getD_memL (by omega), ?_⟩
    rw [succR_ix nd (by omega), show i - 1 + 1 = i by omega, e]
/-- at v: the whole turn, begun at the ring's next point; place m is the ring's last one -/
structure Whole (w : W) (R : List Nat) (v m L : Nat) (y : Nat → Nat) : Prop where
  at_ : At w R v m y
  lt : m < L
  on : ∀ k, k + 1 < L → succR (row w v) (y k) = y (k + 1)
  all : ∀ z, z ∈ row w v → ∃ k, k < L ∧ y k = z
  inj : ∀ i j, i < L → j < L → y i = y j → i = j
  mem : ∀ k, k < L → y k ∈ row w v
section
variable {w : W} {R : List Nat} {A : Nat × Nat → Prop}
theorem whole_ex (g : Good w) (D : Disc w R A) {v : Nat} (hv : v ∈ R) {b : Nat} (hb : b ∈ R) (eb : succR R b = v) :
    Whole w R v ((rotA (row w v) (succR R v)).idxOf b) (row w v).length fun k => (rotA (row w v) (succR R v)).getD k 0 := by
  have a := (D.ring v hv).1
  have am : succR R v ∈ row w v := g.sym _ _ a
  have bm : b ∈ row w v := by
    have := (D.ring b hb).1
    rw [eb] at this
    exact this
  have ndr := g.nod v
  have nd' : (rotA (row w v) (succR R v)).Nodup := (rotA_perm _ _).nodup_iff.mpr ndr
  have ll := rotA_len (row w v) (succR R v)
  have memr : ∀ z, z ∈ rotA (row w v) (succR R v) ↔ z ∈ row w v := fun z => (rotA_perm _ _).mem_iff
  have bl := List.idxOf_lt_length_iff.mpr ((memr b).mpr bm)
  have gb : (rotA (row w v) (succR R v)).getD ((rotA (row w v) (succR R v)).idxOf b) 0 = b := by
    rw [List.getD_eq_getElem?_getD, List.getElem?_eq_getElem bl, List.getElem_idxOf bl]; rfl
  have on : ∀ k, k + 1 < (row w v).length → succR (row w v) ((rotA (row w v) (succR R v)).getD k 0) = (rotA (row w v) (succR R v)).getD (k + 1) 0 := fun k hk => by
    rw [← rotA_succ (a := succR R v) ndr ((memr _).mp (getD_memL (by omega)))]
    exact succR_ix nd' (by omega)
  have mem : ∀ k, k < (row w v).length → (rotA (row w v) (succR R v)).getD k 0 ∈ row w v := fun k hk => (memr _).mp (getD_memL (by omega))
  have inj : ∀ i j, i < (row w v).length → j < (row w v).length → (rotA (row w v) (succR R v)).getD i 0 = (rotA (row w v) (succR R v)).getD j 0 → i = j := fun i j hi hj e => getD_inj nd' (by omega) (by omega) e
  have hne : succR R v ≠ b := by
    intro e
    -- v -> b -> v : a ring of two
    have h1 := D.len
    obtain ⟨i, hi, rfl⟩ := List.mem_iff_getElem.mp hv
    have ei : R[i] = R.getD i 0 := by rw [List.getD_eq_getElem?_getD, List.getElem?_eq_getElem hi]; rfl
    rw [← e, ei] at eb
    by_cases c : i + 1 < R.length
    · rw [succR_ix D.nd c] at eb
      by_cases c2 : i + 2 < R.length
      · rw [succR_ix D.nd c2] at eb
        have := getD_inj D.nd (by omega) (by omega) eb; omega
      · rw [succR_end D.nd (by omega)] at eb
        have := getD_inj D.nd (by omega) (by omega) eb; omega
    · rw [succR_end D.nd (by omega), succR_ix D.nd (by omega)] at eb
      have := getD_inj D.nd (by omega) (by omega) eb; omega
  have h0 := rotA_zero am
  refine ⟨⟨⟨fun k hk => on k (by omega), fun k hk => mem k (by omega), fun i j hi hj e => inj i j (by omega) (by omega) e, ?_⟩, hv, h0, by rw [gb]; exact hb, by rw [gb]; exact eb⟩, by omega, on, fun z hz => ?_, inj, mem⟩
  · apply Classical.byContradiction
    intro c
    have c : (rotA (row w v) (succR R v)).idxOf b = 0 := by omega
    rw [c, h0] at gb
    exact hne gb
  · have zl := List.idxOf_lt_length_iff.mpr ((memr z).mpr hz)
    exact ⟨(rotA (row w v) (succR R v)).idxOf z, by omega, by rw [List.getD_eq_getElem?_getD, List.getElem?_eq_getElem zl, List.getElem_idxOf zl]; rfl⟩
/-- beyond the ring's last point no tie is within -/
theorem Whole.out (g : Good w) (D : Disc w R A) {v m L : Nat} {y : Nat → Nat} (F : Whole w R v m L y) : ∀ k, m + k < L → 1 ≤ k → ¬ A (v, y (m + k))
  | 0, _, h => by omega
  | k + 1, hk, _ => by
    have d : Dart w (y (m + k), v) := g.sym _ _ (F.mem _ (by omega))
    have e : nxt w (y (m + k), v) = (v, y (m + (k + 1))) := by
      show (v, succR (row w v) (y (m + k))) = _
      rw [F.on _ (by omega)]; rfl
    have nA : ¬ A (y (m + k), v) := by
      by_cases c : k = 0
      · subst c
        have := (D.ring (y m) F.at_.pm).2.2
        rw [F.at_.pv] at this
        exact this
      · intro a
        refine F.out g D k (by omega) (by omega) ((D.sym v (y (m + k)) (F.mem _ (by omega)) (fun z => ?_) (fun z => ?_)).mpr a)
        · have := F.inj (m + k) 0 (by omega) (by omega) (by rw [z.2, F.at_.nx]); omega
        · have := F.at_.pv
          have e2 := succR_inj D.nd z.1 F.at_.pm (by rw [this]; exact z.2.symm)
          have := F.inj (m + k) m (by omega) (by omega) e2; omega
    intro a
    rw [← e] at a
    exact nA ((D.face _ d).mpr a)
/-- a tie within at v stands between -/
theorem Whole.between (g : Good w) (D : Disc w R A) {v m L : Nat} {y : Nat → Nat} (F : Whole w R v m L y) {z : Nat} (hz : A (v, z)) : ∃ k, 1 ≤ k ∧ k ≤ m ∧ y k = z := by
  obtain ⟨k, hk, rfl⟩ := F.all z (D.dart _ hz)
  refine ⟨k, ?_, ?_, rfl⟩
  · apply Classical.byContradiction
    intro c
    have c : k = 0 := by omega
    subst c
    rw [F.at_.nx] at hz
    exact (D.ring v F.at_.vm).2.2 hz
  · apply Classical.byContradiction
    intro c
    have := F.out g D (k - m) (by omega) (by omega)
    rw [show m + (k - m) = k by omega] at this
    exact this hz
/-! ### what bounds -/
def adj (C : List Nat) (x y : Nat) : Prop := x ∈ C ∧ y = succR C x
structure Bd (w : W) (C : List Nat) (S : Nat × Nat → Prop) : Prop where
  face : ∀ d, Dart w d → (S d ↔ S (nxt w d))
  no : ∀ x y, Dart w (x, y) → ¬ adj C x y → ¬ adj C y x → (S (x, y) ↔ S (y, x))
  yes : ∀ x y, Dart w (x, y) → adj C x y ∨ adj C y x → (S (x, y) ↔ ¬ S (y, x))
theorem Bd.neg {C : List Nat} {S : Nat × Nat → Prop} (B : Bd w C S) : Bd w C fun d => ¬ S d :=
  ⟨fun d h => not_congr (B.face d h), fun x y h a b => not_congr (B.no x y h a b), fun x y h a => not_congr (B.yes x y h a)⟩
/-- along a part of the turn without ties of C -/
theorem Whole.seg (g : Good w) {v m L : Nat} {y : Nat → Nat} (F : Whole w R v m L y) {C : List Nat} {S : Nat × Nat → Prop} (B : Bd w C S) {i : Nat} : ∀ n, i + n + 1 < L → (∀ k, i < k → k ≤ i + n → ¬ adj C v (y k) ∧ ¬ adj C (y k) v) → (S (y i, v) ↔ S (v, y (i + n + 1)))
  | 0, h, _ => by
    have d : Dart w (y i, v) := g.sym _ _ (F.mem _ (by omega))
    have e : nxt w (y i, v) = (v, y (i + 0 + 1)) := by
      show (v, succR (row w v) (y i)) = _
      rw [F.on _ (by omega)]
    rw [B.face _ d, e]
  | n + 1, h, q => by
    have ih := F.seg g B n (by omega) fun k h1 h2 => q k h1 (by omega)
    have c := q (i + n + 1) (by omega) (by omega)
    have s := B.no v (y (i + n + 1)) (F.mem _ (by omega)) c.1 c.2
    have d : Dart w (y (i + n + 1), v) := g.sym _ _ (F.mem _ (by omega))
    have e : nxt w (y (i + n + 1), v) = (v, y (i + (n + 1) + 1)) := by
      show (v, succR (row w v) (y (i + n + 1))) = _
      rw [F.on _ (by omega)]; rfl
    rw [ih, s, B.face _ d, e]
theorem succR_pre {a b : List Nat} {z x : Nat} (nd : (a ++ [z] ++ b).Nodup) (hx : x ∈ a) : succR (a ++ [z] ++ b) x = succR (a ++ [z]) x := by
  have nd1 : (a ++ [z]).Nodup := (List.nodup_append.mp nd).1
  obtain ⟨i, hi, rfl⟩ := List.mem_iff_getElem.mp hx
  have e1 : (a ++ [z] ++ b).getD i 0 = a[i] := by
    rw [List.getD_eq_getElem?_getD, List.append_assoc, List.getElem?_append_left hi, List.getElem?_eq_getElem hi]; rfl
  have e2 : (a ++ [z]).getD i 0 = a[i] := by
    rw [List.getD_eq_getElem?_getD, List.getElem?_append_left hi, List.getElem?_eq_getElem hi]; rfl
  have h1 := succR_ix (i := i) nd (by simp; omega)
  have h2 := succR_ix (i := i) nd1 (by simp; omega)
  rw [e1] at h1
  rw [e2] at h2
  rw [h1, h2, List.getD_eq_getElem?_getD, List.getElem?_append_left (by simp; omega), ← List.getD_eq_getElem?_getD]
theorem parted (g : Good w) (D : Disc w R A) {p q : Nat} {B C : List Nat} (hR : R = p :: (B ++ q :: C)) (hB : B ≠ []) (hC : C ≠ []) (ch : A (p, q)) {S : Nat × Nat → Prop} (bd : Bd w (p :: (B ++ [q])) S) (hs : S (succR R p, p)) :
    Disc w (p :: (B ++ [q])) (fun d => A d ∧ S d) ∧ Disc w (q :: (C ++ [p])) (fun d => A d ∧ ¬ S d) := by
  have ndR := D.nd
  have hR1 : R = (p :: B) ++ [q] ++ C := by rw [hR]; simp
  have hR2 : R = (p :: B) ++ (q :: C) := by rw [hR]; simp
  have ndr : ((q :: C) ++ [p] ++ B).Nodup := by
    have : ((q :: C) ++ (p :: B)).Nodup := List.perm_append_comm.nodup_iff.mp (hR2 ▸ ndR)
    simpa using this
  have nd1 : ((p :: B) ++ [q]).Nodup := by rw [hR1] at ndR; exact (List.nodup_append.mp ndR).1
  have nd2 : ((q :: C) ++ [p]).Nodup := (List.nodup_append.mp ndr).1
  have sp : ∀ x ∈ p :: B, succR (p :: (B ++ [q])) x = succR R x := fun x hx => by
    have := succR_pre (a := p :: B) (b := C) (z := q) (hR1 ▸ ndR) hx
    rw [hR1, this]; rfl
  have sq : ∀ x ∈ q :: C, succR (q :: (C ++ [p])) x = succR R x := fun x hx => by
    have h1 := succR_pre (a := q :: C) (b := B) (z := p) ndr hx
    have h2 := succR_rot (a := p :: B) (b := q :: C) (x := x) (hR2 ▸ ndR) (List.mem_append_right _ hx)
    rw [← hR2] at h2
    rw [← h2]
    have e : (q :: C) ++ [p] ++ B = (q :: C) ++ (p :: B) := by simp
    rw [e] at h1
    exact h1.symm
  have s1q : succR (p :: (B ++ [q])) q = p := succR_last nd1
  have s2p : succR (q :: (C ++ [p])) p = q := succR_last nd2
  have disj : ∀ x, x ∈ p :: B → x ∉ q :: C := fun x h1 h2 => by
    rw [hR2] at ndR
    exact (List.nodup_append.mp ndR).2.2 x h1 x h2 rfl
  have mR : ∀ x, x ∈ R ↔ x ∈ p :: B ∨ x ∈ q :: C := fun x => by rw [hR2, List.mem_append]
  have m1 : ∀ x, x ∈ p :: (B ++ [q]) ↔ x ∈ p :: B ∨ x = q := fun x => by simp [or_assoc]
  have m2 : ∀ x, x ∈ q :: (C ++ [p]) ↔ x ∈ q :: C ∨ x = p := fun x => by simp [or_assoc]
  have pB : p ∉ B := by
    have := (List.nodup_append.mp nd1).1
    exact (List.nodup_cons.mp this).1
  have pq : p ≠ q := fun e => disj p (List.mem_cons_self ..) (e ▸ List.mem_cons_self ..)
  have spq : succR R p ∈ B := by
    obtain ⟨b, B', rfl⟩ := List.exists_cons_of_ne_nil hB
    have : succR R p = b := by
      rw [hR]
      exact succR_app (a := []) (b := B' ++ q :: C) (by rw [hR] at ndR; simpa using ndR)
    rw [this]; exact List.mem_cons_self ..
  have sqC : succR R q ∈ C := by
    obtain ⟨c, C', rfl⟩ := List.exists_cons_of_ne_nil hC
    have : succR R q = c := by
      rw [hR, show p :: (B ++ q :: c :: C') = (p :: B) ++ q :: c :: C' by simp]
      exact succR_app (by rw [hR] at ndR; simpa using ndR)
    rw [this]; exact List.mem_cons_self ..
  have qp : ¬ adj R q p := fun z => disj p (List.mem_cons_self ..) (by rw [z.2]; exact List.mem_cons_of_mem _ sqC)
  have pq' : ¬ adj R p q := fun z => disj q (by rw [z.2]; exact List.mem_cons_of_mem _ spq) (List.mem_cons_self ..)
  have chq : A (q, p) := (D.sym p q (D.dart _ ch) pq' qp).mp ch
  -- one point on
  have stepB : ∀ x b, x ∈ B → b ∈ R → succR R b = x → (S (succR R x, x) ↔ S (x, b)) := fun x b hx hb eb => by
    have hxR : x ∈ R := (mR x).mpr (.inl (List.mem_cons_of_mem _ hx))
    have F := whole_ex g D hxR hb eb
    generalize (rotA (row w x) (succR R x)).idxOf b = m at F
    generalize (fun k => (rotA (row w x) (succR R x)).getD k 0) = y at F
    have mp := F.at_.fan.pos
    have yb : y m = b := succR_inj D.nd F.at_.pm hb (by rw [F.at_.pv, eb])
    have := F.seg g bd (i := 0) (m - 1) (by have := F.lt; omega) fun k h1 h2 => ⟨fun z => ?_, fun z => ?_⟩
    · rw [F.at_.nx, show 0 + (m - 1) + 1 = m by omega, yb] at this
      exact this
    · have e := z.2
      rw [sp x (List.mem_cons_of_mem _ hx)] at e
      have := F.at_.y0 (by omega) e
      omega
    · have e := z.2
      rcases (m1 _).mp z.1 with h | h
      · rw [sp _ h] at e
        have := F.at_.ym D (by omega) ((mR _).mpr (.inl h)) e
        omega
      · rw [h, s1q] at e
        exact pB (e ▸ hx)
  have stepC : ∀ x b, x ∈ C → b ∈ R → succR R b = x → (S (succR R x, x) ↔ S (x, b)) := fun x b hx hb eb => by
    have hxR : x ∈ R := (mR x).mpr (.inr (List.mem_cons_of_mem _ hx))
    have xn : x ∉ p :: (B ++ [q]) := fun z => by
      rcases (m1 x).mp z with h | h
      · exact disj x h (List.mem_cons_of_mem _ hx)
      · subst h
        have := (List.nodup_append.mp nd2).1
        exact (List.nodup_cons.mp this).1 hx
    have F := whole_ex g D hxR hb eb
    generalize (rotA (row w x) (succR R x)).idxOf b = m at F
    generalize (fun k => (rotA (row w x) (succR R x)).getD k 0) = y at F
    have mp := F.at_.fan.pos
    have yb : y m = b := succR_inj D.nd F.at_.pm hb (by rw [F.at_.pv, eb])
    have := F.seg g bd (i := 0) (m - 1) (by have := F.lt; omega) fun k h1 h2 => ⟨fun z => xn z.1, fun z => xn (by rw [z.2]; exact succR_mem z.1)⟩
    rw [F.at_.nx, show 0 + (m - 1) + 1 = m by omega, yb] at this
    exact this
  have hpR : p ∈ R := (mR p).mpr (.inl (List.mem_cons_self ..))
  have atP : ∀ b, b ∈ R → succR R b = p → S (p, q) ∧ ¬ S (q, p) ∧ ¬ S (p, b) := fun b hb eb => by
    have F := whole_ex g D hpR hb eb
    generalize (rotA (row w p) (succR R p)).idxOf b = m at F
    generalize (fun k => (rotA (row w p) (succR R p)).getD k 0) = y at F
    have mp := F.at_.fan.pos
    have yb : y m = b := succR_inj D.nd F.at_.pm hb (by rw [F.at_.pv, eb])
    obtain ⟨j, j1, j2, yj⟩ := F.between g D ch
    have jm : j ≠ m := fun e => by
      rw [e, yb] at yj
      rw [yj] at eb
      exact disj p (List.mem_cons_self ..) (by rw [← eb]; exact List.mem_cons_of_mem _ sqC)
    have lt := F.lt
    have non : ∀ k, 0 < k → k < m → k ≠ j → ¬ adj (p :: (B ++ [q])) p (y k) ∧ ¬ adj (p :: (B ++ [q])) (y k) p := fun k h1 h2 h3 => ⟨fun z => by
      have e := z.2
      rw [sp p (List.mem_cons_self ..)] at e
      have := F.at_.y0 (by omega) e
      omega, fun z => by
      have e := z.2
      rcases (m1 _).mp z.1 with h | h
      · rw [sp _ h] at e
        have := F.at_.ym D (by omega) ((mR _).mpr (.inl h)) e
        omega
      · rw [← yj] at h
        exact h3 (F.inj k j (by omega) (by omega) h)⟩
    have g1 := F.seg g bd (i := 0) (j - 1) (by omega) fun k h1 h2 => non k h1 (by omega) (by omega)
    rw [F.at_.nx, show 0 + (j - 1) + 1 = j by omega, yj] at g1
    have s1 : S (p, q) := g1.mp hs
    have s2 : ¬ S (q, p) := (bd.yes p q (D.dart _ ch) (.inr ⟨(m1 q).mpr (.inr rfl), s1q.symm⟩)).mp s1
    have g2 := F.seg g bd (i := j) (m - j - 1) (by omega) fun k h1 h2 => non k (by omega) (by omega) (by omega)
    rw [yj, show j + (m - j - 1) + 1 = m by omega, yb] at g2
    exact ⟨s1, s2, fun z => s2 (g2.mpr z)⟩
  obtain ⟨bl, hbl, ebl⟩ := pred_ex D.nd hpR
  obtain ⟨sPQ, sQP, _⟩ := atP bl hbl ebl
  -- along the ring
  have lR : R.length = B.length + C.length + 2 := by rw [hR]; simp; omega
  have gB : ∀ i, 1 ≤ i → i ≤ B.length → R.getD i 0 ∈ B := fun i h1 h2 => by
    obtain ⟨k, rfl⟩ : ∃ k, i = k + 1 := ⟨i - 1, by omega⟩
    rw [hR, List.getD_cons_succ, List.getD_eq_getElem?_getD, List.getElem?_append_left (by omega), List.getElem?_eq_getElem (by omega)]
    exact List.getElem_mem _
  have gC : ∀ i, B.length + 2 ≤ i → i < R.length → R.getD i 0 ∈ C := fun i h1 h2 => by
    rw [show R = (p :: B ++ [q]) ++ C by rw [hR1], List.getD_eq_getElem?_getD, List.getElem?_append_right (by simp; omega), List.getElem?_eq_getElem (by simp; omega)]
    exact List.getElem_mem _
  have g0 : R.getD 0 0 = p := by rw [hR]; rfl
  have gq : R.getD (B.length + 1) 0 = q := by
    rw [hR, List.getD_cons_succ, List.getD_eq_getElem?_getD, List.getElem?_append_right (Nat.le_refl _)]; simp
  have gR : ∀ i, i < R.length → R.getD i 0 ∈ R := fun i h => getD_memL h
  have upB : ∀ i, i ≤ B.length → S (succR R (R.getD i 0), R.getD i 0) := by
    intro i
    induction i with
    | zero => intro _; rw [g0]; exact hs
    | succ i ih =>
      intro h
      have e := succR_ix D.nd (i := i) (by omega)
      have ih := ih (by omega)
      rw [e] at ih
      exact (stepB _ _ (gB (i + 1) (by omega) h) (gR i (by omega)) e).mpr ih
  have dnC : ∀ n i, i + n + 1 = R.length → B.length + 1 ≤ i → ¬ S (succR R (R.getD i 0), R.getD i 0) := by
    intro n
    induction n with
    | zero =>
      intro i h1 h2
      have e := succR_end D.nd (i := i) (by omega)
      rw [g0] at e
      rw [e]
      exact (atP _ (gR i (by omega)) e).2.2
    | succ n ih =>
      intro i h1 h2
      have e := succR_ix D.nd (i := i) (by omega)
      have ih := ih (i + 1) (by omega) (by omega)
      rw [e]
      exact fun z => ih ((stepC _ _ (gC (i + 1) (by omega) (by omega)) (gR i (by omega)) e).mpr z)
  have alB : ∀ x ∈ p :: B, S (succR R x, x) := fun x hx => by
    obtain ⟨i, hi, rfl⟩ := List.mem_iff_getElem.mp hx
    have e : R.getD i 0 = (p :: B)[i] := by rw [hR2, List.getD_eq_getElem?_getD, List.getElem?_append_left hi, List.getElem?_eq_getElem hi]; rfl
    have := upB i (by simp at hi; omega)
    rw [e] at this
    exact this
  have alC : ∀ x ∈ q :: C, ¬ S (succR R x, x) := fun x hx => by
    obtain ⟨i, hi, rfl⟩ := List.mem_iff_getElem.mp hx
    have e : R.getD (B.length + 1 + i) 0 = (q :: C)[i] := by
      rw [hR2, List.getD_eq_getElem?_getD, List.getElem?_append_right (by simp), show B.length + 1 + i - (p :: B).length = i by simp, List.getElem?_eq_getElem hi]; rfl
    have hi' : i < C.length + 1 := by simpa using hi
    have := dnC (R.length - (B.length + 1 + i) - 1) (B.length + 1 + i) (by omega) (by omega)
    rw [e] at this
    exact this
  have faceS : ∀ d, Dart w d → ((A d ∧ S d) ↔ (A (nxt w d) ∧ S (nxt w d))) := fun d hd => and_congr (D.face d hd) (bd.face d hd)
  have faceN : ∀ d, Dart w d → ((A d ∧ ¬ S d) ↔ (A (nxt w d) ∧ ¬ S (nxt w d))) := fun d hd => and_congr (D.face d hd) (not_congr (bd.face d hd))
  have lB := List.length_pos_iff.mpr hB
  have lC := List.length_pos_iff.mpr hC
  -- ties of the ring that the first part has not
  have offC : ∀ x ∈ q :: C, ¬ S (x, succR R x) ∧ ¬ S (succR R x, x) := fun x hx => by
    have a := alC x hx
    have hxR := (mR x).mpr (.inr hx)
    have d := (D.ring x hxR).1
    refine ⟨fun z => a ?_, a⟩
    refine (bd.no x (succR R x) (g.sym _ _ d) (fun z => ?_) (fun z => ?_)).mp z
    · rcases (m1 x).mp z.1 with h | h
      · exact disj x h hx
      · have e := z.2
        subst h
        rw [s1q] at e
        exact disj p (List.mem_cons_self ..) (by rw [← e]; exact List.mem_cons_of_mem _ sqC)
    · have e := z.2
      rcases (m1 _).mp z.1 with h | h
      · rw [sp _ h] at e
        -- x = succR (succR x), succR x in p :: B : then succR x = p
        have : succR R x ∈ q :: C ∨ succR R x = p := by
          rw [← sq x hx]
          have := succR_mem (l := q :: (C ++ [p])) (x := x) ((m2 x).mpr (.inl hx))
          exact (m2 _).mp this
        rcases this with h2 | h2
        · exact disj _ h h2
        · rw [h2] at e
          exact disj x (by rw [e]; exact List.mem_cons_of_mem _ spq) hx
      · rw [h, s1q] at e
        exact disj p (List.mem_cons_self ..) (e ▸ hx)
  refine ⟨⟨nd1, by simp; omega, fun d h => D.dart d h.1, faceS, fun d h => D.tri d h.1, fun x hx => ?_, fun x y hd n1 n2 => ?_⟩, ⟨nd2, by simp; omega, fun d h => D.dart d h.1, faceN, fun d h => D.tri d h.1, fun x hx => ?_, fun x y hd n1 n2 => ?_⟩⟩
  · rcases (m1 x).mp hx with h | rfl
    · rw [sp x h]
      have r := D.ring x ((mR x).mpr (.inl h))
      exact ⟨r.1, ⟨r.2.1, alB x h⟩, fun z => r.2.2 z.1⟩
    · rw [s1q]
      exact ⟨D.dart _ ch, ⟨ch, sPQ⟩, fun z => sQP z.2⟩
  · have sy := bd.no x y hd n1 n2
    by_cases c1 : adj R x y
    · obtain ⟨hx, rfl⟩ := c1
      rcases (mR x).mp hx with h | h
      · exact absurd ⟨(m1 x).mpr (.inl h), (sp x h).symm⟩ n1
      · exact ⟨fun z => absurd z.2 (offC x h).1, fun z => absurd z.2 (offC x h).2⟩
    · by_cases c2 : adj R y x
      · obtain ⟨hy, rfl⟩ := c2
        rcases (mR y).mp hy with h | h
        · exact absurd ⟨(m1 y).mpr (.inl h), (sp y h).symm⟩ n2
        · exact ⟨fun z => absurd z.2 (offC y h).2, fun z => absurd z.2 (offC y h).1⟩
      · exact and_congr (D.sym x y hd c1 c2) sy
  · rcases (m2 x).mp hx with h | rfl
    · rw [sq x h]
      have r := D.ring x ((mR x).mpr (.inr h))
      exact ⟨r.1, ⟨r.2.1, alC x h⟩, fun z => r.2.2 z.1⟩
    · rw [s2p]
      exact ⟨D.dart _ chq, ⟨chq, sQP⟩, fun z => z.2 sPQ⟩
  · have offB : ∀ x ∈ p :: B, ¬ (A (x, succR R x) ∧ ¬ S (x, succR R x)) ∧ ¬ (A (succR R x, x) ∧ ¬ S (succR R x, x)) := fun x hx =>
      ⟨fun z => (D.ring x ((mR x).mpr (.inl hx))).2.2 z.1, fun z => z.2 (alB x hx)⟩
    by_cases c1 : adj R x y
    · obtain ⟨hx, rfl⟩ := c1
      rcases (mR x).mp hx with h | h
      · exact ⟨fun z => absurd z (offB x h).1, fun z => absurd z (offB x h).2⟩
      · exact absurd ⟨(m2 x).mpr (.inl h), (sq x h).symm⟩ n1
    · by_cases c2 : adj R y x
      · obtain ⟨hy, rfl⟩ := c2
        rcases (mR y).mp hy with h | h
        · exact ⟨fun z => absurd z (offB y h).2, fun z => absurd z (offB y h).1⟩
        · exact absurd ⟨(m2 y).mpr (.inl h), (sq y h).symm⟩ n2
      · refine and_congr (D.sym x y hd c1 c2) (not_congr (bd.no x y hd (fun z => ?_) (fun z => ?_)))
        · rcases (m1 x).mp z.1 with h | rfl
          · exact c1 ⟨(mR x).mpr (.inl h), by rw [z.2, sp x h]⟩
          · have e := z.2
            rw [s1q] at e
            exact n2 ⟨(m2 y).mpr (.inr e), by rw [e, s2p]⟩
        · rcases (m1 y).mp z.1 with h | rfl
          · exact c2 ⟨(mR y).mpr (.inl h), by rw [z.2, sp y h]⟩
          · have e := z.2
            rw [s1q] at e
            exact n1 ⟨(m2 x).mpr (.inr e), by rw [e, s2p]⟩
end
end Wb

set_option linter.all false
set_option maxRecDepth 100000
/-! even sets of ties bound -/
namespace Wb
def par {α : Type} (f : α → Bool) : List α → Bool
  | [] => false
  | x :: l => (f x).xor (par f l)
theorem par_app {α : Type} (f : α → Bool) : ∀ l m : List α, par f (l ++ m) = (par f l).xor (par f m)
  | [], m => by simp [par]
  | x :: l, m => by rw [List.cons_append, par, par, par_app f l m, Bool.xor_assoc]
theorem par_xor {α : Type} (f g : α → Bool) : ∀ l : List α, par (fun x => (f x).xor (g x)) l = (par f l).xor (par g l)
  | [] => rfl
  | x :: l => by
    rw [par, par, par, par_xor f g l]
    cases f x <;> cases g x <;> cases par f l <;> cases par g l <;> rfl
theorem par_none {α : Type} {f : α → Bool} : ∀ {l : List α}, (∀ x ∈ l, f x = false) → par f l = false
  | [], _ => rfl
  | x :: l, h => by rw [par, h x (List.mem_cons_self ..), par_none fun y hy => h y (List.mem_cons_of_mem _ hy)]; rfl
theorem par_congr {α : Type} {f g : α → Bool} : ∀ {l : List α}, (∀ x ∈ l, f x = g x) → par f l = par g l
  | [], _ => rfl
  | x :: l, h => by rw [par, par, h x (List.mem_cons_self ..), par_congr fun y hy => h y (List.mem_cons_of_mem _ hy)]
theorem par_one {b : Bool} {a : Nat} : ∀ {l : List Nat}, l.Nodup → a ∈ l → par (fun x => decide (x = a) && b) l = b
  | [], _, h => by cases h
  | x :: l, nd, h => by
    obtain ⟨n1, n2⟩ := List.nodup_cons.mp nd
    rw [par]
    by_cases e : x = a
    · subst e
      rw [par_none fun y hy => by
        have : y ≠ x := fun z => n1 (z ▸ hy)
        simp [this]]
      simp
    · have : a ∈ l := by
        rcases List.mem_cons.mp h with z | z
        · exact absurd z.symm e
        · exact z
      rw [par_one n2 this]
      simp [e]
theorem par_rev {α : Type} (f : α → Bool) : ∀ l : List α, par f l.reverse = par f l
  | [] => rfl
  | x :: l => by
    rw [List.reverse_cons, par_app, par_rev f l, par, par, par]
    cases f x <;> cases par f l <;> rfl
def Bnd (w : W) : Prop := ∀ c : Nat → Nat → Bool, (∀ x y, c x y = c y x) → (∀ p, p < w.length → par (c p) (row w p) = false) →
  ∃ S : Nat × Nat → Bool, (∀ d, Dart w d → S d = S (nxt w d)) ∧ ∀ x y, Dart w (x, y) → (S (x, y)).xor (S (y, x)) = c x y
open Classical in
theorem Bnd.ring {w : W} (B : Bnd w) (g : Good w) {C : List Nat} (nd : C.Nodup) (len : 3 ≤ C.length) (tie : ∀ p ∈ C, succR C p ∈ row w p) : ∃ S : Nat × Nat → Prop, Bd w C S := by
  have sy : ∀ x y, decide (adj C x y ∨ adj C y x) = decide (adj C y x ∨ adj C x y) := fun x y => decide_eq_decide.mpr Or.comm
  have ev : ∀ p, p < w.length → par (fun y => decide (adj C p y ∨ adj C y p)) (row w p) = false := fun p _ => by
    by_cases hp : p ∈ C
    · obtain ⟨b, hb, eb⟩ := pred_ex nd hp
      have ne : succR C p ≠ b := by
        intro e
        rw [← e] at eb
        obtain ⟨i, hi, rfl⟩ := List.mem_iff_getElem.mp hp
        have ei : C[i] = C.getD i 0 := by rw [List.getD_eq_getElem?_getD, List.getElem?_eq_getElem hi]; rfl
        rw [ei] at eb
        by_cases c : i + 1 < C.length
        · rw [succR_ix nd c] at eb
          by_cases c2 : i + 2 < C.length
          · rw [succR_ix nd c2] at eb
            have := getD_inj nd (by omega) (by omega) eb; omega
          · rw [succR_end nd (by omega)] at eb
            have := getD_inj nd (by omega) (by omega) eb; omega
        · rw [succR_end nd (by omega), succR_ix nd (by omega)] at eb
          have := getD_inj nd (by omega) (by omega) eb; omega
      have e : par (fun y => decide (adj C p y ∨ adj C y p)) (row w p) = par (fun y => (decide (y = succR C p) && true).xor (decide (y = b) && true)) (row w p) := par_congr fun y _ => by
        have h1 : adj C p y ↔ y = succR C p := ⟨fun z => z.2, fun z => ⟨hp, z⟩⟩
        have h2 : adj C y p ↔ y = b := ⟨fun z => succR_inj nd z.1 hb (by rw [eb]; exact z.2.symm), fun z => by rw [z]; exact ⟨hb, eb.symm⟩⟩
        have e3 : decide (adj C p y ∨ adj C y p) = decide (y = succR C p ∨ y = b) := decide_eq_decide.mpr (or_congr h1 h2)
        rw [e3]
        by_cases c1 : y = succR C p
        · have c2 : y ≠ b := fun z => ne (c1 ▸ z)
          simp [c1, ne]
        · by_cases c2 : y = b
          · simp [c2, Ne.symm ne]
          · simp [c1, c2]
      rw [e, par_xor, par_one (g.nod p) (tie p hp), par_one (g.nod p) (by
        have := g.sym _ _ (tie b hb)
        rw [eb] at this
        have h := tie b hb
        rw [eb] at h
        exact g.sym _ _ h)]
      rfl
    · refine par_none fun y _ => decide_eq_false ?_
      rintro (z | z)
      · exact hp z.1
      · exact hp (by rw [z.2]; exact succR_mem z.1)
  obtain ⟨S, h1, h2⟩ := B (fun x y => decide (adj C x y ∨ adj C y x)) sy ev
  refine ⟨fun d => S d = true, fun d hd => by rw [h1 d hd], fun x y hd n1 n2 => ?_, fun x y hd a => ?_⟩
  · have := h2 x y hd
    rw [decide_eq_false (show ¬ (adj C x y ∨ adj C y x) from fun z => z.elim n1 n2)] at this
    cases e1 : S (x, y) <;> cases e2 : S (y, x) <;> simp [e1, e2] at this ⊢
  · have := h2 x y hd
    rw [decide_eq_true a] at this
    cases e1 : S (x, y) <;> cases e2 : S (y, x) <;> simp [e1, e2] at this ⊢
/-! ### webs grown beyond the rim -/
structure Grown (w : W) (R : List Nat) : Prop where
  g : Good w
  nd : R.Nodup
  len : 3 ≤ R.length
  hd : ∀ x ∈ R, succR R x ∈ row w x ∧ (row w x).getD 0 0 = succR R x
  ls : ∀ x ∈ R, (row w x).getD ((row w x).length - 1) 0 ∈ R ∧ succR R ((row w x).getD ((row w x).length - 1) 0) = x
  tri : ∀ x y, Dart w (x, y) → ¬ adj R x y → nxt w (nxt w (nxt w (x, y))) = (x, y) ∧ ¬ adj R (nxt w (x, y)).1 (nxt w (x, y)).2
  bnd : Bnd w
theorem Grown.rot {w : W} {a b : List Nat} (G : Grown w (a ++ b)) : Grown w (b ++ a) := by
  have mem : ∀ p, p ∈ b ++ a ↔ p ∈ a ++ b := fun p => List.perm_append_comm.mem_iff
  have s : ∀ p, p ∈ b ++ a → succR (b ++ a) p = succR (a ++ b) p := fun p h => succR_rot G.nd ((mem p).mp h)
  have ad : ∀ x y, adj (b ++ a) x y ↔ adj (a ++ b) x y := fun x y => by
    constructor
    · rintro ⟨h, e⟩; exact ⟨(mem x).mp h, by rw [e, s x h]⟩
    · rintro ⟨h, e⟩; exact ⟨(mem x).mpr h, by rw [e, s x ((mem x).mpr h)]⟩
  refine ⟨G.g, List.perm_append_comm.nodup_iff.mp G.nd, by have := G.len; simp at this ⊢; omega, fun x hx => ?_, fun x hx => ?_, fun x y hd n => ?_, G.bnd⟩
  · rw [s x hx]; exact G.hd x ((mem x).mp hx)
  · have := G.ls x ((mem x).mp hx)
    exact ⟨(mem _).mpr this.1, by rw [s _ ((mem _).mpr this.1)]; exact this.2⟩
  · have := G.tri x y hd (fun z => n ((ad x y).mpr z))
    exact ⟨this.1, fun z => this.2 ((ad _ _).mp z)⟩
theorem Grown.lastR {w : W} {R : List Nat} (G : Grown w R) {x b : Nat} (hx : x ∈ R) (hb : b ∈ R) (e : succR R b = x) : (row w x).getD ((row w x).length - 1) 0 = b ∧ (row w x).length ≠ 0 := by
  have := G.ls x hx
  refine ⟨succR_inj G.nd this.1 hb (by rw [this.2, e]), ?_⟩
  have := (G.hd x hx).1
  intro z
  rw [List.length_eq_zero_iff.mp z] at this
  cases this
theorem Grown.outer {w : W} {R : List Nat} (G : Grown w R) {x y : Nat} (h : adj R x y) : nxt w (x, y) = (y, succR R y) := by
  obtain ⟨hx, rfl⟩ := h
  have hy := succR_mem hx
  obtain ⟨e, ne⟩ := G.lastR hy hx rfl
  show (_, succR (row w (succR R x)) x) = _
  have e2 := succR_end (G.g.nod (succR R x)) (i := (row w (succR R x)).length - 1) (by omega)
  rw [e] at e2
  rw [e2, (G.hd _ hy).2]
theorem Grown.disc {w : W} {R : List Nat} (G : Grown w R) : Disc w R fun d => Dart w d ∧ ¬ adj R d.1 d.2 := by
  have two : ∀ x ∈ R, succR R (succR R x) ≠ x := fun x hx e => by
    have len := G.len
    obtain ⟨i, hi, rfl⟩ := List.mem_iff_getElem.mp hx
    have ei : R[i] = R.getD i 0 := by rw [List.getD_eq_getElem?_getD, List.getElem?_eq_getElem hi]; rfl
    rw [ei] at e
    by_cases c : i + 1 < R.length
    · rw [succR_ix G.nd c] at e
      by_cases c2 : i + 2 < R.length
      · rw [succR_ix G.nd c2] at e
        have := getD_inj G.nd (by omega) (by omega) e; omega
      · rw [succR_end G.nd (by omega)] at e
        have := getD_inj G.nd (by omega) (by omega) e; omega
    · rw [succR_end G.nd (by omega), succR_ix G.nd (by omega)] at e
      have := getD_inj G.nd (by omega) (by omega) e; omega
  refine ⟨G.nd, G.len, fun d h => h.1, fun d hd => ⟨fun h => ⟨nxt_dart G.g hd, (G.tri d.1 d.2 hd h.2).2⟩, fun h => ⟨hd, fun z => h.2 ?_⟩⟩, fun d h => (G.tri d.1 d.2 h.1 h.2).1, fun p hp => ?_, fun p q hd n1 n2 => ?_⟩
  · have e : nxt w d = (d.2, succR R d.2) := G.outer z
    rw [e]
    exact ⟨by rw [z.2]; exact succR_mem z.1, rfl⟩
  · have h1 := (G.hd p hp).1
    exact ⟨G.g.sym _ _ h1, ⟨G.g.sym _ _ h1, fun z => two p hp z.2.symm⟩, fun z => z.2 ⟨hp, rfl⟩⟩
  · exact ⟨fun h => ⟨G.g.sym _ _ h.1, n2⟩, fun h => ⟨G.g.sym _ _ h.1, n1⟩⟩
end Wb

set_option linter.all false
set_option maxRecDepth 100000
set_option maxHeartbeats 1000000
/-! a point beyond the rim -/
namespace Wb
structure Step (w w' : W) (R : List Nat) (f : Nat) : Prop where
  l : w'.length = w.length + 1
  f1 : 1 ≤ f
  fn : f < R.length
  rv : row w' w.length = (R.take (f + 1)).reverse
  r0 : row w' (R.getD 0 0) = w.length :: row w (R.getD 0 0)
  rk : ∀ k, 1 ≤ k → k ≤ f → row w' (R.getD k 0) = row w (R.getD k 0) ++ [w.length]
  ro : ∀ x, x ≠ w.length → (∀ k, k ≤ f → x ≠ R.getD k 0) → row w' x = row w x
def grownR (R : List Nat) (f v : Nat) : List Nat := R.getD 0 0 :: v :: R.drop f
theorem take_rev_get {R : List Nat} {f k : Nat} (h : f < R.length) (hk : k ≤ f) : (R.take (f + 1)).reverse.getD (f - k) 0 = R.getD k 0 := by
  have l : (R.take (f + 1)).length = f + 1 := by rw [List.length_take]; omega
  rw [List.getD_eq_getElem?_getD, List.getElem?_reverse (by omega), l, show f + 1 - 1 - (f - k) = k by omega, List.getElem?_take_of_lt (by omega), ← List.getD_eq_getElem?_getD]
theorem succR_cons_mid {l : List Nat} {v x : Nat} (nd : (v :: l).Nodup) (hx : x ∈ l) (hl : x ≠ l.getD (l.length - 1) 0) : succR (v :: l) x = succR l x := by
  obtain ⟨i, hi, rfl⟩ := List.mem_iff_getElem.mp hx
  have e : l[i] = l.getD i 0 := by rw [List.getD_eq_getElem?_getD, List.getElem?_eq_getElem hi]; rfl
  have hi1 : i + 1 < l.length := by
    apply Classical.byContradiction
    intro c
    exact hl (by rw [e, show l.length - 1 = i by omega])
  have h1 := succR_ix (i := i + 1) nd (by simp; omega)
  have h2 := succR_ix (i := i) (List.nodup_cons.mp nd).2 hi1
  rw [List.getD_cons_succ, List.getD_cons_succ] at h1
  rw [e, h1, h2]
theorem succR_snoc_mid {l : List Nat} {v x : Nat} (nd : (l ++ [v]).Nodup) (hx : x ∈ l) (hl : x ≠ l.getD (l.length - 1) 0) : succR (l ++ [v]) x = succR l x := by
  obtain ⟨i, hi, rfl⟩ := List.mem_iff_getElem.mp hx
  have e : l[i] = l.getD i 0 := by rw [List.getD_eq_getElem?_getD, List.getElem?_eq_getElem hi]; rfl
  have hi1 : i + 1 < l.length := by
    apply Classical.byContradiction
    intro c
    exact hl (by rw [e, show l.length - 1 = i by omega])
  have g : ∀ j, j < l.length → (l ++ [v]).getD j 0 = l.getD j 0 := fun j hj => by rw [List.getD_eq_getElem?_getD, List.getElem?_append_left hj, ← List.getD_eq_getElem?_getD]
  have h1 := succR_ix (i := i) nd (by simp; omega)
  have h2 := succR_ix (i := i) (List.nodup_append.mp nd).1 hi1
  rw [g i hi, g (i + 1) hi1] at h1
  rw [e, h1, h2]
section
variable {w w' : W} {R : List Nat} {f : Nat}
theorem step_good (G : Grown w R) (T : Step w w' R f) : Good w' := by
  have g := G.g
  have fn := T.fn
  have zR : ∀ k, k ≤ f → R.getD k 0 ∈ R := fun k h => getD_memL (by omega)
  have zlt : ∀ k, k ≤ f → R.getD k 0 < w.length := fun k h => row_lt (G.hd _ (zR k h)).1
  have arcm : ∀ x, x ∈ (R.take (f + 1)).reverse ↔ ∃ k, k ≤ f ∧ x = R.getD k 0 := fun x => by
    rw [List.mem_reverse]
    constructor
    · intro h
      obtain ⟨i, hi, rfl⟩ := List.mem_iff_getElem.mp h
      rw [List.length_take] at hi
      exact ⟨i, by omega, by rw [List.getElem_take, List.getD_eq_getElem?_getD, List.getElem?_eq_getElem (by omega)]; rfl⟩
    · rintro ⟨k, hk, rfl⟩
      refine List.mem_iff_getElem.mpr ⟨k, by rw [List.length_take]; omega, ?_⟩
      rw [List.getElem_take, List.getD_eq_getElem?_getD, List.getElem?_eq_getElem (by omega)]; rfl
  have mem : ∀ x, x ≠ w.length → ∀ y, y ∈ row w' x ↔ y ∈ row w x ∨ (y = w.length ∧ ∃ k, k ≤ f ∧ x = R.getD k 0) := fun x hx y => by
    by_cases c : ∃ k, k ≤ f ∧ x = R.getD k 0
    · obtain ⟨k, hk, rfl⟩ := c
      by_cases k0 : k = 0
      · subst k0
        rw [T.r0, List.mem_cons]
        exact ⟨fun h => h.elim (fun z => .inr ⟨z, 0, hk, rfl⟩) .inl, fun h => h.elim .inr (fun z => .inl z.1)⟩
      · rw [T.rk k (by omega) hk, List.mem_append, List.mem_singleton]
        exact ⟨fun h => h.elim .inl (fun z => .inr ⟨z, k, hk, rfl⟩), fun h => h.elim .inl (fun z => .inr z.1)⟩
    · rw [T.ro x hx (fun k hk z => c ⟨k, hk, z⟩)]
      exact ⟨.inl, fun h => h.elim id (fun z => absurd z.2 c)⟩
  have memv : ∀ y, y ∈ row w' w.length ↔ ∃ k, k ≤ f ∧ y = R.getD k 0 := fun y => by rw [T.rv]; exact arcm y
  have vout : ∀ x, w.length ∉ row w x := fun x h => Nat.lt_irrefl _ (g.rng _ _ h)
  have noR : ∀ x, x ≠ w.length → (row w' x).Nodup := fun x hx => by
    by_cases c : ∃ k, k ≤ f ∧ x = R.getD k 0
    · obtain ⟨k, hk, rfl⟩ := c
      by_cases k0 : k = 0
      · subst k0
        rw [T.r0]; exact List.nodup_cons.mpr ⟨vout _, g.nod _⟩
      · rw [T.rk k (by omega) hk]
        exact List.nodup_append.mpr ⟨g.nod _, by simp, fun a ha b hb e => by
          have : b = w.length := List.mem_singleton.mp hb
          rw [e, this] at ha
          exact vout _ ha⟩
    · rw [T.ro x hx (fun k hk z => c ⟨k, hk, z⟩)]; exact g.nod x
  have up : ∀ x y, y ∈ row w x → y ∈ row w' x := fun x y h => (mem x (by have := row_lt h; omega) y).mpr (.inl h)
  have con : ∀ x, x < w.length → Reach w' 0 x := fun x hx => (g.con x hx).mono up
  refine ⟨fun x y h => ?_, fun x h => ?_, fun x => ?_, fun x y h => ?_, fun x hx => ?_⟩
  · rw [T.l]
    by_cases c : x = w.length
    · subst c
      obtain ⟨k, hk, rfl⟩ := (memv y).mp h
      have := zlt k hk; omega
    · rcases (mem x c y).mp h with h | ⟨h, _⟩
      · have := g.rng _ _ h; omega
      · omega
  · by_cases c : x = w.length
    · subst c
      obtain ⟨k, hk, e⟩ := (memv _).mp h
      have := zlt k hk; omega
    · rcases (mem x c x).mp h with h | ⟨h, _⟩
      · exact g.irr x h
      · exact c h
  · by_cases c : x = w.length
    · subst c
      rw [T.rv]
      exact (List.reverse_perm _).nodup_iff.mpr (G.nd.sublist (List.take_sublist _ _))
    · exact noR x c
  · by_cases c : x = w.length
    · subst c
      obtain ⟨k, hk, rfl⟩ := (memv y).mp h
      exact (mem _ (by have := zlt k hk; omega) _).mpr (.inr ⟨rfl, k, hk, rfl⟩)
    · rcases (mem x c y).mp h with h | ⟨rfl, k, hk, rfl⟩
      · exact up _ _ (g.sym _ _ h)
      · exact (memv _).mpr ⟨k, hk, rfl⟩
  · rw [T.l] at hx
    by_cases c : x = w.length
    · subst c
      exact .step (con _ (zlt 0 (Nat.zero_le _))) ((mem _ (by have := zlt 0 (Nat.zero_le _); omega) _).mpr (.inr ⟨rfl, 0, Nat.zero_le _, rfl⟩))
    · exact con x (by omega)
/-- the facts of a step that the rest leans on -/
structure SF (w w' : W) (R : List Nat) (f : Nat) : Prop where
  z : ∀ k, k < R.length → R.getD k 0 ∈ R
  zlt : ∀ k, k < R.length → R.getD k 0 < w.length
  inj : ∀ i j, i < R.length → j < R.length → R.getD i 0 = R.getD j 0 → i = j
  dv : ∀ y, Dart w' (w.length, y) ↔ ∃ k, k ≤ f ∧ y = R.getD k 0
  dx : ∀ x, x ≠ w.length → ∀ y, Dart w' (x, y) ↔ Dart w (x, y) ∨ (y = w.length ∧ ∃ k, k ≤ f ∧ x = R.getD k 0)
  n1 : ∀ x y, Dart w (x, y) → ¬ adj R x y → nxt w' (x, y) = nxt w (x, y)
  n1o : ∀ i, f ≤ i → i + 1 < R.length → nxt w' (R.getD i 0, R.getD (i + 1) 0) = (R.getD (i + 1) 0, succR R (R.getD (i + 1) 0))
  n1e : nxt w' (R.getD (R.length - 1) 0, R.getD 0 0) = (R.getD 0 0, w.length)
  n2 : ∀ k, k < f → nxt w' (R.getD k 0, R.getD (k + 1) 0) = (R.getD (k + 1) 0, w.length)
  n3 : ∀ k, k < f → nxt w' (R.getD (k + 1) 0, w.length) = (w.length, R.getD k 0)
  n3e : nxt w' (R.getD 0 0, w.length) = (w.length, R.getD f 0)
  n4 : ∀ k, k ≤ f → nxt w' (w.length, R.getD k 0) = (R.getD k 0, succR R (R.getD k 0))
theorem step_facts (G : Grown w R) (T : Step w w' R f) : SF w w' R f := by
  have g := G.g
  have g' := step_good G T
  have fn := T.fn
  have f1 := T.f1
  have zR : ∀ k, k < R.length → R.getD k 0 ∈ R := fun k h => getD_memL h
  have zlt : ∀ k, k < R.length → R.getD k 0 < w.length := fun k h => row_lt (G.hd _ (zR k h)).1
  have inj : ∀ i j, i < R.length → j < R.length → R.getD i 0 = R.getD j 0 → i = j := fun i j hi hj e => getD_inj G.nd hi hj e
  have vout : ∀ x, w.length ∉ row w x := fun x h => Nat.lt_irrefl _ (g.rng _ _ h)
  have sx : ∀ i, i + 1 < R.length → succR R (R.getD i 0) = R.getD (i + 1) 0 := fun i h => succR_ix G.nd h
  have se : succR R (R.getD (R.length - 1) 0) = R.getD 0 0 := succR_end G.nd (by omega)
  have arcm : ∀ x, x ∈ (R.take (f + 1)).reverse ↔ ∃ k, k ≤ f ∧ x = R.getD k 0 := fun x => by
    rw [List.mem_reverse]
    constructor
    · intro h
      obtain ⟨i, hi, rfl⟩ := List.mem_iff_getElem.mp h
      rw [List.length_take] at hi
      exact ⟨i, by omega, by rw [List.getElem_take, List.getD_eq_getElem?_getD, List.getElem?_eq_getElem (by omega)]; rfl⟩
    · rintro ⟨k, hk, rfl⟩
      refine List.mem_iff_getElem.mpr ⟨k, by rw [List.length_take]; omega, ?_⟩
      rw [List.getElem_take, List.getD_eq_getElem?_getD, List.getElem?_eq_getElem (by omega)]; rfl
  have dx : ∀ x, x ≠ w.length → ∀ y, Dart w' (x, y) ↔ Dart w (x, y) ∨ (y = w.length ∧ ∃ k, k ≤ f ∧ x = R.getD k 0) := fun x hx y => by
    show y ∈ row w' x ↔ y ∈ row w x ∨ _
    by_cases c : ∃ k, k ≤ f ∧ x = R.getD k 0
    · obtain ⟨k, hk, rfl⟩ := c
      by_cases k0 : k = 0
      · subst k0
        rw [T.r0, List.mem_cons]
        exact ⟨fun h => h.elim (fun z => .inr ⟨z, 0, hk, rfl⟩) .inl, fun h => h.elim .inr (fun z => .inl z.1)⟩
      · rw [T.rk k (by omega) hk, List.mem_append, List.mem_singleton]
        exact ⟨fun h => h.elim .inl (fun z => .inr ⟨z, k, hk, rfl⟩), fun h => h.elim .inl (fun z => .inr z.1)⟩
    · rw [T.ro x hx (fun k hk z => c ⟨k, hk, z⟩)]
      exact ⟨.inl, fun h => h.elim id (fun z => absurd z.2 c)⟩
  have nlen : ∀ k, k < R.length → (row w (R.getD k 0)).length ≠ 0 := fun k hk z => by
    have := (G.hd _ (zR k hk)).1
    rw [List.length_eq_zero_iff.mp z] at this
    cases this
  -- the new rows
  have s0 : ∀ x, x ∈ row w (R.getD 0 0) → x ≠ (row w (R.getD 0 0)).getD ((row w (R.getD 0 0)).length - 1) 0 → succR (row w' (R.getD 0 0)) x = succR (row w (R.getD 0 0)) x := fun x h1 h2 => by
    rw [T.r0]; exact succR_cons_mid (by rw [← T.r0]; exact g'.nod _) h1 h2
  have sk : ∀ k, 1 ≤ k → k ≤ f → ∀ x, x ∈ row w (R.getD k 0) → x ≠ (row w (R.getD k 0)).getD ((row w (R.getD k 0)).length - 1) 0 → succR (row w' (R.getD k 0)) x = succR (row w (R.getD k 0)) x := fun k h1 h2 x h3 h4 => by
    rw [T.rk k h1 h2]; exact succR_snoc_mid (by rw [← T.rk k h1 h2]; exact g'.nod _) h3 h4
  have lastOf : ∀ y ∈ R, ∀ x, x = (row w y).getD ((row w y).length - 1) 0 → adj R x y := fun y hy x e => by
    have := G.ls y hy
    rw [← e] at this
    exact ⟨this.1, this.2.symm⟩
  have snocAt : ∀ k, 1 ≤ k → k ≤ f → succR (row w' (R.getD k 0)) ((row w (R.getD k 0)).getD ((row w (R.getD k 0)).length - 1) 0) = w.length := fun k h1 h2 => by
    have nd := g'.nod (R.getD k 0)
    have ln := nlen k (by omega)
    rw [T.rk k h1 h2] at nd ⊢
    have h := succR_ix (i := (row w (R.getD k 0)).length - 1) nd (by rw [List.length_append, List.length_singleton]; omega)
    have e1 : (row w (R.getD k 0) ++ [w.length]).getD ((row w (R.getD k 0)).length - 1) 0 = (row w (R.getD k 0)).getD ((row w (R.getD k 0)).length - 1) 0 := by
      rw [List.getD_eq_getElem?_getD, List.getElem?_append_left (by omega), ← List.getD_eq_getElem?_getD]
    have e2 : (row w (R.getD k 0) ++ [w.length]).getD ((row w (R.getD k 0)).length - 1 + 1) 0 = w.length := by
      rw [List.getD_eq_getElem?_getD, List.getElem?_append_right (by omega), show (row w (R.getD k 0)).length - 1 + 1 - (row w (R.getD k 0)).length = 0 by omega]; rfl
    rw [e1, e2] at h
    exact h
  refine ⟨zR, zlt, inj, fun y => by show y ∈ row w' w.length ↔ _; rw [T.rv]; exact arcm y, dx, fun x y hd n => ?_, fun i h1 h2 => ?_, ?_, fun k hk => ?_, fun k hk => ?_, ?_, fun k hk => ?_⟩
  · -- n1
    show (y, succR (row w' y) x) = (y, succR (row w y) x)
    have xy : x ∈ row w y := g.sym _ _ hd
    by_cases c : ∃ k, k ≤ f ∧ y = R.getD k 0
    · obtain ⟨k, hk, rfl⟩ := c
      have nl : x ≠ (row w (R.getD k 0)).getD ((row w (R.getD k 0)).length - 1) 0 := fun e => n (lastOf _ (zR k (by omega)) x e)
      by_cases k0 : k = 0
      · subst k0; rw [s0 x xy nl]
      · rw [sk k (by omega) hk x xy nl]
    · rw [T.ro y (by have := g.rng _ _ hd; omega) (fun k hk z => c ⟨k, hk, z⟩)]
  · -- n1o
    have hm := zR (i + 1) h2
    obtain ⟨e, ne⟩ := G.lastR hm (zR i (by omega)) (sx i h2)
    show (_, succR (row w' (R.getD (i + 1) 0)) (R.getD i 0)) = _
    rw [T.ro _ (by have := zlt (i + 1) h2; omega) (fun k hk z => by have := inj _ _ h2 (by omega) z; omega)]
    have e2 := succR_end (g.nod (R.getD (i + 1) 0)) (i := (row w (R.getD (i + 1) 0)).length - 1) (by omega)
    rw [e] at e2
    rw [e2, (G.hd _ hm).2]
  · -- n1e
    have hm := zR 0 (by omega)
    obtain ⟨e, ne⟩ := G.lastR hm (zR (R.length - 1) (by omega)) se
    show (_, succR (row w' (R.getD 0 0)) (R.getD (R.length - 1) 0)) = _
    rw [T.r0]
    have nd := g'.nod (R.getD 0 0)
    rw [T.r0] at nd
    have e2 := succR_end nd (i := (row w (R.getD 0 0)).length) (by simp)
    have e3 : (w.length :: row w (R.getD 0 0)).getD (row w (R.getD 0 0)).length 0 = R.getD (R.length - 1) 0 := by
      rw [← e, show (row w (R.getD 0 0)).length = (row w (R.getD 0 0)).length - 1 + 1 by omega, List.getD_cons_succ]; simp
    rw [e3] at e2
    rw [e2]; rfl
  · -- n2
    have hm := zR (k + 1) (by omega)
    obtain ⟨e, ne⟩ := G.lastR hm (zR k (by omega)) (sx k (by omega))
    show (_, succR (row w' (R.getD (k + 1) 0)) (R.getD k 0)) = _
    have := snocAt (k + 1) (by omega) (by omega)
    rw [e] at this
    rw [this]
  · -- n3
    show (_, succR (row w' w.length) (R.getD (k + 1) 0)) = _
    have nd := g'.nod w.length
    rw [T.rv] at nd ⊢
    have l : (R.take (f + 1)).reverse.length = f + 1 := by rw [List.length_reverse, List.length_take]; omega
    have h := succR_ix (i := f - (k + 1)) nd (by omega)
    rw [take_rev_get fn (by omega), show f - (k + 1) + 1 = f - k by omega, take_rev_get fn (by omega)] at h
    rw [h]
  · -- n3e
    show (_, succR (row w' w.length) (R.getD 0 0)) = _
    have nd := g'.nod w.length
    rw [T.rv] at nd ⊢
    have l : (R.take (f + 1)).reverse.length = f + 1 := by rw [List.length_reverse, List.length_take]; omega
    have h := succR_end nd (i := f) (by omega)
    have e0 := take_rev_get fn (Nat.zero_le f)
    have e1 := take_rev_get fn (Nat.le_refl f)
    rw [Nat.sub_zero] at e0
    rw [Nat.sub_self] at e1
    rw [e0, e1] at h
    rw [h]
  · -- n4
    have hm := zR k (by omega)
    show (_, succR (row w' (R.getD k 0)) w.length) = _
    have nd := g'.nod (R.getD k 0)
    have ln := nlen k (by omega)
    by_cases k0 : k = 0
    · subst k0
      rw [T.r0] at nd ⊢
      have h := succR_ix (i := 0) nd (by rw [List.length_cons]; omega)
      rw [List.getD_cons_zero, List.getD_cons_succ, (G.hd _ hm).2] at h
      rw [h]
    · rw [T.rk k (by omega) hk] at nd ⊢
      have h := succR_end nd (i := (row w (R.getD k 0)).length) (by simp)
      have e1 : (row w (R.getD k 0) ++ [w.length]).getD (row w (R.getD k 0)).length 0 = w.length := by
        rw [List.getD_eq_getElem?_getD, List.getElem?_append_right (Nat.le_refl _), Nat.sub_self]; rfl
      have e2 : (row w (R.getD k 0) ++ [w.length]).getD 0 0 = (row w (R.getD k 0)).getD 0 0 := by
        rw [List.getD_eq_getElem?_getD, List.getElem?_append_left (by omega), ← List.getD_eq_getElem?_getD]
      rw [e1, e2, (G.hd _ hm).2] at h
      rw [h]
end
end Wb

set_option linter.all false
set_option maxRecDepth 100000
set_option maxHeartbeats 2000000
namespace Wb
section
variable {w w' : W} {R : List Nat} {f : Nat}
/-- the new rim -/
structure RimF (w : W) (R : List Nat) (f : Nat) : Prop where
  nd : (grownR R f w.length).Nodup
  len : (grownR R f w.length).length + f = R.length + 2
  mem : ∀ x, x ∈ grownR R f w.length ↔ x = R.getD 0 0 ∨ x = w.length ∨ ∃ i, f ≤ i ∧ i < R.length ∧ x = R.getD i 0
  s0 : succR (grownR R f w.length) (R.getD 0 0) = w.length
  sv : succR (grownR R f w.length) w.length = R.getD f 0
  si : ∀ i, f ≤ i → i < R.length → succR (grownR R f w.length) (R.getD i 0) = succR R (R.getD i 0)
theorem rim_facts (G : Grown w R) (T : Step w w' R f) : RimF w R f := by
  have fn := T.fn
  have f1 := T.f1
  have zR : ∀ k, k < R.length → R.getD k 0 ∈ R := fun k h => getD_memL h
  have zlt : ∀ k, k < R.length → R.getD k 0 < w.length := fun k h => row_lt (G.hd _ (zR k h)).1
  have inj : ∀ i j, i < R.length → j < R.length → R.getD i 0 = R.getD j 0 → i = j := fun i j hi hj e => getD_inj G.nd hi hj e
  have dm : ∀ x, x ∈ R.drop f ↔ ∃ i, f ≤ i ∧ i < R.length ∧ x = R.getD i 0 := fun x => by
    constructor
    · intro h
      obtain ⟨i, hi, rfl⟩ := List.mem_iff_getElem.mp h
      rw [List.length_drop] at hi
      exact ⟨f + i, by omega, by omega, by rw [List.getElem_drop, List.getD_eq_getElem?_getD, List.getElem?_eq_getElem (by omega)]; rfl⟩
    · rintro ⟨i, h1, h2, rfl⟩
      refine List.mem_iff_getElem.mpr ⟨i - f, by rw [List.length_drop]; omega, ?_⟩
      rw [List.getElem_drop, List.getD_eq_getElem?_getD, List.getElem?_eq_getElem h2]
      simp only [show f + (i - f) = i by omega]; rfl
  have nd : (grownR R f w.length).Nodup := by
    unfold grownR
    refine List.nodup_cons.mpr ⟨fun h => ?_, List.nodup_cons.mpr ⟨fun h => ?_, G.nd.sublist (List.drop_sublist _ _)⟩⟩
    · rcases List.mem_cons.mp h with h | h
      · have := zlt 0 (by omega); omega
      · obtain ⟨i, h1, h2, e⟩ := (dm _).mp h
        have := inj 0 i (by omega) h2 e; omega
    · obtain ⟨i, h1, h2, e⟩ := (dm _).mp h
      have := zlt i h2; omega
  have len : (grownR R f w.length).length = R.length - f + 2 := by unfold grownR; simp
  have get : ∀ i, f ≤ i → i < R.length → (grownR R f w.length).getD (i - f + 2) 0 = R.getD i 0 := fun i h1 h2 => by
    unfold grownR
    rw [List.getD_cons_succ, List.getD_cons_succ, List.getD_eq_getElem?_getD, List.getElem?_drop, show f + (i - f) = i by omega, ← List.getD_eq_getElem?_getD]
  have g0 : (grownR R f w.length).getD 0 0 = R.getD 0 0 := rfl
  have g1 : (grownR R f w.length).getD 1 0 = w.length := rfl
  refine ⟨nd, by omega, fun x => ?_, ?_, ?_, fun i h1 h2 => ?_⟩
  · unfold grownR
    rw [List.mem_cons, List.mem_cons, dm]
  · have := succR_ix nd (i := 0) (by omega)
    rw [g0] at this
    exact this
  · have := succR_ix nd (i := 1) (by omega)
    have e := get f (Nat.le_refl _) fn
    rw [Nat.sub_self] at e
    rw [g1] at this
    rw [this]
    exact e
  · by_cases c : i + 1 < R.length
    · have := succR_ix nd (i := i - f + 2) (by omega)
      have e := get (i + 1) (by omega) c
      rw [get i h1 h2, show i - f + 2 + 1 = i + 1 - f + 2 by omega, e] at this
      rw [this, succR_ix G.nd c]
    · have := succR_end nd (i := i - f + 2) (by omega)
      rw [get i h1 h2, g0] at this
      rw [this, succR_end G.nd (by omega)]
theorem RimF.adj (F : RimF w R f) {x y : Nat} (h : adj (grownR R f w.length) x y) : (x = R.getD 0 0 ∧ y = w.length) ∨ (x = w.length ∧ y = R.getD f 0) ∨ ∃ i, f ≤ i ∧ i < R.length ∧ x = R.getD i 0 ∧ y = succR R (R.getD i 0) := by
  obtain ⟨hx, e⟩ := h
  rcases (F.mem x).mp hx with rfl | rfl | ⟨i, h1, h2, rfl⟩
  · exact .inl ⟨rfl, by rw [e, F.s0]⟩
  · exact .inr (.inl ⟨rfl, by rw [e, F.sv]⟩)
  · exact .inr (.inr ⟨i, h1, h2, rfl, by rw [e, F.si i h1 h2]⟩)
open Classical in
theorem step_bnd (G : Grown w R) (T : Step w w' R f) : Bnd w' := by
  have g := G.g
  have g' := step_good G T
  have fn := T.fn
  have f1 := T.f1
  have K := step_facts G T
  have len := G.len
  have zlt := K.zlt
  have znv : ∀ k, k < R.length → R.getD k 0 ≠ w.length := fun k h => by have := zlt k h; omega
  have sx : ∀ i, i + 1 < R.length → succR R (R.getD i 0) = R.getD (i + 1) 0 := fun i h => succR_ix G.nd h
  have se : succR R (R.getD (R.length - 1) 0) = R.getD 0 0 := succR_end G.nd (by omega)
  intro c sy ev
  -- prefix sums over the new point's ties
  let s : Nat → Bool := fun k => par (fun i => c w.length (R.getD i 0)) (List.range (k + 1))
  let sp : Nat → Bool := fun k => match k with | 0 => false | k + 1 => s k
  have ss : ∀ k, s (k + 1) = (s k).xor (c w.length (R.getD (k + 1) 0)) := fun k => by
    show par _ (List.range (k + 1 + 1)) = _
    rw [List.range_succ, par_app]
    show (s k).xor ((c w.length (R.getD (k + 1) 0)).xor false) = _
    rw [Bool.xor_false]
  have s0 : s 0 = c w.length (R.getD 0 0) := by
    show (c w.length (R.getD 0 0)).xor false = _
    rw [Bool.xor_false]
  have arcmap : R.take (f + 1) = (List.range (f + 1)).map fun i => R.getD i 0 := by
    refine List.ext_getElem (by rw [List.length_take, List.length_map, List.length_range]; omega) fun i h1 h2 => ?_
    rw [List.length_take] at h1
    rw [List.getElem_take, List.getElem_map, List.getElem_range, List.getD_eq_getElem?_getD, List.getElem?_eq_getElem (by omega)]; rfl
  have par_map : ∀ (h : Nat → Bool) (φ : Nat → Nat) (l : List Nat), par h (l.map φ) = par (fun i => h (φ i)) l := fun h φ l => by
    induction l with
    | nil => rfl
    | cons a l ih => rw [List.map_cons, par, par, ih]
  have sf : s f = false := by
    have := ev w.length (by rw [T.l]; omega)
    rw [T.rv, par_rev, arcmap, par_map] at this
    exact this
  let de : Nat → Nat → Bool := fun x y => decide (∃ k, k < f ∧ x = R.getD k 0 ∧ y = R.getD (k + 1) 0 ∧ s k = true)
  have deE : ∀ k, k < f → ∀ y, de (R.getD k 0) y = (decide (y = R.getD (k + 1) 0) && s k) := fun k hk y => by
    show decide _ = _
    by_cases c1 : y = R.getD (k + 1) 0
    · cases hs : s k with
      | true => rw [decide_eq_true ⟨k, hk, rfl, c1, hs⟩, decide_eq_true c1]; rfl
      | false =>
        rw [Bool.and_false]
        refine decide_eq_false ?_
        rintro ⟨j, hj, e, _, h⟩
        have := K.inj k j (by omega) (by omega) e
        subst this
        rw [hs] at h; cases h
    · rw [decide_eq_false c1, Bool.false_and]
      refine decide_eq_false ?_
      rintro ⟨j, hj, e, e2, h⟩
      have := K.inj k j (by omega) (by omega) e
      subst this
      exact c1 e2
  have deE2 : ∀ k, k < f → ∀ x, de x (R.getD (k + 1) 0) = (decide (x = R.getD k 0) && s k) := fun k hk x => by
    show decide _ = _
    by_cases c1 : x = R.getD k 0
    · cases hs : s k with
      | true => rw [decide_eq_true ⟨k, hk, c1, rfl, hs⟩, decide_eq_true c1]; rfl
      | false =>
        rw [Bool.and_false]
        refine decide_eq_false ?_
        rintro ⟨j, hj, _, e, h⟩
        have := K.inj (k + 1) (j + 1) (by omega) (by omega) e
        have : k = j := by omega
        subst this
        rw [hs] at h; cases h
    · rw [decide_eq_false c1, Bool.false_and]
      refine decide_eq_false ?_
      rintro ⟨j, hj, e2, e, h⟩
      have := K.inj (k + 1) (j + 1) (by omega) (by omega) e
      have : k = j := by omega
      subst this
      exact c1 e2
  have de0 : ∀ x y, (∀ k, k < f → x ≠ R.getD k 0) → de x y = false := fun x y h => decide_eq_false fun ⟨k, hk, e, _⟩ => h k hk e
  have de1 : ∀ x y, (∀ k, k < f → y ≠ R.getD (k + 1) 0) → de x y = false := fun x y h => decide_eq_false fun ⟨k, hk, _, e, _⟩ => h k hk e
  have tie : ∀ k, k + 1 < R.length → R.getD (k + 1) 0 ∈ row w (R.getD k 0) := fun k hk => by
    have := (G.hd _ (K.z k (by omega))).1
    rw [sx k hk] at this
    exact this
  -- what the old ties are to bound
  obtain ⟨S, SF, SC⟩ := G.bnd (fun x y => ((c x y).xor (de x y)).xor (de y x)) (fun x y => by
      show ((c x y).xor (de x y)).xor (de y x) = ((c y x).xor (de y x)).xor (de x y)
      rw [sy x y]
      cases c y x <;> cases de x y <;> cases de y x <;> rfl) (fun p hp => by
      have e : par (fun y => ((c p y).xor (de p y)).xor (de y p)) (row w p) = ((par (c p) (row w p)).xor (par (de p) (row w p))).xor (par (fun y => de y p) (row w p)) := by
        rw [par_xor (fun y => (c p y).xor (de p y)) (fun y => de y p), par_xor (c p) (de p)]
      rw [e]
      have evp := ev p (by rw [T.l]; omega)
      by_cases hk : ∃ k, k ≤ f ∧ p = R.getD k 0
      · obtain ⟨k, hk, rfl⟩ := hk
        have hc : par (c (R.getD k 0)) (row w (R.getD k 0)) = c w.length (R.getD k 0) := by
          by_cases k0 : k = 0
          · subst k0
            rw [T.r0, par] at evp
            rw [sy w.length]
            cases h1 : c (R.getD 0 0) w.length <;> cases h2 : par (c (R.getD 0 0)) (row w (R.getD 0 0)) <;> rw [h1, h2] at evp <;> simp at evp ⊢
          · rw [T.rk k (by omega) hk, par_app, par, par, Bool.xor_false] at evp
            rw [sy w.length]
            cases h1 : c (R.getD k 0) w.length <;> cases h2 : par (c (R.getD k 0)) (row w (R.getD k 0)) <;> rw [h1, h2] at evp <;> simp at evp ⊢
        have h1 : par (de (R.getD k 0)) (row w (R.getD k 0)) = if k < f then s k else false := by
          by_cases kf : k < f
          · rw [if_pos kf, par_congr (fun y _ => deE k kf y)]
            exact par_one (g.nod _) (tie k (by omega))
          · rw [if_neg kf]
            exact par_none fun y _ => de0 _ _ fun j hj e => by have := K.inj k j (by omega) (by omega) e; omega
        have h2 : par (fun y => de y (R.getD k 0)) (row w (R.getD k 0)) = sp k := by
          cases k with
          | zero => exact par_none fun y _ => de1 _ _ fun j hj e => by have := K.inj 0 (j + 1) (by omega) (by omega) e; omega
          | succ k =>
            rw [par_congr (fun y _ => deE2 k (by omega) y)]
            exact par_one (g.nod _) (g.sym _ _ (tie k (by omega)))
        rw [hc, h1, h2]
        cases k with
        | zero =>
          rw [if_pos (by omega), s0]
          show ((c w.length (R.getD 0 0)).xor _).xor false = false
          rw [Bool.xor_self]; rfl
        | succ k =>
          show (_ : Bool).xor (s k) = false
          by_cases kf : k + 1 < f
          · rw [if_pos kf, ss k]
            cases s k <;> cases c w.length (R.getD (k + 1) 0) <;> rfl
          · rw [if_neg kf]
            have : k + 1 = f := by omega
            have h := ss k
            rw [this, sf] at h
            rw [this]
            cases h1 : s k <;> cases h2 : c w.length (R.getD f 0) <;> rw [h1, h2] at h <;> simp at h ⊢
      · have n1 : ∀ k, k ≤ f → p ≠ R.getD k 0 := fun k h z => hk ⟨k, h, z⟩
        rw [T.ro p (by omega) n1] at evp
        rw [evp, par_none fun y _ => de0 p y fun k h => n1 k (by omega), par_none fun y _ => de1 y p fun k h => n1 (k + 1) (by omega)]
        rfl)
  -- outside all is alike
  have outC : ∀ i, i < R.length → S (R.getD i 0, succR R (R.getD i 0)) = S (R.getD 0 0, succR R (R.getD 0 0)) := by
    intro i
    induction i with
    | zero => intro _; rfl
    | succ i ih =>
      intro h
      rw [← ih (by omega)]
      have d : Dart w (R.getD i 0, succR R (R.getD i 0)) := (G.hd _ (K.z i (by omega))).1
      rw [SF _ d, G.outer ⟨K.z i (by omega), rfl⟩, sx i h]
  generalize ho : S (R.getD 0 0, succR R (R.getD 0 0)) = o at outC
  let ix : Nat → Nat := fun x => R.idxOf x
  have ixz : ∀ k, k < R.length → ix (R.getD k 0) = k := fun k hk => by
    show R.idxOf _ = k
    rw [List.getD_eq_getElem?_getD, List.getElem?_eq_getElem hk]
    exact G.nd.idxOf_getElem k hk
  let U : Nat × Nat → Bool := fun d => if d.1 = w.length then o.xor (s (ix d.2)) else if d.2 = w.length then o.xor (sp (ix d.1)) else if ∃ k, k < f ∧ d.1 = R.getD k 0 ∧ d.2 = R.getD (k + 1) 0 then o.xor (s (ix d.1)) else S d
  have Uv : ∀ k, k ≤ f → U (w.length, R.getD k 0) = o.xor (s k) := fun k hk => by
    show (if w.length = w.length then o.xor (s (ix (R.getD k 0))) else _) = _
    rw [if_pos rfl, ixz k (by omega)]
  have Ux : ∀ k, k ≤ f → U (R.getD k 0, w.length) = o.xor (sp k) := fun k hk => by
    show (if R.getD k 0 = w.length then _ else if w.length = w.length then o.xor (sp (ix (R.getD k 0))) else _) = _
    rw [if_neg (znv k (by omega)), if_pos rfl, ixz k (by omega)]
  have Ua : ∀ k, k < f → U (R.getD k 0, R.getD (k + 1) 0) = o.xor (s k) := fun k hk => by
    show (if R.getD k 0 = w.length then _ else if R.getD (k + 1) 0 = w.length then _ else if _ then o.xor (s (ix (R.getD k 0))) else _) = _
    rw [if_neg (znv k (by omega)), if_neg (znv (k + 1) (by omega)), if_pos ⟨k, hk, rfl, rfl⟩, ixz k (by omega)]
  have Uo : ∀ x y, x ≠ w.length → y ≠ w.length → (∀ k, k < f → x = R.getD k 0 → y ≠ R.getD (k + 1) 0) → U (x, y) = S (x, y) := fun x y h1 h2 h3 => by
    show (if x = w.length then _ else if y = w.length then _ else if _ then _ else S (x, y)) = _
    rw [if_neg h1, if_neg h2, if_neg (fun ⟨k, hk, e1, e2⟩ => h3 k hk e1 e2)]
  have oxf : ∀ b : Bool, b.xor false = b := Bool.xor_false
  refine ⟨U, fun d hd => ?_, fun x y hd => ?_⟩
  · obtain ⟨x, y⟩ := d
    by_cases xv : x = w.length
    · subst xv
      obtain ⟨k, hk, rfl⟩ := (K.dv y).mp hd
      rw [K.n4 k hk, Uv k hk]
      by_cases kf : k < f
      · rw [sx k (by omega), Ua k kf]
      · have : k = f := by omega
        subst this
        rw [Uo _ _ (znv k (by omega)) (by
          have := succR_mem (K.z k (by omega))
          have := row_lt (G.hd _ this).1
          omega) (fun j hj e => by have := K.inj k j (by omega) (by omega) e; omega), outC k (by omega), sf, oxf]
    · by_cases yv : y = w.length
      · subst yv
        rcases (K.dx x xv _).mp hd with h | ⟨_, k, hk, rfl⟩
        · exact absurd (g.rng _ _ h) (Nat.lt_irrefl _)
        · cases k with
          | zero =>
            rw [K.n3e, Ux 0 hk, Uv f (Nat.le_refl _), sf]
          | succ k =>
            rw [K.n3 k (by omega), Ux (k + 1) hk, Uv k (by omega)]
      · have d0 : Dart w (x, y) := by
          rcases (K.dx x xv y).mp hd with h | ⟨h, _⟩
          · exact h
          · exact absurd h yv
        by_cases ad : adj R x y
        · obtain ⟨hx, rfl⟩ := ad
          obtain ⟨i, hi, rfl⟩ : ∃ i, i < R.length ∧ x = R.getD i 0 := by
            obtain ⟨i, hi, e⟩ := List.mem_iff_getElem.mp hx
            exact ⟨i, hi, by rw [List.getD_eq_getElem?_getD, List.getElem?_eq_getElem hi]; exact e.symm⟩
          by_cases c1 : i < f
          · rw [sx i (by omega), K.n2 i c1, Ua i c1, Ux (i + 1) (by omega)]
          · have u1 : U (R.getD i 0, succR R (R.getD i 0)) = o := by
              rw [Uo _ _ xv yv (fun j hj e => by have := K.inj i j (by omega) (by omega) e; omega), outC i hi]
            rw [u1]
            by_cases c2 : i + 1 < R.length
            · rw [sx i c2, K.n1o i (by omega) c2, Uo _ _ (znv _ c2) (by
                have := succR_mem (K.z (i + 1) c2)
                have := row_lt (G.hd _ this).1
                omega) (fun j hj e => by have := K.inj (i + 1) j (by omega) (by omega) e; omega), outC (i + 1) c2]
            · have : i = R.length - 1 := by omega
              subst this
              rw [se, K.n1e, Ux 0 (Nat.zero_le _)]
              exact (oxf o).symm
        · have e := K.n1 x y d0 ad
          have tr := (G.tri x y d0 ad).2
          have dn := nxt_dart g d0
          have lo : ∀ p q, Dart w (p, q) → ¬ adj R p q → U (p, q) = S (p, q) := fun p q h1 h2 => by
            have a1 := row_lt (show q ∈ row w p from h1)
            have a2 := g.rng _ _ (show q ∈ row w p from h1)
            exact Uo p q (by omega) (by omega) fun k hk e1 e2 => h2 ⟨by rw [e1]; exact K.z k (by omega), by rw [e1, e2, sx k (by omega)]⟩
          rw [e, lo x y d0 ad, SF _ d0]
          exact (lo _ _ dn tr).symm
  · by_cases xv : x = w.length
    · subst xv
      obtain ⟨k, hk, rfl⟩ := (K.dv y).mp hd
      rw [Uv k hk, Ux k hk]
      cases k with
      | zero =>
        rw [s0]
        show (o.xor _).xor (o.xor false) = _
        cases o <;> cases c w.length (R.getD 0 0) <;> rfl
      | succ k =>
        rw [ss k]
        show (o.xor _).xor (o.xor (s k)) = _
        cases o <;> cases s k <;> cases c w.length (R.getD (k + 1) 0) <;> rfl
    · by_cases yv : y = w.length
      · subst yv
        rcases (K.dx x xv _).mp hd with h | ⟨_, k, hk, rfl⟩
        · exact absurd (g.rng _ _ h) (Nat.lt_irrefl _)
        · rw [Uv k hk, Ux k hk, sy]
          cases k with
          | zero =>
            rw [s0]
            show (o.xor false).xor (o.xor _) = _
            cases o <;> cases c w.length (R.getD 0 0) <;> rfl
          | succ k =>
            rw [ss k]
            show (o.xor (s k)).xor (o.xor _) = _
            cases o <;> cases s k <;> cases c w.length (R.getD (k + 1) 0) <;> rfl
      · have d0 : Dart w (x, y) := by
          rcases (K.dx x xv y).mp hd with h | ⟨h, _⟩
          · exact h
          · exact absurd h yv
        have sc := SC x y d0
        by_cases a1 : ∃ k, k < f ∧ x = R.getD k 0 ∧ y = R.getD (k + 1) 0
        · obtain ⟨k, hk, rfl, rfl⟩ := a1
          have e1 : S (R.getD k 0, R.getD (k + 1) 0) = o := by rw [← sx k (by omega)]; exact outC k (by omega)
          have e2 : de (R.getD k 0) (R.getD (k + 1) 0) = s k := by rw [deE k hk]; simp
          have e3 : de (R.getD (k + 1) 0) (R.getD k 0) = false := decide_eq_false fun ⟨j, hj, e, e', _⟩ => by
            have := K.inj (k + 1) j (by omega) (by omega) e
            have := K.inj k (j + 1) (by omega) (by omega) e'
            omega
          rw [Ua k hk, Uo _ _ (znv (k + 1) (by omega)) (znv k (by omega)) (fun j hj e e' => by
            have := K.inj (k + 1) j (by omega) (by omega) e
            have := K.inj k (j + 1) (by omega) (by omega) e'
            omega)]
          rw [e1, e2, e3] at sc
          revert sc
          cases o <;> cases s k <;> cases S (R.getD (k + 1) 0, R.getD k 0) <;> cases c (R.getD k 0) (R.getD (k + 1) 0) <;> simp
        · by_cases a2 : ∃ k, k < f ∧ y = R.getD k 0 ∧ x = R.getD (k + 1) 0
          · obtain ⟨k, hk, rfl, rfl⟩ := a2
            have e1 : S (R.getD k 0, R.getD (k + 1) 0) = o := by rw [← sx k (by omega)]; exact outC k (by omega)
            have e2 : de (R.getD k 0) (R.getD (k + 1) 0) = s k := by rw [deE k hk]; simp
            have e3 : de (R.getD (k + 1) 0) (R.getD k 0) = false := decide_eq_false fun ⟨j, hj, e, e', _⟩ => by
              have := K.inj (k + 1) j (by omega) (by omega) e
              have := K.inj k (j + 1) (by omega) (by omega) e'
              omega
            rw [Ua k hk, Uo _ _ (znv (k + 1) (by omega)) (znv k (by omega)) (fun j hj e e' => a1 ⟨j, hj, e, e'⟩)]
            rw [e1, e2, e3] at sc
            revert sc
            cases o <;> cases s k <;> cases S (R.getD (k + 1) 0, R.getD k 0) <;> cases c (R.getD (k + 1) 0) (R.getD k 0) <;> simp
          · have e2 : de x y = false := decide_eq_false fun ⟨j, hj, e, e', _⟩ => a1 ⟨j, hj, e, e'⟩
            have e3 : de y x = false := decide_eq_false fun ⟨j, hj, e, e', _⟩ => a2 ⟨j, hj, e, e'⟩
            rw [Uo x y xv yv (fun j hj e e' => a1 ⟨j, hj, e, e'⟩), Uo y x yv xv (fun j hj e e' => a2 ⟨j, hj, e, e'⟩), sc, e2, e3]
            simp
theorem step_grown (G : Grown w R) (T : Step w w' R f) : Grown w' (grownR R f w.length) := by
  have g := G.g
  have g' := step_good G T
  have fn := T.fn
  have f1 := T.f1
  have K := step_facts G T
  have F := rim_facts G T
  have len := G.len
  have znv : ∀ k, k < R.length → R.getD k 0 ≠ w.length := fun k h => by have := K.zlt k h; omega
  have sx : ∀ i, i + 1 < R.length → succR R (R.getD i 0) = R.getD (i + 1) 0 := fun i h => succR_ix G.nd h
  have se : succR R (R.getD (R.length - 1) 0) = R.getD 0 0 := succR_end G.nd (by omega)
  have lrow : ∀ k, k < R.length → (row w (R.getD k 0)).length ≠ 0 := fun k hk z => by
    have := (G.hd _ (K.z k hk)).1
    rw [List.length_eq_zero_iff.mp z] at this
    cases this
  have rvl : (R.take (f + 1)).reverse.length = f + 1 := by rw [List.length_reverse, List.length_take]; omega
  have e0 := take_rev_get fn (Nat.zero_le f)
  have ef := take_rev_get fn (Nat.le_refl f)
  rw [Nat.sub_zero] at e0
  rw [Nat.sub_self] at ef
  have m0 : R.getD 0 0 ∈ grownR R f w.length := (F.mem _).mpr (.inl rfl)
  have mv : w.length ∈ grownR R f w.length := (F.mem _).mpr (.inr (.inl rfl))
  have mi : ∀ i, f ≤ i → i < R.length → R.getD i 0 ∈ grownR R f w.length := fun i h1 h2 => (F.mem _).mpr (.inr (.inr ⟨i, h1, h2, rfl⟩))
  -- a row of an older point, its first and its last
  have rowO : ∀ i, f < i → i < R.length → row w' (R.getD i 0) = row w (R.getD i 0) := fun i h1 h2 => T.ro _ (znv i h2) fun k hk e => by have := K.inj i k h2 (by omega) e; omega
  refine ⟨g', F.nd, by have := F.len; omega, fun x hx => ?_, fun x hx => ?_, fun x y hd n => ?_, step_bnd G T⟩
  · rcases (F.mem x).mp hx with rfl | rfl | ⟨i, h1, h2, rfl⟩
    · rw [F.s0, T.r0]
      exact ⟨List.mem_cons_self .., rfl⟩
    · rw [F.sv, T.rv]
      exact ⟨by rw [← ef]; exact getD_memL (by omega), ef⟩
    · rw [F.si i h1 h2]
      have h := G.hd _ (K.z i h2)
      by_cases c : i = f
      · subst c
        rw [T.rk i f1 (Nat.le_refl _)]
        refine ⟨List.mem_append_left _ h.1, ?_⟩
        rw [List.getD_eq_getElem?_getD, List.getElem?_append_left (by have := lrow i h2; omega), ← List.getD_eq_getElem?_getD]
        exact h.2
      · rw [rowO i (by omega) h2]; exact h
  · rcases (F.mem x).mp hx with rfl | rfl | ⟨i, h1, h2, rfl⟩
    · have h := G.ls _ (K.z 0 (by omega))
      have el : (row w' (R.getD 0 0)).getD ((row w' (R.getD 0 0)).length - 1) 0 = R.getD (R.length - 1) 0 := by
        have l0 := lrow 0 (by omega)
        rw [T.r0, List.length_cons, show (row w (R.getD 0 0)).length + 1 - 1 = (row w (R.getD 0 0)).length - 1 + 1 by omega, List.getD_cons_succ]
        exact succR_inj G.nd h.1 (K.z _ (by omega)) (by rw [h.2, se])
      rw [el]
      exact ⟨mi _ (by omega) (by omega), by rw [F.si _ (by omega) (by omega), se]⟩
    · rw [T.rv, rvl, show f + 1 - 1 = f by omega, e0]
      exact ⟨m0, F.s0⟩
    · by_cases c : i = f
      · subst c
        have el : (row w' (R.getD i 0)).getD ((row w' (R.getD i 0)).length - 1) 0 = w.length := by
          rw [T.rk i f1 (Nat.le_refl _), List.length_append, List.length_singleton, Nat.add_sub_cancel, List.getD_eq_getElem?_getD, List.getElem?_append_right (Nat.le_refl _), Nat.sub_self]; rfl
        rw [el]
        exact ⟨mv, F.sv⟩
      · obtain ⟨e, ne⟩ := G.lastR (K.z i h2) (K.z (i - 1) (by omega)) (by rw [sx (i - 1) (by omega), show i - 1 + 1 = i by omega])
        rw [rowO i (by omega) h2, e]
        refine ⟨mi _ (by omega) (by omega), ?_⟩
        rw [F.si _ (by omega) (by omega), sx (i - 1) (by omega), show i - 1 + 1 = i by omega]
  · by_cases xv : x = w.length
    · subst xv
      obtain ⟨k, hk, rfl⟩ := (K.dv y).mp hd
      have kf : k < f := by
        apply Classical.byContradiction
        intro c
        have : k = f := by omega
        subst this
        exact n ⟨mv, F.sv.symm⟩
      have e1 := K.n4 k hk
      rw [sx k (by omega)] at e1
      rw [e1, K.n2 k kf, K.n3 k kf]
      refine ⟨rfl, fun z => ?_⟩
      rcases F.adj z with ⟨_, h⟩ | ⟨h, _⟩ | ⟨i, h1, h2, h3, _⟩
      · exact znv (k + 1) (by omega) h
      · exact znv k (by omega) h
      · have := K.inj k i (by omega) h2 h3; omega
    · by_cases yv : y = w.length
      · subst yv
        rcases (K.dx x xv _).mp hd with h | ⟨_, k, hk, rfl⟩
        · exact absurd (g.rng _ _ h) (Nat.lt_irrefl _)
        · cases k with
          | zero => exact absurd ⟨m0, F.s0.symm⟩ n
          | succ k =>
            have e4 := K.n4 k (by omega)
            rw [sx k (by omega)] at e4
            rw [K.n3 k (by omega), e4, K.n2 k (by omega)]
            refine ⟨rfl, fun z => ?_⟩
            rcases F.adj z with ⟨h, _⟩ | ⟨_, h⟩ | ⟨i, h1, h2, h3, _⟩
            · exact znv 0 (by omega) h.symm
            · have := K.inj k f (by omega) fn h; omega
            · exact znv i h2 h3.symm
      · have d0 : Dart w (x, y) := by
          rcases (K.dx x xv y).mp hd with h | ⟨h, _⟩
          · exact h
          · exact absurd h yv
        by_cases ad : adj R x y
        · obtain ⟨hx, rfl⟩ := ad
          obtain ⟨i, hi, rfl⟩ : ∃ i, i < R.length ∧ x = R.getD i 0 := by
            obtain ⟨i, hi, e⟩ := List.mem_iff_getElem.mp hx
            exact ⟨i, hi, by rw [List.getD_eq_getElem?_getD, List.getElem?_eq_getElem hi]; exact e.symm⟩
          have c1 : i < f := by
            apply Classical.byContradiction
            intro c
            exact n ⟨mi i (by omega) hi, (F.si i (by omega) hi).symm⟩
          have e4 := K.n4 i (by omega)
          rw [sx i (by omega)] at e4
          rw [sx i (by omega), K.n2 i c1, K.n3 i c1, e4]
          refine ⟨rfl, fun z => ?_⟩
          rcases F.adj z with ⟨h, _⟩ | ⟨h, _⟩ | ⟨j, h1, h2, _, h4⟩
          · have := K.inj (i + 1) 0 (by omega) (by omega) h; omega
          · exact znv (i + 1) (by omega) h
          · have := succR_mem (K.z j h2)
            have := row_lt (G.hd _ this).1
            have h4 : w.length = succR R (R.getD j 0) := h4
            omega
        · have step : ∀ p q, Dart w (p, q) → ¬ adj R p q → nxt w' (p, q) = nxt w (p, q) := fun p q h1 h2 => K.n1 p q h1 h2
          have t1 := G.tri x y d0 ad
          have d1 := nxt_dart g d0
          have t2 := G.tri _ _ d1 t1.2
          have d2 := nxt_dart g d1
          have e1 := step x y d0 ad
          have e2 : nxt w' (nxt w (x, y)) = nxt w (nxt w (x, y)) := step _ _ d1 t1.2
          have e3 : nxt w' (nxt w (nxt w (x, y))) = nxt w (nxt w (nxt w (x, y))) := step _ _ d2 t2.2
          rw [e1, e2, e3]
          refine ⟨t1.1, fun z => ?_⟩
          have b1 := row_lt (show (nxt w (x, y)).2 ∈ row w (nxt w (x, y)).1 from d1)
          have b2 := g.rng _ _ (show (nxt w (x, y)).2 ∈ row w (nxt w (x, y)).1 from d1)
          rcases F.adj z with ⟨_, h⟩ | ⟨h, _⟩ | ⟨i, h1, h2, h3, h4⟩
          · omega
          · omega
          · exact t1.2 ⟨by rw [h3]; exact K.z i h2, by rw [h4, ← h3]⟩
/-- the first three points -/
theorem grown_three : Grown [[1, 2], [2, 0], [0, 1]] [0, 1, 2] := by
  have row0 : row [[1, 2], [2, 0], [0, 1]] 0 = [1, 2] := rfl
  have row1 : row [[1, 2], [2, 0], [0, 1]] 1 = [2, 0] := rfl
  have row2 : row [[1, 2], [2, 0], [0, 1]] 2 = [0, 1] := rfl
  have rowO : ∀ x, 3 ≤ x → row [[1, 2], [2, 0], [0, 1]] x = [] := fun x h => row_out h
  have c3 : ∀ x, x < 3 → x = 0 ∨ x = 1 ∨ x = 2 := fun x h => by omega
  have rl : ∀ {x y}, y ∈ row [[1, 2], [2, 0], [0, 1]] x → x < 3 := fun h => row_lt h
  have dec : ∀ x, x < 3 → ∀ y, y < 3 → (y ∈ row [[1, 2], [2, 0], [0, 1]] x ↔ x ≠ y) := by decide
  have inR : ∀ {x y}, y ∈ row [[1, 2], [2, 0], [0, 1]] x → y < 3 := fun {x y} h => by
    rcases c3 x (rl h) with rfl | rfl | rfl
    · rw [row0] at h; simp at h; omega
    · rw [row1] at h; simp at h; omega
    · rw [row2] at h; simp at h; omega
  have g : Good [[1, 2], [2, 0], [0, 1]] := by
    refine ⟨fun p q h => inR h, fun p h => ?_, fun p => ?_, fun p q h => ?_, fun p hp => ?_⟩
    · exact ((dec p (rl h) p (rl h)).mp h) rfl
    · by_cases c : p < 3
      · rcases c3 p c with rfl | rfl | rfl <;> decide
      · rw [rowO p (by omega)]; exact List.nodup_nil
    · have a := rl h
      have b := inR h
      exact (dec q b p a).mpr (Ne.symm ((dec p a q b).mp h))
    · rcases c3 p hp with rfl | rfl | rfl
      · exact .refl _
      · exact .step (.refl _) (by rw [row0]; simp)
      · exact .step (.refl _) (by rw [row0]; simp)
  have darts3 : ∀ x y, Dart [[1, 2], [2, 0], [0, 1]] (x, y) → (x, y) ∈ [(0, 1), (1, 2), (2, 0), (1, 0), (0, 2), (2, 1)] := fun x y h => by
    have a := rl h
    have b := inR h
    have n := (dec x a y b).mp h
    rcases c3 x a with rfl | rfl | rfl <;> rcases c3 y b with rfl | rfl | rfl <;> first | exact absurd rfl n | decide
  have sc : succR [0, 1, 2] 0 = 1 ∧ succR [0, 1, 2] 1 = 2 ∧ succR [0, 1, 2] 2 = 0 := by decide
  refine ⟨g, by decide, by decide, by decide, by decide, fun x y hd n => ?_, ?_⟩
  · have hm := darts3 x y hd
    simp only [List.mem_cons, Prod.mk.injEq, List.not_mem_nil, or_false] at hm
    rcases hm with ⟨rfl, rfl⟩ | ⟨rfl, rfl⟩ | ⟨rfl, rfl⟩ | ⟨rfl, rfl⟩ | ⟨rfl, rfl⟩ | ⟨rfl, rfl⟩
    · exact absurd ⟨by simp, sc.1.symm⟩ n
    · exact absurd ⟨by simp, sc.2.1.symm⟩ n
    · exact absurd ⟨by simp, sc.2.2.symm⟩ n
    · exact ⟨by decide, fun z => by have h := z.2; revert h; decide⟩
    · exact ⟨by decide, fun z => by have h := z.2; revert h; decide⟩
    · exact ⟨by decide, fun z => by have h := z.2; revert h; decide⟩
  · intro c sy ev
    have h0 := ev 0 (by decide)
    have h1 := ev 1 (by decide)
    rw [row0] at h0
    rw [row1] at h1
    simp only [par, Bool.xor_false] at h0 h1
    refine ⟨fun d => decide (d = (1, 0) ∨ d = (0, 2) ∨ d = (2, 1)) && c 0 1, fun d hd => ?_, fun x y hd => ?_⟩
    · obtain ⟨x, y⟩ := d
      have hm := darts3 x y hd
      simp only [List.mem_cons, Prod.mk.injEq, List.not_mem_nil, or_false] at hm
      rcases hm with ⟨rfl, rfl⟩ | ⟨rfl, rfl⟩ | ⟨rfl, rfl⟩ | ⟨rfl, rfl⟩ | ⟨rfl, rfl⟩ | ⟨rfl, rfl⟩ <;> (refine congrArg (· && c 0 1) ?_; decide)
    · have hm := darts3 x y hd
      simp only [List.mem_cons, Prod.mk.injEq, List.not_mem_nil, or_false] at hm
      have e1 : c 0 2 = c 0 1 := by revert h0; cases c 0 1 <;> cases c 0 2 <;> simp
      have e2 : c 1 2 = c 0 1 := by
        rw [sy 1 0] at h1
        revert h1; cases c 0 1 <;> cases c 1 2 <;> simp
      rcases hm with ⟨rfl, rfl⟩ | ⟨rfl, rfl⟩ | ⟨rfl, rfl⟩ | ⟨rfl, rfl⟩ | ⟨rfl, rfl⟩ | ⟨rfl, rfl⟩
      · simp
      · simp [e2]
      · rw [sy 2 0, e1]; simp
      · rw [sy 1 0]; simp
      · simp [e1]
      · rw [sy 2 1, e2]; simp
end
end Wb

set_option linter.all false
set_option maxRecDepth 100000
/-! a web whose points are named anew, and whose turns are begun elsewhere -/
namespace Wb
structure Ren (w w' : W) (f : Nat → Nat) : Prop where
  len : w'.length = w.length
  lt : ∀ x, x < w.length → f x < w.length
  inj : ∀ x y, x < w.length → y < w.length → f x = f y → x = y
  onto : ∀ y, y < w.length → ∃ x, x < w.length ∧ f x = y
  rows : ∀ x, x < w.length → ∃ a b, row w x = a ++ b ∧ row w' (f x) = (b ++ a).map f
theorem idxOf_map {f : Nat → Nat} {x : Nat} : ∀ {l : List Nat}, (∀ y ∈ l, f y = f x → y = x) → (l.map f).idxOf (f x) = l.idxOf x
  | [], _ => rfl
  | a :: l, h => by
    rw [List.map_cons, List.idxOf_cons, List.idxOf_cons, idxOf_map fun y hy => h y (List.mem_cons_of_mem _ hy)]
    by_cases c : a = x
    · subst c; simp
    · have : f a ≠ f x := fun z => c (h a (List.mem_cons_self ..) z)
      have e1 : (f a == f x) = false := by simpa using this
      have e2 : (a == x) = false := by simpa using c
      rw [e1, e2]
theorem succR_map {f : Nat → Nat} {l : List Nat} {x : Nat} (h : ∀ y ∈ l, f y = f x → y = x) (hx : x ∈ l) : succR (l.map f) (f x) = f (succR l x) := by
  have e := succR_get hx
  show (l.map f).getD (((l.map f).idxOf (f x) + 1) % (l.map f).length) 0 = _
  rw [idxOf_map h, List.length_map, List.getD_eq_getElem?_getD, List.getElem?_map, e]
  rfl
section
variable {w w' : W} {f : Nat → Nat}
theorem Ren.good (N : Ren w w' f) (g : Good w) : Good w' :=
  good_ren g N.len N.lt N.inj N.onto fun p hp => by
    obtain ⟨a, b, e1, e2⟩ := N.rows p hp
    rw [e1, e2]
    exact (List.perm_append_comm (l₁ := b) (l₂ := a)).map f
theorem Ren.mem (N : Ren w w' f) {x z : Nat} (hx : x < w.length) : z ∈ row w' (f x) ↔ ∃ y, y ∈ row w x ∧ f y = z := by
  obtain ⟨a, b, e1, e2⟩ := N.rows x hx
  rw [e2, List.mem_map]
  constructor
  · rintro ⟨y, hy, rfl⟩
    exact ⟨y, by rw [e1]; exact List.perm_append_comm.mem_iff.mp hy, rfl⟩
  · rintro ⟨y, hy, rfl⟩
    rw [e1] at hy
    exact ⟨y, List.perm_append_comm.mem_iff.mp hy, rfl⟩
theorem Ren.dart (N : Ren w w' f) (g : Good w) {x y : Nat} (hx : x < w.length) (hy : y < w.length) : Dart w' (f x, f y) ↔ Dart w (x, y) := by
  show f y ∈ row w' (f x) ↔ y ∈ row w x
  rw [N.mem hx]
  constructor
  · rintro ⟨z, hz, e⟩
    have := N.inj z y (g.rng _ _ hz) hy e
    rw [← this]; exact hz
  · exact fun h => ⟨y, h, rfl⟩
theorem Ren.all (N : Ren w w' f) (g : Good w) {d : Nat × Nat} (h : Dart w' d) : ∃ x y, Dart w (x, y) ∧ d = (f x, f y) := by
  obtain ⟨a, b⟩ := d
  have ha := row_lt (show b ∈ row w' a from h)
  rw [N.len] at ha
  obtain ⟨x, hx, rfl⟩ := N.onto a ha
  obtain ⟨y, hy, e⟩ := (N.mem hx).mp h
  have e : f y = b := e
  exact ⟨x, y, hy, by rw [e]⟩
theorem Ren.succ (N : Ren w w' f) (g : Good w) {x y : Nat} (h : y ∈ row w x) : succR (row w' (f x)) (f y) = f (succR (row w x) y) := by
  obtain ⟨a, b, e1, e2⟩ := N.rows x (row_lt h)
  have hm : y ∈ a ++ b := e1 ▸ h
  have hm' : y ∈ b ++ a := List.perm_append_comm.mem_iff.mp hm
  have nd := g.nod x
  rw [e1] at nd
  rw [e2, e1, succR_map (fun z hz e => N.inj z y (g.rng x z (by rw [e1]; exact List.perm_append_comm.mem_iff.mp hz)) (g.rng _ _ h) e) hm', succR_rot nd hm]
theorem Ren.nx1 (N : Ren w w' f) (g : Good w) {x y : Nat} (h : Dart w (x, y)) : nxt w' (f x, f y) = (f (nxt w (x, y)).1, f (nxt w (x, y)).2) := by
  show (f y, succR (row w' (f y)) (f x)) = (f y, f (succR (row w y) x))
  rw [N.succ g (g.sym _ _ h)]
theorem Ren.disc (N : Ren w w' f) (g : Good w) {R : List Nat} {A : Nat × Nat → Prop} (D : Disc w R A) :
    Disc w' (R.map f) fun d => ∃ x y, A (x, y) ∧ d = (f x, f y) := by
  have lt1 : ∀ {x y}, Dart w (x, y) → x < w.length ∧ y < w.length := fun h => ⟨row_lt h, g.rng _ _ h⟩
  have ltR : ∀ p ∈ R, p < w.length := fun p hp => (lt1 (D.ring p hp).1).2
  have inj : ∀ p ∈ R, ∀ y ∈ R, f y = f p → y = p := fun p hp y hy e => N.inj y p (ltR y hy) (ltR p hp) e
  have iff_ : ∀ {x y}, Dart w (x, y) → ((∃ x' y', A (x', y') ∧ (f x, f y) = (f x', f y')) ↔ A (x, y)) := fun {x y} h => by
    constructor
    · rintro ⟨x', y', a, e⟩
      have h' := lt1 (D.dart _ a)
      have e1 := N.inj x x' (lt1 h).1 h'.1 (congrArg Prod.fst e)
      have e2 := N.inj y y' (lt1 h).2 h'.2 (congrArg Prod.snd e)
      rw [e1, e2]; exact a
    · exact fun a => ⟨x, y, a, rfl⟩
  have sR : ∀ p ∈ R, succR (R.map f) (f p) = f (succR R p) := fun p hp => succR_map (inj p hp) hp
  have nx : ∀ {x y}, Dart w (x, y) → Dart w ((nxt w (x, y)).1, (nxt w (x, y)).2) := fun h => nxt_dart g h
  refine ⟨?_, by rw [List.length_map]; exact D.len, ?_, ?_, ?_, ?_, ?_⟩
  · unfold List.Nodup
    rw [List.pairwise_map]
    exact List.Pairwise.imp_of_mem (fun {a b} ha hb ne e => ne (inj b hb a ha e)) D.nd
  · rintro d ⟨x, y, a, rfl⟩
    have h := D.dart _ a
    exact (N.dart g (lt1 h).1 (lt1 h).2).mpr h
  · intro d hd
    obtain ⟨x, y, h, rfl⟩ := N.all g hd
    rw [N.nx1 g h, iff_ h, iff_ (nx h)]
    exact D.face _ h
  · rintro d ⟨x, y, a, rfl⟩
    have h := D.dart _ a
    rw [N.nx1 g h, N.nx1 g (nx h), N.nx1 g (nx (nx h))]
    have e := D.tri _ a
    show (f (nxt w (nxt w (nxt w (x, y)))).1, f (nxt w (nxt w (nxt w (x, y)))).2) = _
    rw [e]
  · intro p' hp'
    obtain ⟨p, hp, rfl⟩ := List.mem_map.mp hp'
    rw [sR p hp]
    have r := D.ring p hp
    have h := lt1 r.1
    refine ⟨(N.dart g h.1 h.2).mpr r.1, (iff_ r.1).mpr r.2.1, fun z => r.2.2 ((iff_ (g.sym _ _ r.1)).mp z)⟩
  · intro p' q' hd n1 n2
    obtain ⟨p, q, h, e⟩ := N.all g hd
    obtain ⟨rfl, rfl⟩ := Prod.mk.injEq .. ▸ e
    rw [iff_ h, iff_ (g.sym _ _ h)]
    refine D.sym p q h (fun z => n1 ⟨List.mem_map.mpr ⟨p, z.1, rfl⟩, by rw [sR p z.1, ← z.2]⟩) (fun z => n2 ⟨List.mem_map.mpr ⟨q, z.1, rfl⟩, by rw [sR q z.1, ← z.2]⟩)
theorem par_map {α β : Type} (c : β → Bool) (f : α → β) : ∀ l : List α, par c (l.map f) = par (fun x => c (f x)) l
  | [] => rfl
  | x :: l => by rw [List.map_cons, par, par, par_map c f l]
open Classical in
theorem Ren.bnd (N : Ren w w' f) (g : Good w) (B : Bnd w) : Bnd w' := by
  intro c sy ev
  have lt1 : ∀ {x y}, Dart w (x, y) → x < w.length ∧ y < w.length := fun h => ⟨row_lt h, g.rng _ _ h⟩
  obtain ⟨S, h1, h2⟩ := B (fun x y => c (f x) (f y)) (fun x y => sy _ _) (fun p hp => by
    obtain ⟨a, b, e1, e2⟩ := N.rows p hp
    have := ev (f p) (by rw [N.len]; exact N.lt p hp)
    rw [e2, par_map, par_app] at this
    rw [e1, par_app, Bool.xor_comm]
    exact this)
  have val : ∀ {x y}, Dart w (x, y) → decide (∃ x' y', Dart w (x', y') ∧ S (x', y') = true ∧ (f x, f y) = (f x', f y')) = S (x, y) := fun {x y} h => by
    by_cases s : S (x, y) = true
    · rw [s]
      exact decide_eq_true ⟨x, y, h, s, rfl⟩
    · rw [Bool.not_eq_true] at s
      rw [s]
      refine decide_eq_false ?_
      rintro ⟨x', y', h', s', e⟩
      have e1 := N.inj x x' (lt1 h).1 (lt1 h').1 (congrArg Prod.fst e)
      have e2 := N.inj y y' (lt1 h).2 (lt1 h').2 (congrArg Prod.snd e)
      rw [e1, e2, s'] at s
      exact absurd s (by decide)
  have nx : ∀ {x y}, Dart w (x, y) → Dart w ((nxt w (x, y)).1, (nxt w (x, y)).2) := fun h => nxt_dart g h
  refine ⟨fun d => decide (∃ x' y', Dart w (x', y') ∧ S (x', y') = true ∧ d = (f x', f y')), fun d hd => ?_, fun a b hd => ?_⟩
  · obtain ⟨x, y, h, rfl⟩ := N.all g hd
    rw [N.nx1 g h]
    show decide _ = decide _
    rw [val h, val (nx h)]
    exact h1 _ h
  · obtain ⟨x, y, h, e⟩ := N.all g hd
    obtain ⟨rfl, rfl⟩ := Prod.mk.injEq .. ▸ e
    show (decide _).xor (decide _) = _
    rw [val h, val (g.sym _ _ h)]
    exact h2 _ _ h
end
/-! a land as the ring, where all lands have three points -/
theorem Grown.three {w : W} {R : List Nat} (G : Grown w R) (l3 : R.length = 3) {d : Nat × Nat} (hd : Dart w d) : nxt w (nxt w (nxt w d)) = d := by
  by_cases c : adj R d.1 d.2
  · have e1 : nxt w d = (d.2, succR R d.2) := G.outer c
    have m2 : d.2 ∈ R := by rw [c.2]; exact succR_mem c.1
    have e2 := G.outer (x := d.2) (y := succR R d.2) ⟨m2, rfl⟩
    have m3 := succR_mem m2
    have e3 := G.outer (x := succR R d.2) (y := succR R (succR R d.2)) ⟨m3, rfl⟩
    rw [e1, e2, e3, c.2]
    have key : ∀ x ∈ R, succR R (succR R (succR R x)) = x := fun x hx => by
      match R, l3, G.nd, hx with
      | [a, b, e], _, nd, hx =>
        simp only [List.nodup_cons, List.mem_cons, List.not_mem_nil, or_false, not_or] at nd
        have s1 : succR [a, b, e] a = b := succR_app (a := []) (b := [e]) (by simp [nd])
        have s2 : succR [a, b, e] b = e := succR_app (a := [a]) (b := []) (by simp [nd])
        have s3 : succR [a, b, e] e = a := succR_last (b := [b]) (by simp [nd])
        simp only [List.mem_cons, List.not_mem_nil, or_false] at hx
        rcases hx with rfl | rfl | rfl
        · rw [s1, s2, s3]
        · rw [s2, s3, s1]
        · rw [s3, s1, s2]
    rw [key _ c.1]
    exact Prod.ext rfl c.2.symm
  · exact (G.tri d.1 d.2 hd c).1
theorem land_disc {w : W} (g : Good w) (tri : ∀ d, Dart w d → nxt w (nxt w (nxt w d)) = d) {a b : Nat} (hd : Dart w (a, b)) :
    Disc w [a, b, succR (row w b) a] fun d => Dart w d ∧ d ≠ (a, b) ∧ d ≠ (b, succR (row w b) a) ∧ d ≠ (succR (row w b) a, a) := by
  have e1 : nxt w (a, b) = (b, succR (row w b) a) := rfl
  have d2 : Dart w (b, succR (row w b) a) := e1 ▸ nxt_dart g hd
  generalize hc : succR (row w b) a = c at *
  have e3 := tri _ hd
  rw [e1] at e3
  have e2a : nxt w (b, c) = (c, succR (row w c) b) := rfl
  have e2 : nxt w (b, c) = (c, a) := by
    rw [e2a] at e3 ⊢
    have := congrArg Prod.fst e3
    exact congrArg _ this
  have d3 : Dart w (c, a) := e2 ▸ nxt_dart g d2
  have e3' : nxt w (c, a) = (a, b) := by rw [e2] at e3; exact e3
  have nab : a ≠ b := fun z => g.irr a (by have : b ∈ row w a := hd; rw [← z] at this; exact this)
  have nbc : b ≠ c := fun z => g.irr b (by have : c ∈ row w b := d2; rw [← z] at this; exact this)
  have nca : c ≠ a := fun z => g.irr c (by have : a ∈ row w c := d3; rw [← z] at this; exact this)
  have nd : [a, b, c].Nodup := by simp [nab, nbc, Ne.symm nca]
  have s1 : succR [a, b, c] a = b := succR_app (a := []) (b := [c]) nd
  have s2 : succR [a, b, c] b = c := succR_app (a := [a]) (b := []) nd
  have s3 : succR [a, b, c] c = a := succR_last (b := [b]) nd
  have step : ∀ d, Dart w d → ((d ≠ (a, b) ∧ d ≠ (b, c) ∧ d ≠ (c, a)) ↔ (nxt w d ≠ (a, b) ∧ nxt w d ≠ (b, c) ∧ nxt w d ≠ (c, a))) := fun d h => by
    have i1 : nxt w d = (a, b) ↔ d = (c, a) := ⟨fun z => nxt_inj g h d3 (z.trans e3'.symm), fun z => by rw [z, e3']⟩
    have i2 : nxt w d = (b, c) ↔ d = (a, b) := ⟨fun z => nxt_inj g h hd (z.trans e1.symm), fun z => by rw [z, e1]⟩
    have i3 : nxt w d = (c, a) ↔ d = (b, c) := ⟨fun z => nxt_inj g h d2 (z.trans e2.symm), fun z => by rw [z, e2]⟩
    rw [Ne, Ne, Ne, Ne, Ne, Ne, i1, i2, i3]
    exact ⟨fun h => ⟨h.2.2, h.1, h.2.1⟩, fun h => ⟨h.2.1, h.2.2, h.1⟩⟩
  refine ⟨nd, by simp, fun d h => h.1, fun d h => ?_, fun d h => tri d h.1, fun p hp => ?_, fun p q h n1 n2 => ?_⟩
  · exact ⟨fun z => ⟨nxt_dart g h, (step d h).mp z.2⟩, fun z => ⟨h, (step d h).mpr z.2⟩⟩
  · simp only [List.mem_cons, List.not_mem_nil, or_false] at hp
    rcases hp with rfl | rfl | rfl
    · rw [s1]
      exact ⟨g.sym _ _ hd, ⟨g.sym _ _ hd, fun z => nab (congrArg Prod.snd z), fun z => nca (congrArg Prod.snd z).symm, fun z => nbc (congrArg Prod.fst z)⟩, fun z => z.2.1 rfl⟩
    · rw [s2]
      exact ⟨g.sym _ _ d2, ⟨g.sym _ _ d2, fun z => nca (congrArg Prod.fst z), fun z => nbc (congrArg Prod.snd z), fun z => nab (congrArg Prod.snd z).symm⟩, fun z => z.2.2.1 rfl⟩
    · rw [s3]
      exact ⟨g.sym _ _ d3, ⟨g.sym _ _ d3, fun z => nbc (congrArg Prod.snd z).symm, fun z => nab (congrArg Prod.fst z), fun z => nca (congrArg Prod.snd z)⟩, fun z => z.2.2.2 rfl⟩
  · have key : ∀ p q, Dart w (p, q) → ¬ (q ∈ [a, b, c] ∧ p = succR [a, b, c] q) → (q, p) ≠ (a, b) ∧ (q, p) ≠ (b, c) ∧ (q, p) ≠ (c, a) := fun p q h n => by
      refine ⟨fun z => n ?_, fun z => n ?_, fun z => n ?_⟩
      · have z1 : q = a := congrArg Prod.fst z
        have z2 : p = b := congrArg Prod.snd z
        rw [z1, z2, s1]; exact ⟨by simp, rfl⟩
      · have z1 : q = b := congrArg Prod.fst z
        have z2 : p = c := congrArg Prod.snd z
        rw [z1, z2, s2]; exact ⟨by simp, rfl⟩
      · have z1 : q = c := congrArg Prod.fst z
        have z2 : p = a := congrArg Prod.snd z
        rw [z1, z2, s3]; exact ⟨by simp, rfl⟩
    exact ⟨fun _ => ⟨g.sym _ _ h, key p q h n2⟩, fun _ => ⟨h, key q p (g.sym _ _ h) n1⟩⟩
end Wb

set_option linter.all false
set_option maxRecDepth 100000
/-! the ties within at a place, chords, lesser rings: as lists -/
namespace Wb
def prevI (R : List Nat) (i : Nat) : Nat := if i = 0 then R.length - 1 else i - 1
def withinL (w : W) (R : List Nat) (i : Nat) : List Nat :=
  ((row w (R.getD i 0)).drop ((row w (R.getD i 0)).idxOf (R.getD ((i + 1) % R.length) 0) + 1) ++ (row w (R.getD i 0)).take ((row w (R.getD i 0)).idxOf (R.getD ((i + 1) % R.length) 0))).take
    (((row w (R.getD i 0)).drop ((row w (R.getD i 0)).idxOf (R.getD ((i + 1) % R.length) 0) + 1) ++ (row w (R.getD i 0)).take ((row w (R.getD i 0)).idxOf (R.getD ((i + 1) % R.length) 0))).idxOf (R.getD (prevI R i) 0))
theorem succR_at {R : List Nat} {i : Nat} (nd : R.Nodup) (h : i < R.length) : succR R (R.getD i 0) = R.getD ((i + 1) % R.length) 0 := by
  by_cases c : i + 1 < R.length
  · rw [succR_ix nd c, Nat.mod_eq_of_lt c]
  · rw [succR_end nd (by omega), show i + 1 = R.length by omega, Nat.mod_self]
theorem succR_prev {R : List Nat} {i : Nat} (nd : R.Nodup) (h : i < R.length) : succR R (R.getD (prevI R i) 0) = R.getD i 0 := by
  unfold prevI
  split
  · next e => subst e; rw [succR_end nd (by omega)]
  · next e => rw [succR_ix nd (by omega), show i - 1 + 1 = i by omega]
theorem prevI_lt {R : List Nat} {i : Nat} (h : i < R.length) : prevI R i < R.length := by unfold prevI; split <;> omega
theorem rotA_tail {l : List Nat} {a : Nat} (h : a ∈ l) : rotA l a = a :: (l.drop (l.idxOf a + 1) ++ l.take (l.idxOf a)) := by
  unfold rotA
  have hl := List.idxOf_lt_length_iff.mpr h
  rw [List.drop_eq_getElem_cons hl, List.getElem_idxOf hl, List.cons_append]
theorem take_range {T : List Nat} {a n : Nat} (h : n ≤ T.length) : T.take n = (List.range n).map fun k => (a :: T).getD (k + 1) 0 := by
  refine List.ext_getElem (by simp [Nat.min_eq_left h]) fun k h1 h2 => ?_
  rw [List.getElem_take, List.getElem_map, List.getElem_range]
  rw [List.length_map, List.length_range] at h2
  show _ = (a :: T).getD (k + 1) 0
  rw [List.getD_cons_succ, List.getD_eq_getElem?_getD, List.getElem?_eq_getElem (by omega)]
  rfl
section
variable {w : W} {R : List Nat} {A : Nat × Nat → Prop}
/-- the fan at a place of the ring -/
theorem within_fan (g : Good w) (D : Disc w R A) {i : Nat} (hi : i < R.length) :
    ∃ m y, Whole w R (R.getD i 0) m (row w (R.getD i 0)).length y ∧ y 0 = R.getD ((i + 1) % R.length) 0 ∧ y m = R.getD (prevI R i) 0 ∧
      withinL w R i = (List.range (m - 1)).map fun k => y (k + 1) := by
  have hv := getD_memL hi
  have hb := getD_memL (prevI_lt hi)
  have eb := succR_prev D.nd hi
  have F := whole_ex g D hv hb eb
  have am : succR R (R.getD i 0) ∈ row w (R.getD i 0) := g.sym _ _ (D.ring _ hv).1
  have pos := F.at_.fan.pos
  have ym : (rotA (row w (R.getD i 0)) (succR R (R.getD i 0))).getD ((rotA (row w (R.getD i 0)) (succR R (R.getD i 0))).idxOf (R.getD (prevI R i) 0)) 0 = R.getD (prevI R i) 0 := by
    have bm : R.getD (prevI R i) 0 ∈ row w (R.getD i 0) := by
      have := (D.ring _ hb).1
      rw [eb] at this
      exact this
    have bl := List.idxOf_lt_length_iff.mpr ((rotA_perm (row w (R.getD i 0)) (succR R (R.getD i 0))).mem_iff.mpr bm)
    rw [List.getD_eq_getElem?_getD, List.getElem?_eq_getElem bl, List.getElem_idxOf bl]; rfl
  refine ⟨_, _, F, by rw [← succR_at D.nd hi]; exact rotA_zero am, ym, ?_⟩
  unfold withinL
  rw [← succR_at D.nd hi]
  have hlt := F.lt
  have hlen := rotA_len (row w (R.getD i 0)) (succR R (R.getD i 0))
  rw [rotA_tail am] at pos hlt hlen ⊢
  generalize hT : (row w (R.getD i 0)).drop ((row w (R.getD i 0)).idxOf (succR R (R.getD i 0)) + 1) ++ (row w (R.getD i 0)).take ((row w (R.getD i 0)).idxOf (succR R (R.getD i 0))) = T at *
  have ne : (succR R (R.getD i 0) == R.getD (prevI R i) 0) = false := by
    rw [List.idxOf_cons] at pos
    cases c : (succR R (R.getD i 0) == R.getD (prevI R i) 0)
    · rfl
    · rw [c] at pos; simp at pos
  rw [List.idxOf_cons, ne] at hlt ⊢
  simp only [cond_false] at hlt ⊢
  rw [List.length_cons] at hlen
  rw [Nat.add_sub_cancel]
  exact take_range (by omega)
theorem mem_within {m : Nat} {y : Nat → Nat} {z : Nat} : z ∈ (List.range (m - 1)).map (fun k => y (k + 1)) ↔ ∃ k, 0 < k ∧ k < m ∧ y k = z := by
  rw [List.mem_map]
  constructor
  · rintro ⟨k, hk, rfl⟩
    rw [List.mem_range] at hk
    exact ⟨k + 1, by omega, by omega, rfl⟩
  · rintro ⟨k, h1, h2, rfl⟩
    exact ⟨k - 1, List.mem_range.mpr (by omega), by rw [show k - 1 + 1 = k by omega]⟩
/-- a tie within is a dart of the disc that is none of the ring's -/
theorem within_iff (g : Good w) (D : Disc w R A) {i : Nat} (hi : i < R.length) {z : Nat} : z ∈ withinL w R i ↔ A (R.getD i 0, z) ∧ z ≠ R.getD (prevI R i) 0 := by
  obtain ⟨m, y, F, e0, em, ew⟩ := within_fan g D hi
  rw [ew, mem_within]
  have hl := F.lt
  constructor
  · rintro ⟨k, h1, h2, rfl⟩
    have := (F.at_.inA g D (k - 1) (by omega)).2
    rw [show k - 1 + 1 = k by omega] at this
    refine ⟨this, fun e => ?_⟩
    have := F.inj k m (by omega) (by omega) (by rw [em]; exact e)
    omega
  · rintro ⟨a, ne⟩
    obtain ⟨k, h1, h2, e⟩ := F.between g D a
    refine ⟨k, h1, ?_, e⟩
    by_cases c : k = m
    · subst c; exact absurd (e.symm.trans em) ne
    · omega
theorem within_next (g : Good w) (D : Disc w R A) {i : Nat} (hi : i < R.length) : R.getD ((i + 1) % R.length) 0 ∉ withinL w R i := by
  rw [within_iff g D hi]
  rintro ⟨a, _⟩
  rw [← succR_at D.nd hi] at a
  exact (D.ring _ (getD_memL hi)).2.2 a
theorem within_sym (g : Good w) (D : Disc w R A) {i j : Nat} (hi : i < R.length) (hj : j < R.length) (h : R.getD j 0 ∈ withinL w R i) : R.getD i 0 ∈ withinL w R j := by
  have h' := (within_iff g D hi).mp h
  have n1 := within_next g D hi
  have hd := D.dart _ h'.1
  have c1 : ¬ (R.getD i 0 ∈ R ∧ R.getD j 0 = succR R (R.getD i 0)) := fun z => n1 (by rw [← succR_at D.nd hi, ← z.2]; exact h)
  have c2 : ¬ (R.getD j 0 ∈ R ∧ R.getD i 0 = succR R (R.getD j 0)) := fun z => h'.2 (succR_inj D.nd z.1 (getD_memL (prevI_lt hi)) (by rw [← z.2, succR_prev D.nd hi]))
  refine (within_iff g D hj).mpr ⟨(D.sym _ _ hd c1 c2).mp h'.1, fun e => c1 ⟨getD_memL hi, ?_⟩⟩
  rw [e, succR_prev D.nd hj]
/-! how many darts -/
open Classical in
noncomputable def cnt (w : W) (A : Nat × Nat → Prop) : Nat := ((darts w).filter fun d => decide (A d)).length
open Classical in
theorem cnt_lt {A A' : Nat × Nat → Prop} (sub : ∀ d, A' d → A d) {d : Nat × Nat} (hd : Dart w d) (a : A d) (n : ¬ A' d) : cnt w A' < cnt w A := by
  unfold cnt
  have key : ∀ l : List (Nat × Nat), d ∈ l → (l.filter fun d => decide (A' d)).length < (l.filter fun d => decide (A d)).length := fun l => by
    have le : ∀ l : List (Nat × Nat), (l.filter fun d => decide (A' d)).length ≤ (l.filter fun d => decide (A d)).length := fun l => by
      induction l with
      | nil => simp
      | cons x l ih =>
        rw [List.filter_cons, List.filter_cons]
        by_cases c : A' x
        · rw [if_pos (decide_eq_true c), if_pos (decide_eq_true (sub x c))]; simp; exact ih
        · rw [if_neg (by simp [c])]
          split
          · simp; omega
          · exact ih
    induction l with
    | nil => intro h; cases h
    | cons x l ih =>
      intro h
      rw [List.filter_cons, List.filter_cons]
      by_cases e : x = d
      · subst e
        rw [if_neg (by simp [n]), if_pos (decide_eq_true a)]
        have := le l
        simp; omega
      · have h : d ∈ l := by
          rcases List.mem_cons.mp h with z | z
          · exact absurd z.symm e
          · exact z
        have := ih h
        by_cases c : A' x
        · rw [if_pos (decide_eq_true c), if_pos (decide_eq_true (sub x c))]; simp; exact this
        · rw [if_neg (by simp [c])]
          split
          · simp; omega
          · exact this
  exact key _ (mem_darts.mpr hd)
end
end Wb

set_option linter.all false
set_option maxRecDepth 100000
/-! lesser rings -/
namespace Wb
section
variable {w : W} {R : List Nat} {A : Nat × Nat → Prop}
theorem split3 {R : List Nat} {i j : Nat} (hij : i < j) (hj : j < R.length) :
    R = R.take i ++ R.getD i 0 :: ((R.drop (i + 1)).take (j - i - 1) ++ R.getD j 0 :: R.drop (j + 1)) := by
  have gi : R.getD i 0 = R[i]'(by omega) := by rw [List.getD_eq_getElem?_getD, List.getElem?_eq_getElem (by omega)]; rfl
  have gj : R.getD j 0 = R[j] := by rw [List.getD_eq_getElem?_getD, List.getElem?_eq_getElem hj]; rfl
  have e1 : R.getD j 0 :: R.drop (j + 1) = (R.drop (i + 1)).drop (j - i - 1) := by
    rw [List.drop_drop, show i + 1 + (j - i - 1) = j by omega, List.drop_eq_getElem_cons hj, gj]
  rw [e1, List.take_append_drop, gi, ← List.drop_eq_getElem_cons (by omega), List.take_append_drop]
theorem half1 {R : List Nat} {i j : Nat} (hij : i < j) (hj : j < R.length) : (R.take (j + 1)).drop i = R.getD i 0 :: ((R.drop (i + 1)).take (j - i - 1) ++ [R.getD j 0]) := by
  have gi : R.getD i 0 = R[i]'(by omega) := by rw [List.getD_eq_getElem?_getD, List.getElem?_eq_getElem (by omega)]; rfl
  have gj : R.getD j 0 = R[j] := by rw [List.getD_eq_getElem?_getD, List.getElem?_eq_getElem hj]; rfl
  rw [List.drop_take, List.drop_eq_getElem_cons (by omega : i < R.length), ← gi, show j + 1 - i = (j - i - 1) + 1 + 1 by omega, List.take_succ_cons]
  congr 1
  rw [List.take_succ, List.getElem?_drop, show i + 1 + (j - i - 1) = j by omega, List.getElem?_eq_getElem hj, gj]
  rfl
theorem half2 {R : List Nat} {i j : Nat} (hij : i < j) (hj : j < R.length) : R.drop j ++ R.take (i + 1) = R.getD j 0 :: ((R.drop (j + 1) ++ R.take i) ++ [R.getD i 0]) := by
  have gi : R.getD i 0 = R[i]'(by omega) := by rw [List.getD_eq_getElem?_getD, List.getElem?_eq_getElem (by omega)]; rfl
  have gj : R.getD j 0 = R[j] := by rw [List.getD_eq_getElem?_getD, List.getElem?_eq_getElem hj]; rfl
  rw [List.drop_eq_getElem_cons hj, List.take_succ, List.getElem?_eq_getElem (by omega : i < R.length), ← gi, ← gj]
  simp
theorem chord_disc (g : Good w) (B : Bnd w) (D : Disc w R A) {i j : Nat} (hij : i < j) (hj : j < R.length) (h : R.getD j 0 ∈ withinL w R i) :
    (∃ A', Disc w ((R.take (j + 1)).drop i) A' ∧ cnt w A' < cnt w A) ∧ ∃ A', Disc w (R.drop j ++ R.take (i + 1)) A' ∧ cnt w A' < cnt w A := by
  have hi : i < R.length := by omega
  have hw := (within_iff g D hi).mp h
  have hB : (R.drop (i + 1)).take (j - i - 1) ≠ [] := by
    intro e
    have e := congrArg List.length e
    simp only [List.length_take, List.length_drop, List.length_nil] at e
    have e : j = i + 1 := by omega
    refine within_next g D hi ?_
    rw [Nat.mod_eq_of_lt (by omega), ← e]; exact h
  have hC : R.drop (j + 1) ++ R.take i ≠ [] := by
    intro e
    have e := congrArg List.length e
    simp only [List.length_append, List.length_take, List.length_drop, List.length_nil] at e
    refine hw.2 ?_
    unfold prevI
    rw [if_pos (by omega), show j = R.length - 1 by omega]
  rw [half1 hij hj, half2 hij hj]
  have s3 := split3 hij hj
  generalize hP : R.take i = P at *
  generalize hp : R.getD i 0 = p at *
  generalize hBB : (R.drop (i + 1)).take (j - i - 1) = BB at *
  generalize hq : R.getD j 0 = q at *
  generalize hCC : R.drop (j + 1) = CC at *
  have D0 : Disc w (P ++ p :: (BB ++ q :: CC)) A := s3 ▸ D
  have D1 : Disc w (p :: (BB ++ q :: (CC ++ P))) A := by
    have := D0.rot
    simpa using this
  have nd1 := D1.nd
  have e1 : p :: (BB ++ q :: (CC ++ P)) = (p :: BB) ++ [q] ++ (CC ++ P) := by simp
  have ndC : (p :: (BB ++ [q])).Nodup := by
    rw [e1] at nd1
    have := (List.nodup_append.mp nd1).1
    simpa using this
  have bl : 1 ≤ BB.length := List.length_pos_iff.mpr hB
  have tie : ∀ x ∈ p :: (BB ++ [q]), succR (p :: (BB ++ [q])) x ∈ row w x := fun x hx => by
    have hx : x ∈ p :: BB ∨ x = q := by simpa [or_assoc] using hx
    rcases hx with hx | rfl
    · have := succR_pre (a := p :: BB) (z := q) (b := CC ++ P) (by rw [← e1]; exact nd1) hx
      rw [← e1] at this
      rw [show p :: (BB ++ [q]) = (p :: BB) ++ [q] by simp, ← this]
      exact g.sym _ _ (D1.ring x (by rw [e1]; exact List.mem_append_left _ (List.mem_append_left _ hx))).1
    · rw [succR_last ndC]
      exact g.sym _ _ (D.dart _ hw.1)
  obtain ⟨S, bd⟩ := B.ring g ndC (by simp; omega) tie
  have main : ∃ S : Nat × Nat → Prop, Disc w (p :: (BB ++ [q])) (fun d => A d ∧ S d) ∧ Disc w (q :: ((CC ++ P) ++ [p])) (fun d => A d ∧ ¬ S d) := by
    by_cases c : S (succR (p :: (BB ++ q :: (CC ++ P))) p, p)
    · exact ⟨S, parted g D1 rfl hB hC hw.1 bd c⟩
    · exact ⟨fun d => ¬ S d, parted g D1 rfl hB hC hw.1 bd.neg c⟩
  obtain ⟨S, E1, E2⟩ := main
  have r1 := (E1.ring p (List.mem_cons_self ..)).2.1
  have r2 := (E2.ring q (List.mem_cons_self ..)).2.1
  exact ⟨⟨_, E1, cnt_lt (fun d z => z.1) (D.dart _ r2.1) r2.1 fun z => r2.2 z.2⟩, ⟨_, E2, cnt_lt (fun d z => z.1) (D.dart _ r1.1) r1.1 fun z => z.2 r1.2⟩⟩
theorem rev_range {m : Nat} {y : Nat → Nat} : ((List.range m).map fun k => y (k + 1)).reverse = (List.range m).map fun i => y (m - i) := by
  refine List.ext_getElem (by simp) fun k h1 h2 => ?_
  have hk : k < m := by simpa using h2
  rw [List.getElem_reverse]
  simp only [List.length_map, List.length_range, List.getElem_map, List.getElem_range, List.length_reverse]
  congr 1
  omega
theorem less_disc (g : Good w) (D : Disc w R A) (no : ∀ i, i < R.length - 1 → R.getD (R.length - 1) 0 ∉ withinL w R i) :
    (R.dropLast ++ (withinL w R (R.length - 1)).reverse).length = 2 ∨ ∃ A', Disc w (R.dropLast ++ (withinL w R (R.length - 1)).reverse) A' ∧ cnt w A' < cnt w A := by
  have len := D.len
  have hl : R.length - 1 < R.length := by omega
  obtain ⟨m, y, F, e0, em, ew⟩ := within_fan g D hl
  have pos := F.at_.fan.pos
  have hlt := F.lt
  rw [show R.length - 1 + 1 = R.length by omega, Nat.mod_self] at e0
  have ep : prevI R (R.length - 1) = R.length - 2 := by unfold prevI; rw [if_neg (by omega)]; omega
  rw [ep] at em
  have sp := split3 (R := R) (i := R.length - 2) (j := R.length - 1) (by omega) hl
  rw [show R.length - 1 - (R.length - 2) - 1 = 0 by omega, show R.length - 1 + 1 = R.length by omega, List.drop_length, List.take_zero, List.nil_append, ← em] at sp
  have pl : (R.take (R.length - 2)).length = R.length - 2 := by rw [List.length_take]; omega
  have p0 : (R.take (R.length - 2)).getD 0 0 = y 0 := by
    rw [e0, List.getD_eq_getElem?_getD, List.getElem?_take_of_lt (by omega), ← List.getD_eq_getElem?_getD]
  have eq : R.dropLast ++ (withinL w R (R.length - 1)).reverse = lessR (R.take (R.length - 2)) m y := by
    rw [ew, rev_range]
    unfold lessR
    have e1 : R.dropLast = R.take (R.length - 2) ++ [y m] := by
      rw [List.dropLast_eq_take, show R.length - 1 = R.length - 2 + 1 by omega, List.take_succ, List.getElem?_eq_getElem (by omega), em, List.getD_eq_getElem?_getD, List.getElem?_eq_getElem (by omega)]
      rfl
    rw [e1, List.append_assoc]
    congr 1
    obtain ⟨m', rfl⟩ : ∃ m', m = m' + 1 := ⟨m - 1, by omega⟩
    rw [List.range_succ_eq_map, List.map_cons, List.map_map]
    simp only [Nat.add_sub_cancel, List.singleton_append, Nat.sub_zero]
    congr 1
    refine List.map_congr_left fun i _ => ?_
    show y (m' - i) = y (m' + 1 - (i + 1))
    congr 1; omega
  rw [eq]
  by_cases c : 3 ≤ (R.take (R.length - 2)).length + m
  · refine .inr ⟨_, made_less g D F.at_ sp p0 (fun e => by rw [e] at pl; simp at pl; omega) (fun k h1 h2 hR => ?_) c, ?_⟩
    · obtain ⟨i, hi, ei⟩ := List.mem_iff_getElem.mp hR
      have ei' : R.getD i 0 = y k := by rw [← ei, List.getD_eq_getElem?_getD, List.getElem?_eq_getElem hi]; rfl
      have hm : y k ∈ withinL w R (R.length - 1) := by rw [ew]; exact mem_within.mpr ⟨k, h1, h2, rfl⟩
      rw [← ei'] at hm
      have hs := within_sym g D hl hi hm
      have ne : i ≠ R.length - 1 := by
        intro z
        refine F.at_.ne g (k := k) (by omega) ?_
        rw [← ei', z]
      exact no i (by omega) hs
    · have a := (F.at_.inA g D 0 (by omega)).1
      exact cnt_lt (fun d z => z.1) (D.dart _ a) a fun z => z.2 ⟨0, by omega, .inl rfl⟩
  · refine .inl ?_
    rw [lessR_len]; omega
end
end Wb

set_option linter.all false
set_option maxRecDepth 100000
/-! a point put beyond the rim, row by row -/
namespace Wb
theorem row_put {w : W} {i x : Nat} {r : List Nat} (h : i < w.length) : row (w.set i r) x = if i = x then r else row w x := by
  unfold row
  rw [List.getD_eq_getElem?_getD, List.getElem?_set, List.getD_eq_getElem?_getD]
  by_cases e : i = x
  · subst e; rw [if_pos rfl, if_pos h, if_pos rfl]; rfl
  · rw [if_neg e, if_neg e]
theorem row_app {w : W} {x : Nat} {r : List Nat} : row (w ++ [r]) x = if x = w.length then r else row w x := by
  unfold row
  rw [List.getD_eq_getElem?_getD, List.getD_eq_getElem?_getD]
  by_cases c : x < w.length
  · rw [List.getElem?_append_left c, if_neg (by omega)]
  · by_cases e : x = w.length
    · subst e; rw [if_pos rfl]; simp
    · rw [if_neg e, List.getElem?_eq_none (by simp; omega), List.getElem?_eq_none (by omega)]
structure Mid (w w' : W) (R : List Nat) (f k : Nat) : Prop where
  l : w'.length = w.length + 1
  rv : row w' w.length = (R.take (f + 1)).reverse
  r0 : row w' (R.getD 0 0) = w.length :: row w (R.getD 0 0)
  rk : ∀ i, 1 ≤ i → i ≤ k → row w' (R.getD i 0) = row w (R.getD i 0) ++ [w.length]
  ro : ∀ x, x ≠ w.length → (∀ i, i ≤ k → x ≠ R.getD i 0) → row w' x = row w x
theorem Mid.start {w : W} {R : List Nat} {f : Nat} (h : R.getD 0 0 < w.length) : Mid w ((w ++ [(R.take (f + 1)).reverse]).set (R.getD 0 0) (w.length :: row w (R.getD 0 0))) R f 0 := by
  have hl : (w ++ [(R.take (f + 1)).reverse]).length = w.length + 1 := by simp
  have rp : ∀ x, row ((w ++ [(R.take (f + 1)).reverse]).set (R.getD 0 0) (w.length :: row w (R.getD 0 0))) x = _ := fun x => row_put (x := x) (by omega)
  refine ⟨by rw [List.length_set]; exact hl, ?_, ?_, fun i h1 h2 => by omega, fun x h1 h2 => ?_⟩
  · rw [rp, if_neg (by omega), row_app, if_pos rfl]
  · rw [rp, if_pos rfl]
  · rw [rp, if_neg (fun z => h2 0 (Nat.le_refl _) z.symm), row_app, if_neg h1]
theorem Mid.step {w w' : W} {R : List Nat} {f k : Nat} (M : Mid w w' R f k) (nd : R.Nodup) (hf : f < R.length) (hk : k + 1 ≤ f) (h : R.getD (k + 1) 0 < w.length) : Mid w (w'.set (R.getD (k + 1) 0) (row w' (R.getD (k + 1) 0) ++ [w.length])) R f (k + 1) := by
  have ne : ∀ i, i ≤ k → R.getD (k + 1) 0 ≠ R.getD i 0 := fun i hi e => by
    have := getD_inj nd (by omega) (by omega) e; omega
  have rp : ∀ x, row (w'.set (R.getD (k + 1) 0) (row w' (R.getD (k + 1) 0) ++ [w.length])) x = _ := fun x => row_put (x := x) (by rw [M.l]; omega)
  refine ⟨by rw [List.length_set]; exact M.l, ?_, ?_, fun i h1 h2 => ?_, fun x h1 h2 => ?_⟩
  · rw [rp, if_neg (by omega)]; exact M.rv
  · rw [rp, if_neg (ne 0 (by omega))]; exact M.r0
  · by_cases c : i = k + 1
    · subst c
      rw [rp, if_pos rfl, M.ro _ (by omega) (fun i hi => ne i hi)]
    · rw [rp, if_neg (ne i (by omega))]; exact M.rk i h1 (by omega)
  · rw [rp, if_neg (fun z => h2 (k + 1) (Nat.le_refl _) z.symm)]
    exact M.ro x h1 fun i hi => h2 i (by omega)
theorem Mid.fin {w w' : W} {R : List Nat} {f : Nat} (M : Mid w w' R f f) (f1 : 1 ≤ f) (hf : f < R.length) : Step w w' R f := ⟨M.l, f1, hf, M.rv, M.r0, M.rk, M.ro⟩
theorem Grown.rlt {w : W} {R : List Nat} (G : Grown w R) {x : Nat} (h : x ∈ R) : x < w.length := row_lt (G.hd x h).1
theorem Grown.rsz {w : W} {R : List Nat} (G : Grown w R) : R.length ≤ w.length := by
  have := len_le_of_subset G.nd (m := List.range w.length) fun x hx => List.mem_range.mpr (G.rlt hx)
  rw [List.length_range] at this
  exact this
end Wb



set_option Elab.async false
set_option linter.all false
set_option maxRecDepth 100000
set_option maxHeartbeats 4000000
/-! ### list(reversed(xs)) -/
namespace PySem
namespace F
theorem nolen_lri : typeLookup (.type "list_reverseiterator") "__len__" = pure none := by rw [typeLookup_type, builtinLookup_eq_fast]; kernel_rfl
theorem hint_lri : typeLookup (.type "list_reverseiterator") "__length_hint__" = pure (some (.builtin "list_reverseiterator.__length_hint__")) := by rw [typeLookup_type, builtinLookup_eq_fast]; kernel_rfl
end F
section
variable {prog : Program} {w : World} {A : Around} {s : Shared} {R : Result → Shared → Prop}
variable {I : Addr} {fp wr : List Addr} {G : Array GenState → Array GenState → Prop} {n : Nat} {P : Nat → Value → Prop} {St : Nat → Shared → Prop}
theorem extend_lri (W : WalksS prog w A.in1 I fp wr G n P St) (hT : ∀ i s, St i s → s.TypeIs (.ref I) "list_reverseiterator") (S : Addr) (res : Value) (c₀ : Nat) (hst : St 0 s) (hSf : S ∉ fp) (hI : I ∈ fp)
    (hS : s.heap.get? S = some { cls := .type "list", data := .seq #[] c₀ })
    (hR : ∀ s' acc' c', Moved (S :: wr) G s s' → s'.heap.get? S = some { cls := .type "list", dict := none, data := .seq acc' c', slots := #[] } → ItemsOf P acc' n → R (.ok (.ret res)) s') (hn : n ≤ sizeLine) :
    wpAny (model prog w) A.in1 (Builtin.List.listExtendWith (.ref S) (.ref I) res)
      (fun fin s' => match fin with | .done f => R (.ok f) s' | .again c' => c'.quiet = true ∧ codeAny (model prog w) A c' R s') (fun e s' => R (.error e) s') s := by
  have hSI : S ≠ I := fun e => hSf (e ▸ hI)
  unfold Builtin.List.listExtendWith
  refine wpAny_bind (wpAny_typeOf (hT 0 _ hst) ?_)
  have h1 : Builtin.List.listSameRef (.ref S) (.ref I) = false := by simp [Builtin.List.listSameRef, hSI]
  have h2 : (Value.type "list_reverseiterator" == Value.type "list") = false := by decide
  have h3 : (Value.type "list_reverseiterator" == Value.type "tuple") = false := by decide
  simp only [h1, h2, h3, Bool.or_false, Bool.false_eq_true, if_false]
  refine wpAny_bind (W.self 0 _ _ _ hst ?_)
  refine wpAny_bind (wpAny_holding ?_)
  unfold Builtin.List.listLengthHint
  refine wpAny_bind (wpAny_specialOf (hT 0 _ hst) F.nolen_lri ?_)
  show wpAny _ A.in1 (specialOf (Value.ref I) (Str.ofString "__length_hint__") >>= _) _ _ _
  refine wpAny_bind (wpAny_specialOf (hT 0 _ hst) F.hint_lri ?_)
  generalize hid : ("list_reverseiterator.__length_hint__" : String) = id0
  wp_delta
  rw [show splitId id0 = some ("list_reverseiterator", "__length_hint__") from by subst hid; decide +kernel]
  subst hid
  refine wpAny_bind (wpAny_isInstance (b := true) (hT 0 _ hst) (by rw [isSubtype_type]; kernel_rfl) ?_)
  refine wpAny_pure ?_
  rw [if_neg (by decide)]
  exact wpAny_pure ⟨plainId_quiet F.plain_extend_loop _, codeAny_extend_loopS W hn _ hSf _ n 0 _ _ _ rfl (Nat.zero_le _) hst hS (ItemsOf.nil P) hR⟩
theorem list_init_lri (W : WalksS prog w A.in1 I fp wr G n P St) (hT : ∀ i s, St i s → s.TypeIs (.ref I) "list_reverseiterator") (S : Addr) (hst : St 0 s) (hSf : S ∉ fp) (hI : I ∈ fp)
    (hS : s.heap.get? S = some { cls := .type "list", data := .seq #[] })
    (hR : ∀ s' acc' c', Moved (S :: wr) G s s' → s'.heap.get? S = some { cls := .type "list", dict := none, data := .seq acc' c', slots := #[] } → ItemsOf P acc' n → R (.ok (.ret .none)) s') (hn : n ≤ sizeLine) :
    wpAny (model prog w) A.in1 (Builtin.«list.__init__» ⟨[.ref S, .ref I], []⟩)
      (fun fin s' => match fin with | .done f => R (.ok f) s' | .again c' => c'.quiet = true ∧ codeAny (model prog w) A c' R s') (fun e s' => R (.error e) s') s := by
  show wpAny _ A.in1 (do let old ← Builtin.List.listItems (.ref S); Builtin.List.listUpdate (.ref S) (fun _ => #[]); letGo old.toList.reverse; Builtin.List.listExtendWith (.ref S) (.ref I) .none) _ _ s
  refine wpAny_bind ?_
  unfold Builtin.List.listItems
  refine wpAny_bind (wpAny_seqItems hS rfl (wpAny_pure ?_))
  show wpAny _ A.in1 (updateSeq S (fun _ => #[]) >>= fun _ => letGo (#[] : Array Value).toList.reverse >>= fun _ => Builtin.List.listExtendWith (.ref S) (.ref I) .none) _ _ s
  refine wpAny_bind (wpAny_updateSeq hS rfl ?_)
  have hS₂ := Heap.get?_update_self (Obj.mapSeq (fun _ => (#[] : Array Value))) hS rfl
  have oth : ∀ b o, b ≠ S → s.heap.get? b = some o → (s.heap.update S (Obj.mapSeq (fun _ => (#[] : Array Value)))).get? b = some o :=
    fun b o hb e => (Heap.get?_update_other _ _ (Ne.symm hb)).trans e
  refine wpAny_bind (wpAny_letGo ?_)
  refine extend_lri W hT S .none _ (W.frame 0 s _ s.toks hst (Nat.le_refl _) fun b hb o e => oth b o (fun h => hSf (h ▸ hb)) e) hSf hI hS₂ (fun s' acc' c' hm hS' hacc => ?_) hn
  exact hR s' acc' c' (Moved.trans W.gtrans ((Moved.refl W.grefl).then_heap (Nat.le_refl _) fun b o hb e => oth b o (fun h => hb (h ▸ List.mem_cons_self)) e) hm) hS' hacc
theorem call_list_lri {E : Value → Shared → Prop} {Q : Value → Shared → Prop} (W : WalksS prog w A.in1.in1 I fp wr G n P St) (hT : ∀ i s, St i s → s.TypeIs (.ref I) "list_reverseiterator") (hst : St 0 s) (hfp : ∀ b ∈ fp, b < s.heap.objs.size) (hI : I ∈ fp)
    (hQ : ∀ s' acc' c', Moved (s.heap.objs.size :: wr) G { s with heap := s.heap.push { cls := .type "list", data := .seq #[] } } s' →
      s'.heap.get? s.heap.objs.size = some { cls := .type "list", dict := none, data := .seq acc' c', slots := #[] } → ItemsOf P acc' n → Q (.ref s.heap.objs.size) s') (hn : n ≤ sizeLine) :
    wpAny (model prog w) A (call (.type "list") [.ref I]) Q E s := by
  have hSf : s.heap.objs.size ∉ fp := fun hm => Nat.lt_irrefl _ (hfp _ hm)
  refine callType_codes (Q₁ := fun obj s₁ => obj = .ref s.heap.objs.size ∧ s₁ = { s with heap := s.heap.push { cls := .type "list", data := .seq #[] } }) F.called_list (F.typeCall_list_1 _) F.entry_list_init
    (code_list_new _ ⟨rfl, rfl⟩) fun obj s₁ h₁ => ?_
  obtain ⟨rfl, rfl⟩ := h₁
  have hS : (s.heap.push { cls := .type "list", data := .seq #[] }).get? s.heap.objs.size = some { cls := .type "list", data := .seq #[] } := Heap.get?_push_size _ rfl
  refine ⟨⟨_, hS, rfl⟩, F.args_list_init_2 _ _, list_init_lri W hT _ (W.frame 0 s _ s.toks hst (Nat.le_refl _) fun b _ o e => Heap.get?_push_of_some _ e) hSf hI hS (fun s' acc' c' hm hS' hacc => ?_) hn⟩
  exact ⟨rfl, hQ s' acc' c' hm hS' hacc⟩
end
end PySem
namespace L2
open PySem PySem.Spec PyProof.Rows
section
variable {X : Cx} {Z : DC} {a b c e : Expr} {ta te : DTE} {t : DTA} {pos : Pos}
def tListRev (K : PySem.W.Frag) (ta : TA) : TE := fun σ H Q => ta σ H fun vs H1 => ∃ l xs, vs = [.ref l] ∧ SqL K H1 l xs ∧ ∀ q, H1 q = none → Q (.ref q) (upd H1 q (.lst xs.reverse))
theorem pe_listrev {ta : TA} {p p2 pos2 : Pos} (hc : X.calm = true) (hgl : Gl X "list") (hml : X.mg "list" = none) (hgr : Gl X "reversed") (hmr : X.mg "reversed" = none) (ha : PA X [a] ta)
    (hs : starEach [.Call (.Name "reversed" p2) [a] [] pos2] X.env = (false, eval (.Call (.Name "reversed" p2) [a] [] pos2) X.env) :: starEach [] X.env := by rfl) (hpl : (backTo pos (starEach [] X.env)).any (·.1) = false := by rfl)
    (hs2 : starEach [a] X.env = (false, eval a X.env) :: starEach [] X.env := by rfl) (hpl2 : (backTo pos2 (starEach [] X.env)).any (·.1) = false := by rfl) :
    PE X (.Call (.Name "list" p) [.Call (.Name "reversed" p2) [a] [] pos2] [] pos) (tListRev X.K ta) := by
  intro pins s σ H Q I h
  refine wpAny_Call_Name_kw (ld_blt I hgl hml bd_list ?_)
  refine PyProof.Rows.callWith_type1 ?_ hs hpl
  rw [hs]
  show wpAny _ _ (spliced ((false, eval _ X.env) :: backTo pos (starEach [] X.env))) _ _ s
  refine Calls.spliced_cons ?_
  refine wpAny_Call_Name_kw (ld_blt I hgr hmr bd_reversed ?_)
  refine PyProof.Rows.callWith_type1 (thn (ha pos2 pins s σ H _ I h) fun us s1 ⟨vs, H1, I1, r1, q1⟩ => ?_) hs2 hpl2
  obtain ⟨l, xs, e, hl, q⟩ := q1
  subst e
  obtain ⟨u, rfl, ru⟩ := r1.one
  cases ru
  obtain ⟨its, rv, p, hz⟩ := I1.list hl
  have hlen := rv.length
  refine call_reversed_list p.isList ?_
  refine Calls.spliced_nil ?_
  have hlt : l < s1.heap.objs.size := by obtain ⟨o, ho, _⟩ := p.isList; exact Heap.lt_size ho
  have hne : l ≠ s1.heap.objs.size := Nat.ne_of_lt hlt
  have W := (Walks.listRev (prog := X.prog) (w := X.w) (A := X.A.in1.in1) (I.ok.hd hc) s1.heap.objs.size l hne its.toArray).toS
  have hit : (s1.heap.push (revObj l ((its.toArray.size : Int) - 1))).IsRevIter s1.heap.objs.size l ((its.toArray.size : Int) - 1 - ((0 : Nat) : Int)) := ⟨_, Heap.get?_push_size _ rfl, rfl, by simp [revObj]⟩
  have hil : (s1.heap.push (revObj l ((its.toArray.size : Int) - 1))).IsList l its.toArray := p.isList.at fun o e => Heap.get?_push_of_some _ e
  have hsz : (s1.heap.push (revObj l ((its.toArray.size : Int) - 1))).objs.size = s1.heap.objs.size + 1 := by simp [Heap.push]
  refine call_list_lri W (fun i s st => st.2.1.typeIs) ⟨Nat.zero_le _, hit, hil⟩ (fun b hb => ?_) (by simp) (fun s' acc' c' hm hS' hacc => ?_) (by simpa [← hlen] using hz)
  · rw [show ({ s1 with heap := s1.heap.push (revObj l ((its.toArray.size : Int) - 1)) } : Shared).heap.objs.size = s1.heap.objs.size + 1 from hsz]
    have hb : b = s1.heap.objs.size ∨ b = l := by simpa using hb
    rcases hb with rfl | rfl
    · exact Nat.lt_succ_self _
    · exact Nat.lt_succ_of_lt hlt
  · rw [Moved.eq_with hm]
    have kk : ∀ b o, s1.heap.get? b = some o → s'.heap.get? b = some o := fun b o e => by
      have hb := Heap.lt_size e
      refine hm.heap b o (fun hmem => ?_) (Heap.get?_push_of_some _ (Heap.get?_push_of_some _ e))
      have hmem : b = (s1.heap.push (revObj l ((its.toArray.size : Int) - 1))).objs.size ∨ b = s1.heap.objs.size := by simpa using hmem
      rw [hsz] at hmem
      rcases hmem with rfl | rfl
      · exact absurd hb (Nat.not_lt.mpr (Nat.le_succ _))
      · exact absurd hb (Nat.lt_irrefl _)
    rw [show ({ s1 with heap := s1.heap.push (revObj l ((its.toArray.size : Int) - 1)) } : Shared).heap.objs.size = s1.heap.objs.size + 1 from hsz] at hS' ⊢
    refine ⟨.ref (s1.heap.objs.size + 1), _, I1.laid kk (Nat.le_succ _) (o := .lst xs.reverse) ⟨by rw [List.length_reverse]; exact hz, acc'.toList, c', ?_, by simpa using hS'⟩, rfl, q _ (I1.hok.fresh (Nat.le_succ _))⟩
    refine Vals.of_get (by simp [hacc.1, hlen]) fun k x w hx hw => ?_
    have hk : k < xs.length := by
      have := (List.getElem?_eq_some_iff.mp hx).1
      simpa using this
    rw [List.getElem?_reverse hk] at hx
    obtain ⟨u, hu, ru⟩ := rv.get hx
    have : its.toArray[its.toArray.size - 1 - k]? = some w := hacc.2 k w (by rw [← Array.getElem?_toList]; exact hw)
    have e2 : its.toArray.size - 1 - k = xs.length - 1 - k := by simp [hlen]
    rw [e2] at this
    have : u = w := by
      have h1 : its[xs.length - 1 - k]? = some w := by simpa using this
      rw [hu] at h1
      exact Option.some.inj h1
    rw [← this]; exact ru
def dListRev (t : DTA) : DTE := fun ρ P => t ρ fun ds => match ds with
  | [.lst l] => P (.lst l.reverse)
  | _ => False
theorem de_listrev {p p2 pos2 : Pos} (hc : X.calm = true) (hgl : Gl X "list") (hml : X.mg "list" = none) (hgr : Gl X "reversed") (hmr : X.mg "reversed" = none) (ha : DA Z X [a] t)
    (hs : starEach [.Call (.Name "reversed" p2) [a] [] pos2] X.env = (false, eval (.Call (.Name "reversed" p2) [a] [] pos2) X.env) :: starEach [] X.env := by rfl) (hpl : (backTo pos (starEach [] X.env)).any (·.1) = false := by rfl)
    (hs2 : starEach [a] X.env = (false, eval a X.env) :: starEach [] X.env := by rfl) (hpl2 : (backTo pos2 (starEach [] X.env)).any (·.1) = false := by rfl) :
    DE Z X (.Call (.Name "list" p) [.Call (.Name "reversed" p2) [a] [] pos2] [] pos) (dListRev t) := by
  refine (pe_listrev hc hgl hml hgr hmr ha hs hpl hs2 hpl2).imp ?_
  rintro σ H Q ⟨G, ρ, P, s, en, h, q⟩
  refine ⟨G, ρ, _, s, en, h, fun ds hd vs G1 H1 x1 dv => ?_⟩
  cases dv with
  | nil => exact hd.elim
  | cons a as =>
    cases as with
    | cons _ _ => cases a <;> exact hd.elim
    | nil =>
      cases a <;> first | exact hd.elim | skip
      rename_i p xs ds ha e
      exact ⟨_, xs, rfl, SqL.of (x1.sub _ _ ha), fun p hn => q _ hd _ _ _ (x1.trans (.new x1.sub hn)) (.lst upd_same (e.rev.mono (same_new (x1.sub.free hn) _)))⟩
end
end L2

set_option Elab.async false
set_option linter.all false
set_option maxRecDepth 100000
set_option maxHeartbeats 4000000
namespace L2
open PySem PySem.Spec PyProof.Rows
/-! ### new lists of plain things, read off owned ones, put into an owned list -/
section
variable {Z : DC} {X : Cx} {md : List Nat} {rn : Nat} {a b e k : Expr} {pos : Pos} {ta tb te tk : DTE} {t : DTF}
def fAdd (ta tb : DTE) : DTF := fun ρ P => ta ρ fun d1 => ∃ l1, d1 = .lst l1 ∧ tb ρ fun d2 => ∃ l2, d2 = .lst l2 ∧ l1.length + l2.length ≤ sizeLine ∧ P (l1 ++ l2)
theorem df_add (ha : DE Z X a ta) (hb : DE Z X b tb) : DF Z X 1 (.BinOp a .Add b pos) (fAdd ta tb) := by
  refine (pe_op op_cat ha hb).imp ?_
  rintro σ H Q ⟨G, ρ, P, s, e, h, q⟩
  refine ⟨G, ρ, _, s, e, h, ?_⟩
  rintro _ ⟨l1, rfl, h⟩ v1 G1 H1 x1 dv1
  refine ⟨G1, ρ, _, x1.sub, e.mono x1.gg, h, ?_⟩
  rintro _ ⟨l2, rfl, hz, hp⟩ v2 G2 H2 x2 dv2
  obtain ⟨p1, xs1, rfl, h1, e1⟩ := dv1.ofLst
  obtain ⟨p2, xs2, rfl, h2, e2⟩ := dv2.ofLst
  have e1' := e1.mono x2.gg
  have x := x1.trans x2
  refine ⟨_, _, _, _, rfl, rfl, x2.hh _ _ (x1.sub _ _ h1), x2.sub _ _ h2, by rw [e1.length, e2.length]; exact hz, fun p hp' => ?_⟩
  obtain ⟨o1, o2, o3⟩ := own_new x hp' (e1'.append e2)
  exact q _ hp _ _ _ _ (x.side hp') o1 o2 o3
variable {tg iter elt : Expr} {ifs : List Expr} {scope : Scope} {NC : List Str} {src : List (Option Nat)} {wi : DTI} {g : DTG} {tt : DTT}
theorem df_lc (hc : X.calm = true) (c : CompOk X scope) (hsrc : SrcOk scope X.N src NC) (hi : DI Z X tg iter wi)
    (hg : ∀ ex s H, DG Z (cxC X scope NC ex s H) tg g) (ht : ∀ ex s H, DTs Z (cxC X scope NC ex s H) ifs tt) (he : ∀ ex s H, DE Z (cxC X scope NC ex s H) elt te)
    (hs : ∀ x, foldedSetIterable iter X.env x = pure x := by intro _; rfl) : DF Z X 1 (.ListComp elt [⟨tg, iter, ifs, 0⟩] scope pos) (fLC wi g tt te src) := (pe_lc hc c hsrc hi hg ht he hs).imp liftFLC
variable {B : Bs} {ρ : DN} {σ : St} {H G : Hp} {fp : Nat → List Addr}
theorem SIx.evF {P : List D → Prop} {Q : VK} (S : SIx Z B md ρ σ H G fp) (h : t ρ P)
    (hq : ∀ ds, P ds → ds.all flatD = true ∧ ∀ v G' H', SIx Z B md ρ σ H' G' fp → Ext G H G' H' → Dv Z G' v (.lst ds) → Q v H') : liftF Z 1 t σ H Q := by
  refine ⟨H, ρ, P, .refl _, S.envA, h, ?_⟩
  intro ds hd v f G' H' x o nd nw
  obtain ⟨hfl, k⟩ := hq ds hd
  obtain ⟨a, xs, ds', fps, rfl, e1, ha, hf', ol⟩ := o.lst
  cases e1
  obtain ⟨dv, rfl⟩ := ol.flat
  have hb : H a = none := (nw a (by rw [hf']; simp)).1
  have hg : G a = none := S.ex.sub.free hb
  have x2 : Ext G H (upd G a (.lst xs)) H' := by
    refine ⟨same_new hg _, fun b o e => ?_, x.hh, fun b h1 h2 => ?_⟩
    · by_cases z : b = a
      · subst z
        rw [upd_same] at e
        rw [← e]; exact ha
      · rw [upd_ne z] at e
        exact x.hh _ _ (S.ex.sub _ _ e)
    · rw [upd_ne (fun z => h1 (by rw [z]; exact hb))]; exact h2
  exact k _ _ _ (S.grow x2) x2 (.lst upd_same (dv.flat hfl))
/-- x[k] = a new list of plain things -/
def dSetIxF (i : Nat) (tk : DTE) (t : DTF) : DTS := fun E ρ => t ρ fun d => d.all flatD = true ∧ ∃ ds, ρ[i]? = some (some (.lst ds)) ∧ tk ρ fun kk => ∃ k j, kk = .int k ∧ ixN ds.length k = some j ∧ E.nx (ρ.set i (some (.lst (ds.set j (.lst d)))))
theorem ds_setixF (i : Nat) {x : Str} {px ps : Pos} (hk : DE Z X k tk) (he : DF Z X 1 e t) (hm : md.getD i 0 = 1 := by rfl) (hi : X.N[i]? = some x := by rfl) (hv : Vis X.env.scope x := by first | exact Or.inl rfl | exact Or.inr (Or.inl rfl) | exact Or.inr (Or.inr rfl)) (hd : (x == ("__debug__" : Str)) = false := by decide) (hcd : (x == ("__classdict__" : Str)) = false := by decide)
    (ha : ∀ v, assign (.Subscript (.Name x px) k ps) X.env v = (do
      let ov ← holding [v] (eval (.Name x px) X.env)
      let iv ← holding [v, ov] (eval k X.env)
      standAt ps
      holding [v, ov, iv] (setItem ov iv v)
      release [v, ov, iv] []) := by intro _; rfl)
    (hs : swapsWithSole [.Subscript (.Name x px) k ps] e pos.line X.env = pure false := by rfl) (hw : swappedStores [.Subscript (.Name x px) k ps] e X.env = pure none := by rfl)
    (h1 : (assignEach [.Subscript (.Name x px) k ps] X.env).map (·.2) = [assign (.Subscript (.Name x px) k ps) X.env] := by rfl) : DSt Z X md rn (.Assign [.Subscript (.Name x px) k ps] e pos) (dSetIxF i tk t) := by
  refine (ps_asg he (pg_sub (pv i hi hv hd hcd) hk set_list ha) hs hw h1).imp ?_
  rintro D σ H ⟨B, ρ, E, ⟨G, fp, S⟩, h, M⟩
  refine S.evF h fun d hd => ⟨hd.1, fun v G' H' S' x dv => ?_⟩
  obtain ⟨_, ds, h1, h⟩ := hd
  obtain ⟨l, xs, _, _, e2, e3, _⟩ := S'.one hm h1
  refine ⟨_, e2, S'.ev true h ?_⟩
  rintro _ ⟨k, j, rfl, hj, h3⟩
  refine ⟨rfl, fun v1 G1 H1 S1 x1 dv1 => ?_⟩
  cases dv1
  obtain ⟨l', xs', ds', e1, e2', e3', dvs, put⟩ := S1.one hm h1
  cases e1
  rw [e2] at e2'
  cases e2'
  exact ⟨l, xs', k, j, rfl, rfl, e3', by rw [dvs.length]; exact hj, M.nx _ h3 _ _ ⟨G1, fp, put _ _ (dvs.set (dv.mono x1.gg) j)⟩⟩
end
end L2



set_option Elab.async false
set_option linter.all false
set_option maxRecDepth 100000
set_option maxHeartbeats 4000000
namespace K33
open PySem L2 Wb
def spCellAt : DSp := fun ds P => ∃ (ns : List Int) (k : Nat), ds = [.scr ns, natD k] ∧ ∀ v : Int, P (.int v)
theorem ok__law_cell_at {P : Program} {w : World} {mg : Str → Option Value} {base : Heap} {Z : DC} (T : Txt Z mg) : FnOk P w Z.K mg base CX0 1 T.d__law_cell_at.f T.d__law_cell_at.fd ["_law_script", "_law_k"] (liftSp Z spCellAt) := by
  have nd := sc__law_cell_at.nd
  refine fn_data T.d__law_cell_at.F sc__law_cell_at [0, 0] (by decide) (fun ds R h => by obtain ⟨_, _, rfl, _⟩ := h; rfl) (fun cdv A outer s H E ds R hr h => ?_)
  have hu := hr.units
  refine ⟨_, (dss_cons (ds_if (dt_cmp od_lt (de_var 1) (de_callB cd_len rfl T.B.len bd_len (da_cons (de_var 0) da_nil)) (nomark _)) (dss_one (ds_ret (de_ix (de_var 0) (de_var 1)))) dss_nil)
      (dss_one (ds_ret de_int))), ?_⟩
  obtain ⟨ns, k, rfl, q⟩ := h
  refine ⟨_, rfl, _, rfl, ?_⟩
  refine ⟨_, rfl, ite_of (fun e => ?_) (fun e => ?_)⟩
  · have hk : k < ns.length := by
      have := of_decide_eq_true e
      omega
    exact ⟨_, rfl, _, rfl, _, atI_nat (List.getElem?_eq_getElem hk), q _⟩
  · exact q 0
def spDrawn : DSp := fun ds P => ∃ (c : Int), ds = [.int c] ∧ ∀ v : Int, P (.int v)
theorem modOk (a b : Int) (h : 0 < b) : 0 ≤ a % b ∧ a % b < b := ⟨Int.emod_nonneg _ (by omega), Int.emod_lt_of_pos _ h⟩
theorem eqC {i j : Int} {P : D → Prop} {ρ : DN} (h : P (.bl (decide (i = j)))) : dC (.int j) ρ (fun b => dEq (.int i) b P) := dEq_int h
theorem ok__law_drawn {P : Program} {w : World} {mg : Str → Option Value} {base : Heap} {Z : DC} (T : Txt Z mg) : FnOk P w Z.K mg base CX0 1 T.d__law_drawn.f T.d__law_drawn.fd ["_law_cell"] (liftSp Z spDrawn) := by
  have nd := sc__law_drawn.nd
  refine fn_data T.d__law_drawn.F sc__law_drawn [0, 0] (by decide) (fun ds R h => by obtain ⟨_, rfl, _⟩ := h; rfl) (fun cdv A outer s H E ds R hr h => ?_)
  have hu := hr.units
  refine ⟨_, (dss_cons (ds_if (DW.dt (dw_or (dt_cmp (od_eq hu) (de_var 0) de_int (nomark _)) (dw_or1 (DW.dt (dw_and (dt_cmp (od_eq hu) (de_op od_mod (de_var 0) de_int) de_int (nomark _)) (dw_and1 (dt_cmp od_gt (de_var 0) (de_op od_pow de_int de_int) (nomark _)))))))) (dss_one (ds_ret (de_op od_div (de_var 0) de_int))) dss_nil)
      (dss_cons (ds_set false 1 nd (de_op od_mod (de_op od_add (de_op od_mul (de_op od_mod (de_var 0) de_int) de_int) de_int) de_int))
      (dss_cons (ds_set false 1 nd (de_op od_mod (de_op od_add (de_op od_mul (de_var 1) (de_var 1)) de_int) de_int))
      (dss_one (ds_ret (de_op od_div (de_op od_pow (de_op od_add (de_var 1) de_int) de_int) de_int)))))), ?_⟩
  obtain ⟨c, rfl, q⟩ := h
  have m1 := modOk (c % 2147483629 * 48271 + 7919) 2147483647 (by decide)
  have m2 := modOk ((c % 2147483629 * 48271 + 7919) % 2147483647 * ((c % 2147483629 * 48271 + 7919) % 2147483647) + 104729) 2147483629 (by decide)
  have fin : ∀ v : Int, R (.int v) := q
  refine ⟨_, rfl, eqC ⟨_, rfl, ite_of (fun _ => iteT ⟨_, rfl, ⟨by decide, by decide⟩, q _⟩) (fun _ => ?_)⟩⟩
  refine ⟨_, rfl, (by show (0 : Int) < 2; decide), eqC ⟨_, rfl, ite_of (fun _ => ⟨_, rfl, ⟨by decide, by decide, by decide⟩, _, rfl, ite_of (fun _ => ⟨_, rfl, ⟨by decide, by decide⟩, q _⟩) (fun _ => ?_)⟩) (fun _ => iteF ?_)⟩⟩
  · refine ⟨_, rfl, (by show (0 : Int) < 2147483629; decide), .inr ⟨by decide, by decide⟩, (by show (0 : Int) < 2147483647; decide), trivial, ?_⟩
    refine ⟨_, rfl, _, rfl, .inl ⟨by dsimp only; omega, by dsimp only; omega⟩, (by show (0 : Int) < 2147483629; decide), trivial, ?_⟩
    exact ⟨_, rfl, ⟨by decide, by decide, by dsimp only; omega⟩, ⟨by decide, by decide⟩, q _⟩
  · refine ⟨_, rfl, (by show (0 : Int) < 2147483629; decide), .inr ⟨by decide, by decide⟩, (by show (0 : Int) < 2147483647; decide), trivial, ?_⟩
    refine ⟨_, rfl, _, rfl, .inl ⟨by dsimp only; omega, by dsimp only; omega⟩, (by show (0 : Int) < 2147483629; decide), trivial, ?_⟩
    exact ⟨_, rfl, ⟨by decide, by decide, by dsimp only; omega⟩, ⟨by decide, by decide⟩, q _⟩
theorem webW_set (w : W) (i : Nat) (r : List Nat) : (w.map rowW).set i (rowW r) = (w.set i r).map rowW := by rw [List.map_set]
theorem cutD_drop {α : Type} (l : List α) (k : Nat) (h : k ≤ l.length) : cutD l (some (k : Int)) none = l.drop k := by
  unfold cutD
  have e1 : HT.sIx l.length 0 (some (k : Int)) = k := by
    simp only [HT.sIx]
    split <;> omega
  have e2 : HT.sIx l.length l.length none = l.length := rfl
  rw [e1, e2]
  exact List.take_of_length_le (by simp)
theorem row_atI {w : W} {p : Nat} (h : p < w.length) : atI (w.map rowW) (p : Int) = some (rowW (row w p)) := atI_natD (web_row h)
theorem nat_atI {ns : List Nat} {p : Nat} (h : p < ns.length) : atI (ns.map natD) (p : Int) = some (natD (ns.getD p 0)) := atI_natD (by rw [List.getElem?_map, List.getD_eq_getElem?_getD, List.getElem?_eq_getElem h]; rfl)
end K33

set_option Elab.async false
set_option linter.all false
set_option maxRecDepth 100000
set_option maxHeartbeats 4000000
namespace K33
open PySem L2 Wb
def spGrown : DSp := fun ds P => ∃ (n : Int), ds = [.int n] ∧ ∀ w R, Grown w R → 3 ≤ w.length → w.length ≤ 14 → P (.tup [webW w, rowW R])
theorem ok__law_grown {P : Program} {w : World} {mg : Str → Option Value} {base : Heap} {Z : DC} (T : Txt Z mg) : FnOk P w Z.K mg base CX0 1 T.d__law_grown.f T.d__law_grown.fd ["_law_number"] (liftSp Z spGrown) := by
  have nd := sc__law_grown.nd
  refine fn_data T.d__law_grown.F sc__law_grown [0, 1, 0, 0, 0, 0, 0, 0, 0] (by decide) (fun ds R h => by obtain ⟨_, rfl, _⟩ := h; rfl) (fun cdv A outer s H E ds R hr h => ?_)
  have hu := hr.units
  refine ⟨_, (dss_cons (ds_new 1 nd (df_lst (da_cons (de_lst (da_cons de_int (da_cons de_int da_nil))) (da_cons (de_lst (da_cons de_int (da_cons de_int da_nil))) (da_cons (de_lst (da_cons de_int (da_cons de_int da_nil))) da_nil)))))
      (dss_cons (ds_set false 2 nd (de_lst (da_cons de_int (da_cons de_int (da_cons de_int da_nil)))))
      (dss_cons (ds_set false 3 nd (de_op od_add de_int (de_op od_mod (de_var 0) de_int)))
      (dss_cons (ds_set false 0 nd (de_op od_div (de_var 0) de_int))
      (dss_cons (ds_forR rfl PassesOwn.never (dr_range2 rfl T.B.range (da_cons de_int (da_cons (de_var 3) da_nil))) (dt_name 4 nd) (dss_cons (ds_set false 5 nd (de_op od_mod (de_var 0) (de_callB cd_len rfl T.B.len bd_len (da_cons (de_var 2) da_nil))))
      (dss_cons (ds_set false 6 nd (de_op od_add de_int (de_op od_mod (de_op od_div (de_var 0) (de_callB cd_len rfl T.B.len bd_len (da_cons (de_var 2) da_nil))) (de_op od_sub (de_callB cd_len rfl T.B.len bd_len (da_cons (de_var 2) da_nil)) de_int))))
      (dss_cons (ds_set false 0 nd (de_op od_div (de_var 0) (de_op od_mul (de_callB cd_len rfl T.B.len bd_len (da_cons (de_var 2) da_nil)) (de_op od_sub (de_callB cd_len rfl T.B.len bd_len (da_cons (de_var 2) da_nil)) de_int))))
      (dss_cons (ds_set false 2 nd (de_op od_add (de_slice (de_var 2) (do_some (de_var 5)) do_none) (de_slice (de_var 2) do_none (do_some (de_var 5)))))
      (dss_cons (ds_set false 7 nd (de_slice (de_var 2) do_none (do_some (de_op od_add (de_var 6) de_int))))
      (dss_cons (ds_app false 1 (de_listrev rfl rfl T.B.list rfl T.B.reversed (da_cons (de_var 7) da_nil)))
      (dss_cons (ds_setixF 1 (de_ix (de_var 7) de_int) (df_add (de_lst (da_cons (de_var 4) da_nil)) (de_ix (de_var 1) (de_ix (de_var 7) de_int))))
      (dss_cons (ds_for rfl PassesOwn.never (di_list (de_slice (de_var 7) (do_some de_int) do_none)) (dt_name 8 nd) (dss_one (ds_setixF 1 (de_var 8) (df_add (de_ix (de_var 1) (de_var 8)) (de_lst (da_cons (de_var 4) da_nil))))))
      (dss_one (ds_set false 2 nd (de_op od_add (de_lst (da_cons (de_ix (de_var 7) de_int) (da_cons (de_var 4) da_nil))) (de_slice (de_var 2) (do_some (de_var 6)) do_none)))))))))))))
      (dss_one (ds_ret (de_tup (da_cons (de_var 1) (da_cons (de_var 2) da_nil)))))))))), ?_⟩
  obtain ⟨n, rfl, q⟩ := h
  refine ⟨by show 2 ≤ sizeLine; decide, by show 2 ≤ sizeLine; decide, by show 2 ≤ sizeLine; decide, by show 3 ≤ sizeLine; decide, ?_⟩
  refine ⟨by show 3 ≤ sizeLine; decide, trivial, ?_⟩
  refine ⟨_, rfl, (by show (0 : Int) < 12; decide), trivial, ?_⟩
  refine ⟨_, rfl, ⟨by decide, by decide⟩, trivial, ?_⟩
  have m12 := modOk n 12 (by decide)
  refine ⟨_, rfl, ⟨by decide, by decide, by show -(2 ^ 62) ≤ 3 + n % 12; omega, by show 3 + n % 12 < 2 ^ 62; omega⟩, ?_⟩
  rw [show (3 + n % 12 - 3).toNat = (n % 12).toNat by omega]
  refine for_rng (fun j ρ => ∃ (x : Int) (w : W) (R : List Nat) (o4 o5 o6 o7 o8 : Option D), ρ = [some (.int x), some (webW w), some (rowW R), some (.int (3 + n % 12)), o4, o5, o6, o7, o8] ∧ Grown w R ∧ w.length = 3 + j) ?_ ?_ ?_
  · exact ⟨_, [[1, 2], [2, 0], [0, 1]], [0, 1, 2], _, _, _, _, _, rfl, grown_three, rfl⟩
  · rintro j _ hj ⟨x, w', R', o4, o5, o6, o7, o8, rfl, Gr, hl⟩ A hA
    have h3 := Gr.len
    have hR14 := Gr.rsz
    have lR : (R'.map natD).length = R'.length := List.length_map _
    have e0 : (0 : Int) < ((R'.map natD).length : Int) := by rw [lR]; omega
    have e1 : (0 : Int) < ((R'.map natD).length : Int) - 1 := by rw [lR]; omega
    have e2 : ((R'.map natD).length : Int) ≤ 14 := by rw [lR]; omega
    refine ⟨_, rfl, _, rfl, e0, trivial, ?_⟩
    refine ⟨_, rfl, _, rfl, ⟨e0, by omega⟩, _, rfl, e1, trivial, ?_⟩
    have m1 := modOk x ((R'.map natD).length : Int) e0
    have m2 := modOk (x / ((R'.map natD).length : Int)) (((R'.map natD).length : Int) - 1) e1
    generalize hat : x % ((R'.map natD).length : Int) = at_ at m1
    generalize hfar : x / ((R'.map natD).length : Int) % (((R'.map natD).length : Int) - 1) = fr at m2
    obtain ⟨a, rfl⟩ : ∃ a : Nat, at_ = (a : Int) := ⟨at_.toNat, by omega⟩
    obtain ⟨f', rfl⟩ : ∃ f : Nat, fr = (f : Int) := ⟨fr.toNat, by omega⟩
    rw [lR] at m1 m2
    have p1 : (0 : Int) < ((R'.map natD).length : Int) * (((R'.map natD).length : Int) - 1) := Int.mul_pos e0 e1
    have p2 : ((R'.map natD).length : Int) * (((R'.map natD).length : Int) - 1) ≤ 14 * 13 := Int.mul_le_mul e2 (by omega) (by omega) (by decide)
    refine ⟨_, rfl, _, rfl, _, rfl, .inl ⟨by omega, by omega⟩, ⟨p1, (show ((R'.map natD).length : Int) * (((R'.map natD).length : Int) - 1) < 1073741824 by omega)⟩, trivial, ?_⟩
    clear p1 p2
    refine (?_ : dSeq _ _ _ [some (.int (x / (((R'.map natD).length : Int) * (((R'.map natD).length : Int) - 1)))), some (webW w'), some (rowW R'), some (.int (3 + n % 12)), some (.int (3 + (j : Int))), some (.int (x % ((R'.map natD).length : Int))), some (.int (1 + x / ((R'.map natD).length : Int) % (((R'.map natD).length : Int) - 1))), o7, o8])
    rw [hat, hfar]
    generalize x / (((R'.map natD).length : Int) * (((R'.map natD).length : Int) - 1)) = x2
    have ca : cutD (R'.map natD) (some (a : Int)) none = (R'.drop a).map natD := by rw [cutD_drop _ _ (by rw [lR]; omega), List.map_drop]
    have cb : cutD (R'.map natD) none (some (a : Int)) = (R'.take a).map natD := by rw [cutD_take _ _ (by rw [lR]; omega), List.map_take]
    have Gr1 : Grown w' (R'.drop a ++ R'.take a) := by
      have := Gr
      rw [← List.take_append_drop a R'] at this
      exact this.rot
    have lR1 : (R'.drop a ++ R'.take a).length = R'.length := by rw [List.length_append, List.length_drop, List.length_take]; omega
    have sz1 : (cutD (R'.map natD) (some (a : Int)) none).length + (cutD (R'.map natD) none (some (a : Int))).length ≤ sizeLine := by
      rw [ca, cb, List.length_map, List.length_map]
      exact small (by rw [List.length_append] at lR1; omega)
    have er : (.lst (cutD (R'.map natD) (some (a : Int)) none ++ cutD (R'.map natD) none (some (a : Int))) : D) = rowW (R'.drop a ++ R'.take a) := by rw [ca, cb]; unfold rowW; rw [List.map_append]
    refine ⟨_, rfl, _, rfl, _, rfl, _, rfl, sz1, trivial, ?_⟩
    refine (?_ : dSeq _ _ _ [some (.int x2), some (webW w'), some (.lst (cutD (R'.map natD) (some (a : Int)) none ++ cutD (R'.map natD) none (some (a : Int)))), some (.int (3 + n % 12)), some (.int (3 + (j : Int))), some (.int (a : Int)), some (.int (1 + (f' : Int))), o7, o8])
    rw [er]
    clear er ca cb sz1
    generalize R'.drop a ++ R'.take a = R1 at Gr1 lR1
    have l1 : (R1.map natD).length = R1.length := List.length_map _
    have ct : cutD (R1.map natD) none (some ((1 : Int) + (f' : Int) + 1)) = (R1.take (f' + 1 + 1)).map natD := by
      rw [show (1 : Int) + (f' : Int) + 1 = ((f' + 1 + 1 : Nat) : Int) by omega, cutD_take _ _ (by rw [l1]; omega), List.map_take]
    refine ⟨_, rfl, _, rfl, trivial, ?_⟩
    refine (?_ : dSeq _ _ _ [some (.int x2), some (webW w'), some (rowW R1), some (.int (3 + n % 12)), some (.int (3 + (j : Int))), some (.int (a : Int)), some (.int (1 + (f' : Int))), some (.lst (cutD (R1.map natD) none (some ((1 : Int) + (f' : Int) + 1)))), o8])
    rw [ct]
    have lt2 : (R1.take (f' + 1 + 1)).length = f' + 2 := by rw [List.length_take]; omega
    have la : ((R1.take (f' + 1 + 1)).map natD).length = f' + 2 := by rw [List.length_map]; exact lt2
    have lw : (w'.map rowW).length = 3 + j := by rw [List.length_map]; exact hl
    refine ⟨_, rfl, _, rfl, trivial, small1000 (by rw [lw]; omega), ?_⟩
    have ea : (.lst (w'.map rowW ++ [.lst ((R1.take (f' + 1 + 1)).map natD).reverse]) : D) = webW (w' ++ [(R1.take (f' + 1 + 1)).reverse]) := by
      unfold webW rowW
      rw [List.map_append, ← List.map_reverse]; rfl
    refine (?_ : dSeq _ _ _ [some (.int x2), some (.lst (w'.map rowW ++ [.lst ((R1.take (f' + 1 + 1)).map natD).reverse])), some (rowW R1), some (.int (3 + n % 12)), some (.int (3 + (j : Int))), some (.int (a : Int)), some (.int (1 + (f' : Int))), some (rowW (R1.take (f' + 1 + 1))), o8])
    rw [ea]
    clear ea
    have r0lt : R1.getD 0 0 < w'.length := Gr1.rlt (getD_memL (by omega))
    have g0 : (R1.take (f' + 1 + 1)).getD 0 0 = R1.getD 0 0 := by rw [List.getD_eq_getElem?_getD, List.getElem?_take_of_lt (by omega), ← List.getD_eq_getElem?_getD]
    have a0 : atI ((R1.take (f' + 1 + 1)).map natD) (0 : Int) = some (natD (R1.getD 0 0)) := by
      have := nat_atI (ns := R1.take (f' + 1 + 1)) (p := 0) (by omega)
      rw [g0] at this
      exact this
    have lw1 : (w' ++ [(R1.take (f' + 1 + 1)).reverse]).length = w'.length + 1 := by simp
    have a1 := row_atI (w := w' ++ [(R1.take (f' + 1 + 1)).reverse]) (p := R1.getD 0 0) (by omega)
    rw [row_app, if_neg (by omega)] at a1
    have rl0 := row_len Gr1.g (R1.getD 0 0)
    have ev : (3 : Int) + (j : Int) = ((w'.length : Nat) : Int) := by omega
    refine ⟨_, rfl, by show 1 ≤ sizeLine; decide, _, rfl, _, rfl, _, rfl, _, a0, _, a1, _, rfl, small (by rw [List.length_map]; show 1 + _ ≤ 1000; omega), ?_, _, rfl, _, rfl, _, a0, _, R1.getD 0 0, rfl, ixN_natD (by rw [List.length_map]; omega), ?_⟩
    · rw [List.all_append, flat_nat]; rfl
    have M0 := Mid.start (w := w') (R := R1) (f := f' + 1) r0lt
    have es : (.lst (((w' ++ [(R1.take (f' + 1 + 1)).reverse]).map rowW).set (R1.getD 0 0) (.lst ([.int ((3 : Int) + (j : Int))] ++ (row w' (R1.getD 0 0)).map natD))) : D) = webW ((w' ++ [(R1.take (f' + 1 + 1)).reverse]).set (R1.getD 0 0) (w'.length :: row w' (R1.getD 0 0))) := by
      rw [ev]
      unfold webW
      rw [← webW_set]; rfl
    refine (?_ : dSeq _ _ _ [some (.int x2), some (.lst (((w' ++ [(R1.take (f' + 1 + 1)).reverse]).map rowW).set (R1.getD 0 0) (.lst ([.int ((3 : Int) + (j : Int))] ++ (row w' (R1.getD 0 0)).map natD)))), some (rowW R1), some (.int (3 + n % 12)), some (.int (3 + (j : Int))), some (.int (a : Int)), some (.int (1 + (f' : Int))), some (rowW (R1.take (f' + 1 + 1))), o8])
    rw [es]
    clear es a1
    have cd : cutD ((R1.take (f' + 1 + 1)).map natD) (some (1 : Int)) none = ((R1.take (f' + 1 + 1)).drop 1).map natD := by
      have := cutD_drop ((R1.take (f' + 1 + 1)).map natD) 1 (by rw [la]; omega)
      rw [List.map_drop]; exact this
    have ld : ((R1.take (f' + 1 + 1)).drop 1).length = f' + 1 := by rw [List.length_drop, lt2]; omega
    refine ⟨_, rfl, ?_⟩
    refine (?_ : forW _ _ _ (cutD ((R1.take (f' + 1 + 1)).map natD) (some (1 : Int)) none) _)
    rw [cd]
    refine for_inv (fun k ρ => ∃ (w2 : W) (o8 : Option D), ρ = [some (.int x2), some (webW w2), some (rowW R1), some (.int (3 + n % 12)), some (.int (3 + (j : Int))), some (.int (a : Int)), some (.int (1 + (f' : Int))), some (rowW (R1.take (f' + 1 + 1))), o8] ∧ Mid w' w2 R1 (f' + 1) k) ⟨_, _, rfl, M0⟩ ?_ ?_
    · rintro k d _ hd ⟨w2, p8, rfl, M⟩ A' hA'
      obtain ⟨y, hy, rfl⟩ := map_get hd
      have hk : k < f' + 1 := by
        have := (List.getElem?_eq_some_iff.mp hy).1
        omega
      have ey : y = R1.getD (k + 1) 0 := by
        rw [List.getElem?_drop, List.getElem?_take_of_lt (by omega)] at hy
        rw [List.getD_eq_getElem?_getD, Nat.add_comm k 1, hy]; rfl
      subst ey
      have ylt : R1.getD (k + 1) 0 < w'.length := Gr1.rlt (getD_memL (by omega))
      have l2 := M.l
      have a2 := row_atI (w := w2) (p := R1.getD (k + 1) 0) (by omega)
      have rl : (row w2 (R1.getD (k + 1) 0)).length ≤ 14 := by
        rw [M.ro _ (by omega) (fun i hi e => by have := getD_inj Gr1.nd (by omega) (by omega) e; omega)]
        have := row_len Gr1.g (R1.getD (k + 1) 0)
        omega
      refine ⟨_, rfl, _, rfl, _, a2, _, rfl, _, rfl, by show 1 ≤ sizeLine; decide, _, rfl, small (by rw [List.length_map]; show _ + 1 ≤ 1000; omega), ?_, _, rfl, _, rfl, _, R1.getD (k + 1) 0, rfl, ixN_natD (by rw [List.length_map]; omega), ?_⟩
      · rw [List.all_append, flat_nat]; rfl
      refine hA' _ ⟨w2.set (R1.getD (k + 1) 0) (row w2 (R1.getD (k + 1) 0) ++ [w'.length]), some (natD (R1.getD (k + 1) 0)), ?_, M.step Gr1.nd (by omega) (by omega) ylt⟩
      have es2 : (.lst ((w2.map rowW).set (R1.getD (k + 1) 0) (.lst ((row w2 (R1.getD (k + 1) 0)).map natD ++ [.int ((3 : Int) + (j : Int))]))) : D) = webW (w2.set (R1.getD (k + 1) 0) (row w2 (R1.getD (k + 1) 0) ++ [w'.length])) := by
        rw [ev]
        unfold webW
        rw [← webW_set]
        unfold rowW
        rw [List.map_append]; rfl
      rw [← es2]
      rfl
    · rintro _ ⟨w2, p8, rfl, M⟩
      rw [List.length_map, ld] at M
      have St := M.fin (by omega) (by omega)
      have G2 := step_grown Gr1 St
      have cf : cutD (R1.map natD) (some ((1 : Int) + (f' : Int))) none = (R1.drop (f' + 1)).map natD := by
        rw [show (1 : Int) + (f' : Int) = ((f' + 1 : Nat) : Int) by omega, cutD_drop _ _ (by rw [l1]; omega), List.map_drop]
      have szf : (2 : Nat) + (cutD (R1.map natD) (some ((1 : Int) + (f' : Int))) none).length ≤ sizeLine := by
        rw [cf, List.length_map, List.length_drop]; exact small (by omega)
      refine ⟨_, rfl, _, a0, _, rfl, by show 2 ≤ sizeLine; decide, _, rfl, _, rfl, szf, trivial, ?_⟩
      refine hA _ ⟨x2, w2, grownR R1 (f' + 1) w'.length, some (.int (3 + (j : Int))), some (.int (a : Int)), some (.int (1 + (f' : Int))), some (rowW (R1.take (f' + 1 + 1))), p8, ?_, G2, by rw [M.l]; omega⟩
      have ef : (.lst ([natD (R1.getD 0 0), .int ((3 : Int) + (j : Int))] ++ cutD (R1.map natD) (some ((1 : Int) + (f' : Int))) none) : D) = rowW (grownR R1 (f' + 1) w'.length) := by
        rw [cf, ev]
        unfold grownR rowW
        rfl
      rw [← ef]
      rfl
  · rintro _ ⟨x, w', R', o4, o5, o6, o7, o8, rfl, Gr, hl⟩
    exact ⟨_, rfl, _, rfl, by show 2 ≤ sizeLine; decide, q _ _ Gr (by omega) (by omega)⟩
end K33

set_option linter.all false
set_option maxRecDepth 100000
/-! all but the rim -/
namespace Wb
theorem Disc.congr {w : W} {R : List Nat} {A A' : Nat × Nat → Prop} (D : Disc w R A) (h : ∀ d, A d ↔ A' d) : Disc w R A' := by
  have : A = A' := funext fun d => propext (h d)
  rw [← this]; exact D
def Full (w : W) (R : List Nat) : Prop := Disc w R fun d => Dart w d ∧ ¬ adj R d.1 d.2
theorem adj_rot {a b : List Nat} (nd : (a ++ b).Nodup) (x y : Nat) : adj (b ++ a) x y ↔ adj (a ++ b) x y := by
  have mem : ∀ p, p ∈ b ++ a ↔ p ∈ a ++ b := fun p => List.perm_append_comm.mem_iff
  constructor
  · rintro ⟨h, e⟩; exact ⟨(mem x).mp h, by rw [e, succR_rot nd ((mem x).mp h)]⟩
  · rintro ⟨h, e⟩; exact ⟨(mem x).mpr h, by rw [e, succR_rot nd h]⟩
theorem Full.rot {w : W} {a b : List Nat} (F : Full w (a ++ b)) : Full w (b ++ a) :=
  (Disc.rot F).congr fun d => by rw [adj_rot F.nd]
theorem Grown.full {w : W} {R : List Nat} (G : Grown w R) : Full w R := G.disc
theorem Ren.full {w w' : W} {f : Nat → Nat} (N : Ren w w' f) (g : Good w) {R : List Nat} (F : Full w R) : Full w' (R.map f) := by
  refine (N.disc g F).congr fun d => ?_
  have lt1 : ∀ {x y}, Dart w (x, y) → x < w.length ∧ y < w.length := fun h => ⟨row_lt h, g.rng _ _ h⟩
  have ltR : ∀ p ∈ R, p < w.length := fun p hp => (lt1 (F.ring p hp).1).2
  have inj : ∀ p ∈ R, ∀ y ∈ R, f y = f p → y = p := fun p hp y hy e => N.inj y p (ltR y hy) (ltR p hp) e
  have sR : ∀ p ∈ R, succR (R.map f) (f p) = f (succR R p) := fun p hp => succR_map (inj p hp) hp
  have key : ∀ x y, x < w.length → y < w.length → (adj (R.map f) (f x) (f y) ↔ adj R x y) := fun x y hx hy => by
    constructor
    · rintro ⟨hm, e⟩
      obtain ⟨p, hp, ep⟩ := List.mem_map.mp hm
      have := N.inj p x (ltR p hp) hx ep
      subst this
      rw [sR p hp] at e
      exact ⟨hp, N.inj y _ hy (ltR _ (succR_mem hp)) e⟩
    · rintro ⟨hm, e⟩
      exact ⟨List.mem_map.mpr ⟨x, hm, rfl⟩, by rw [sR x hm, e]⟩
  constructor
  · rintro ⟨x, y, ⟨h1, h2⟩, rfl⟩
    have := lt1 h1
    exact ⟨(N.dart g this.1 this.2).mpr h1, fun z => h2 ((key x y this.1 this.2).mp z)⟩
  · rintro ⟨h1, h2⟩
    obtain ⟨x, y, h, rfl⟩ := N.all g h1
    have := lt1 h
    exact ⟨x, y, ⟨h, fun z => h2 ((key x y this.1 this.2).mpr z)⟩, rfl⟩
theorem land_full {w : W} (g : Good w) (tri : ∀ d, Dart w d → nxt w (nxt w (nxt w d)) = d) {a b : Nat} (hd : Dart w (a, b)) : Full w [a, b, succR (row w b) a] := by
  have D := land_disc g tri hd
  refine D.congr fun d => ?_
  have nd := D.nd
  generalize succR (row w b) a = c at *
  have s1 : succR [a, b, c] a = b := succR_app (a := []) (b := [c]) nd
  have s2 : succR [a, b, c] b = c := succR_app (a := [a]) (b := []) nd
  have s3 : succR [a, b, c] c = a := succR_last (b := [b]) nd
  obtain ⟨x, y⟩ := d
  refine and_congr Iff.rfl ?_
  constructor
  · rintro ⟨h1, h2, h3⟩ ⟨hm, e⟩
    have e : y = succR [a, b, c] x := e
    have hm : x = a ∨ x = b ∨ x = c := by simpa using hm
    rcases hm with rfl | rfl | rfl
    · exact h1 (by rw [e, s1])
    · exact h2 (by rw [e, s2])
    · exact h3 (by rw [e, s3])
  · intro h
    refine ⟨fun z => h ?_, fun z => h ?_, fun z => h ?_⟩
    · obtain ⟨rfl, rfl⟩ := Prod.mk.injEq .. ▸ z; exact ⟨by simp, s1.symm⟩
    · obtain ⟨rfl, rfl⟩ := Prod.mk.injEq .. ▸ z; exact ⟨by simp, s2.symm⟩
    · obtain ⟨rfl, rfl⟩ := Prod.mk.injEq .. ▸ z; exact ⟨by simp, s3.symm⟩
theorem Good.row_ne {w : W} (g : Good w) (h2 : 2 ≤ w.length) {p : Nat} (hp : p < w.length) : row w p ≠ [] := by
  obtain ⟨p', hp', ne⟩ : ∃ p', p' < w.length ∧ p' ≠ p := by
    by_cases c : p = 0
    · exact ⟨1, by omega, by omega⟩
    · exact ⟨0, by omega, by omega⟩
  have r := ((g.con p' hp').symm g.sym).trans (g.con p hp)
  cases r with
  | refl => exact absurd rfl ne
  | step _ h =>
    have := g.sym _ _ h
    intro e
    rw [e] at this
    cases this
end Wb

set_option Elab.async false
set_option linter.all false
set_option maxRecDepth 100000
set_option maxHeartbeats 4000000
namespace K33
open PySem L2 Wb
theorem for_rng0 {g : DTG} {tb : DTS} {E : DEnds} {n : Nat} {ρ : DN} (I : Nat → DN → Prop) (h0 : I 0 ρ) (hs : ∀ (j : Nat) (ρ : DN), j < n → I j ρ → ∀ A : DN → Prop, (∀ ρ, I (j + 1) ρ → A ρ) → g (natD j) ρ fun ρ1 => tb { nx := A, ct := A, bk := E.nx, rt := E.rt } ρ1)
    (he : ∀ ρ, I n ρ → E.nx ρ) : forW g tb E (rangeD 0 n) ρ := for_rng I h0 (fun j ρ hj h A hA => by
  have := hs j ρ hj h A hA
  unfold natD at this
  rw [Int.zero_add]; exact this) he
theorem ins_natD (r : List Nat) (i x : Nat) : ins (r.map natD) i (natD x) = (ins r i x).map natD := by
  unfold ins
  simp [List.map_take, List.map_drop]
def Names (n : Nat) (ns : List Nat) : Prop := ns.length = n ∧ ns.Nodup ∧ ∀ x ∈ ns, x < n
theorem names_all {n : Nat} {ns : List Nat} (N : Names n ns) {x : Nat} (h : x < n) : x ∈ ns := by
  apply Classical.byContradiction
  intro hx
  have : (x :: ns).length ≤ (List.range n).length := len_le_of_subset (List.nodup_cons.mpr ⟨hx, N.2.1⟩) fun y hy => by
    rcases List.mem_cons.mp hy with rfl | hy
    · exact List.mem_range.mpr h
    · exact List.mem_range.mpr (N.2.2 y hy)
  rw [List.length_range, List.length_cons, N.1] at this
  omega
theorem nx_as {f : DN → Prop} {ρ' : DN} (ρ : DN) (e : ρ' = ρ) (h : f ρ) : f ρ' := by rw [e]; exact h
/-- the first k rows are named -/
structure NR (w F : W) (ns : List Nat) (k : Nat) : Prop where
  l : F.length = w.length
  r : ∀ i, i < k → ∃ a b, row w i = a ++ b ∧ row F (ns.getD i 0) = (b ++ a).map fun x => ns.getD x 0
theorem NR.step {w F : W} {ns : List Nat} {k a : Nat} (h : NR w F ns k) (N : Names w.length ns) (hk : k < w.length) : NR w (F.set (ns.getD k 0) (((row w k).drop a ++ (row w k).take a).map fun x => ns.getD x 0)) ns (k + 1) := by
  have lt : ns.getD k 0 < F.length := by rw [h.l]; exact N.2.2 _ (getD_memL (by rw [N.1]; exact hk))
  refine ⟨by rw [List.length_set]; exact h.l, fun i hi => ?_⟩
  by_cases c : i = k
  · subst c
    exact ⟨(row w i).take a, (row w i).drop a, (List.take_append_drop _ _).symm, by rw [row_put lt, if_pos rfl]⟩
  · obtain ⟨x, y, e1, e2⟩ := h.r i (by omega)
    exact ⟨x, y, e1, by rw [row_put lt, if_neg (fun z => c (getD_inj N.2.1 (by rw [N.1]; omega) (by rw [N.1]; omega) z.symm)), e2]⟩
theorem NR.ren {w F : W} {ns : List Nat} (h : NR w F ns w.length) (N : Names w.length ns) : Ren w F fun x => ns.getD x 0 where
  len := h.l
  lt := fun x hx => N.2.2 _ (getD_memL (by rw [N.1]; exact hx))
  inj := fun x y hx hy e => getD_inj N.2.1 (by rw [N.1]; exact hx) (by rw [N.1]; exact hy) e
  onto := fun y hy => by
    obtain ⟨i, hi, e⟩ := List.mem_iff_getElem.mp (names_all N hy)
    exact ⟨i, by rw [N.1] at hi; exact hi, by rw [List.getD_eq_getElem?_getD, List.getElem?_eq_getElem hi]; exact e⟩
  rows := fun x hx => h.r x hx
def spNamedR : DSp := fun ds P => ∃ (w : W) (R : List Nat) (num : Int), ds = [webW w, rowW R, .int num] ∧ Good w ∧ Bnd w ∧ 3 ≤ w.length ∧ w.length ≤ 14 ∧ Full w R ∧ ∀ F R', Good F → Bnd F → F.length = w.length → Full F R' → P (.tup [webW F, rowW R'])
theorem Full.rsz {w : W} {R : List Nat} (g : Good w) (F : Full w R) : R.length ≤ w.length := by
  have := len_le_of_subset F.nd (m := List.range w.length) fun x hx => List.mem_range.mpr (g.rng _ _ (F.ring x hx).1)
  rw [List.length_range] at this
  exact this
theorem ok__law_named {P : Program} {w : World} {mg : Str → Option Value} {base : Heap} {Z : DC} (T : Txt Z mg) : FnOk P w Z.K mg base CX0 1 T.d__law_named.f T.d__law_named.fd ["_law_turns", "_law_ring", "_law_number"] (liftSp Z spNamedR) := by
  have nd := sc__law_named.nd
  refine fn_data T.d__law_named.F sc__law_named [0, 0, 0, 1, 0, 1, 0, 0] (by decide) (fun ds R h => by obtain ⟨_, _, _, rfl, _⟩ := h; rfl) (fun cdv A outer s H E ds R hr h => ?_)
  have hu := hr.units
  refine ⟨_, (dss_cons (ds_new 3 nd (df_lst da_nil))
      (dss_cons (ds_forR rfl PassesOwn.never (dr_range1 rfl T.B.range (da_cons (de_callB cd_len rfl T.B.len bd_len (da_cons (de_var 0) da_nil)) da_nil)) (dt_name 4 nd) (dss_cons (ds_ins false 3 (de_op od_mod (de_var 2) (de_op od_add (de_var 4) de_int)) (de_var 4))
      (dss_one (ds_set false 2 nd (de_op od_div (de_var 2) (de_op od_add (de_var 4) de_int))))))
      (dss_cons (ds_newlc 5 (NC := ["_law_row"]) (src := [none]) rfl nd (CompOk.of (defScope s__law_named) rfl rfl (by decide +kernel) (by decide +kernel) (by decide +kernel)) trivial (di_list (de_var 0)) (fun _ _ _ => (dg_name 0 (show (["_law_row"] : List Str).Nodup from by decide +kernel))) (fun _ _ _ => dts_nil) (fun _ _ _ => (de_lst da_nil)))
      (dss_cons (ds_for rfl PassesOwn.never (di_enum rfl T.B.enumerate (da_cons (de_var 0) da_nil)) (dt_tup 2 rfl (dts_cons (dt_name 4 nd) (dts_cons (dt_name 6 nd) dts_nil'))) (dss_cons (ds_set false 7 nd (de_op od_mod (de_var 2) (de_callB cd_len rfl T.B.len bd_len (da_cons (de_var 6) da_nil))))
      (dss_cons (ds_set false 2 nd (de_op od_div (de_var 2) (de_callB cd_len rfl T.B.len bd_len (da_cons (de_var 6) da_nil))))
      (dss_one (ds_setixF 5 (de_ix (de_var 3) (de_var 4)) (df_lc (NC := ["_law_other", "_law_names"]) (src := [none, some 3]) rfl (CompOk.of (defScope s__law_named) rfl rfl (by decide +kernel) (by decide +kernel) (by decide +kernel)) ⟨rfl, rfl, trivial⟩ (di_list (de_op od_add (de_slice (de_var 6) (do_some (de_var 7)) do_none) (de_slice (de_var 6) do_none (do_some (de_var 7))))) (fun _ _ _ => (dg_name 0 (show (["_law_other", "_law_names"] : List Str).Nodup from by decide +kernel))) (fun _ _ _ => dts_nil) (fun _ _ _ => (de_ix (de_var 1) (de_var 0)))))))))
      (dss_cons (ds_set false 7 nd (de_op od_mod (de_var 2) (de_callB cd_len rfl T.B.len bd_len (da_cons (de_var 1) da_nil))))
      (dss_one (ds_ret (de_tup (da_cons (de_var 5) (da_cons (de_lc (NC := ["_law_point", "_law_names"]) (src := [none, some 3]) rfl (CompOk.of (defScope s__law_named) rfl rfl (by decide +kernel) (by decide +kernel) (by decide +kernel)) ⟨rfl, rfl, trivial⟩ (di_list (de_op od_add (de_slice (de_var 1) (do_some (de_var 7)) do_none) (de_slice (de_var 1) do_none (do_some (de_var 7))))) (fun _ _ _ => (dg_name 0 (show (["_law_point", "_law_names"] : List Str).Nodup from by decide +kernel))) (fun _ _ _ => dts_nil) (fun _ _ _ => (de_ix (de_var 1) (de_var 0)))) da_nil)))))))))), ?_⟩
  obtain ⟨w', R', num, rfl, g, B, h3, h14, Fl, q⟩ := h
  have lw : (w'.map rowW).length = w'.length := List.length_map _
  refine ⟨by show 0 ≤ sizeLine; decide, ?_⟩
  refine ⟨_, rfl, ⟨by omega, by show ((w'.map rowW).length : Int) < 2 ^ 62; omega⟩, ?_⟩
  rw [show (((w'.map rowW).length : Int)).toNat = w'.length by omega]
  refine for_rng0 (fun j ρ => ∃ (y : Int) (ns : List Nat) (o4 o5 o6 o7 : Option D), ρ = [some (webW w'), some (rowW R'), some (.int y), some (rowW ns), o4, o5, o6, o7] ∧ Names j ns) ⟨num, [], _, _, _, _, rfl, rfl, List.nodup_nil, fun x h => by cases h⟩ ?_ ?_
  · rintro j _ hj ⟨y, ns, o4, o5, o6, o7, rfl, hl, nd, lt⟩ A hA
    have mq := modOk y ((j : Int) + 1) (by omega)
    have lr : (ns.map natD).length = j := by rw [List.length_map, hl]
    refine ⟨_, rfl, _, rfl, _, rfl, by show (0 : Int) < (j : Int) + 1; omega, _, rfl, _, rfl, trivial, ⟨mq.1, by rw [lr]; show y % ((j : Int) + 1) ≤ _; omega, small1000 (by rw [lr]; omega)⟩, ?_⟩
    refine ⟨_, rfl, _, rfl, ⟨by show (0 : Int) < (j : Int) + 1; omega, by show (j : Int) + 1 < 1073741824; omega⟩, trivial, ?_⟩
    refine hA _ ⟨y / ((j : Int) + 1), ins ns (y % ((j : Int) + 1)).toNat j, some (natD j), o5, o6, o7, ?_, by rw [ins_len, hl], nodup_ins nd (fun z => by have := lt j z; omega), fun x hx => ?_⟩
    · unfold rowW; rw [← ins_natD]; rfl
    · rcases mem_ins.mp hx with rfl | hx
      · omega
      · have := lt x hx; omega
  · rintro _ ⟨y, ns, o4, o5, o6, o7, rfl, N⟩
    refine ⟨_, rfl, lc_all (ρ := [none]) rowW (fun _ => .lst []) w' _ (fun y hy Y h => ⟨by show 0 ≤ sizeLine; decide, h⟩) rfl (small (by omega)) fun ρ' => ?_⟩
    have e0 : (.lst (w'.map fun _ => (.lst [] : D)) : D) = webW (w'.map fun _ => []) := by unfold webW; rw [List.map_map]; rfl
    refine (?_ : dSeq _ _ _ [some (webW w'), some (rowW R'), some (.int y), some (rowW ns), o4, some (.lst (w'.map fun _ => (.lst [] : D))), o6, o7])
    rw [e0]
    refine ⟨_, rfl, for_inv (fun k ρ => ∃ (y : Int) (F : W) (o4 o6 o7 : Option D), ρ = [some (webW w'), some (rowW R'), some (.int y), some (rowW ns), o4, some (webW F), o6, o7] ∧ NR w' F ns k) ⟨_, _, _, _, _, rfl, by simp, fun i h => by omega⟩ ?_ ?_⟩
    · rintro k d _ hd ⟨y, F, p4, p6, p7, rfl, nr⟩ A hA
      obtain ⟨d', hy, rfl⟩ := enumD_get hd
      obtain ⟨r, hr', rfl⟩ := map_get hy
      have hk : k < w'.length := (List.getElem?_eq_some_iff.mp hr').1
      have er : row w' k = r := row_of hr'
      have rpos : 0 < r.length := by
        have := g.row_ne (by omega) hk
        rw [er] at this
        exact List.length_pos_iff.mpr this
      have rl := row_len g k
      rw [er] at rl
      have lr : (r.map natD).length = r.length := List.length_map _
      have e1 : (0 : Int) < ((r.map natD).length : Int) := by rw [lr]; omega
      refine ⟨rfl, rfl, ?_⟩
      refine ⟨_, rfl, _, rfl, e1, trivial, ?_⟩
      refine ⟨_, rfl, _, rfl, ⟨e1, by rw [lr]; omega⟩, trivial, ?_⟩
      have m1 := modOk y ((r.map natD).length : Int) e1
      refine nx_as [some (webW w'), some (rowW R'), some (.int (y / ((r.map natD).length : Int))), some (rowW ns), some (natD k), some (webW F), some (rowW r), some (.int (y % ((r.map natD).length : Int)))] rfl ?_
      generalize hat : y % ((r.map natD).length : Int) = at_ at m1
      obtain ⟨a, rfl⟩ : ∃ a : Nat, at_ = (a : Int) := ⟨at_.toNat, by omega⟩
      rw [lr] at m1
      have ca : cutD (r.map natD) (some (a : Int)) none = (r.drop a).map natD := by rw [cutD_drop _ _ (by rw [lr]; omega), List.map_drop]
      have cb : cutD (r.map natD) none (some (a : Int)) = (r.take a).map natD := by rw [cutD_take _ _ (by rw [lr]; omega), List.map_take]
      have l2 : (r.drop a ++ r.take a).length = r.length := by rw [List.length_append, List.length_drop, List.length_take]; omega
      have sz1 : (cutD (r.map natD) (some (a : Int)) none).length + (cutD (r.map natD) none (some (a : Int))).length ≤ sizeLine := by
        rw [ca, cb, List.length_map, List.length_map]
        exact small (by rw [List.length_append] at l2; omega)
      refine ⟨_, rfl, _, rfl, _, rfl, _, rfl, sz1, ?_⟩
      refine (?_ : lcW _ _ _ (cutD (r.map natD) (some (a : Int)) none ++ cutD (r.map natD) none (some (a : Int))) _ _ _)
      rw [ca, cb, ← List.map_append]
      refine lc_all (ρ := [none, some (rowW ns)]) natD (fun o => natD (ns.getD o 0)) (r.drop a ++ r.take a) _ (fun o ho Y hY => ?_) rfl (small (by omega)) fun ρ' => ?_
      · have : o ∈ r := by
          have : o ∈ r.take a ++ r.drop a := List.perm_append_comm.mem_iff.mp ho
          rw [List.take_append_drop] at this
          exact this
        have hlt : o < ns.length := by rw [N.1]; exact g.rng k o (by rw [er]; exact this)
        exact ⟨_, rfl, _, rfl, _, nat_atI hlt, hY⟩
      · have hkn : k < ns.length := by rw [N.1]; exact hk
        have nlt : ns.getD k 0 < F.length := by rw [nr.l]; exact N.2.2 _ (getD_memL hkn)
        refine ⟨?_, _, rfl, _, rfl, _, rfl, _, nat_atI hkn, _, ns.getD k 0, rfl, ixN_natD (by rw [List.length_map]; exact nlt), ?_⟩
        · rw [List.all_map, List.all_eq_true]; intro x _; rfl
        · have nr2 := nr.step (a := a) N hk
          rw [er] at nr2
          refine hA _ ⟨y / ((r.map natD).length : Int), _, some (natD k), some (rowW r), some (.int (a : Int)), ?_, nr2⟩
          have es : (.lst ((F.map rowW).set (ns.getD k 0) (.lst ((r.drop a ++ r.take a).map fun o => natD (ns.getD o 0)))) : D) = webW (F.set (ns.getD k 0) ((r.drop a ++ r.take a).map fun x => ns.getD x 0)) := by
            unfold webW
            rw [← webW_set]
            unfold rowW
            rw [List.map_map]; rfl
          rw [← es]
          rfl
    · rintro _ ⟨y, F, p4, p6, p7, rfl, nr⟩
      rw [enumD_len, lw] at nr
      have Rn := nr.ren N
      have lR : (R'.map natD).length = R'.length := List.length_map _
      have hR3 := Fl.len
      have hRw := Full.rsz g Fl
      have e1 : (0 : Int) < ((R'.map natD).length : Int) := by rw [lR]; omega
      refine ⟨_, rfl, _, rfl, e1, trivial, ?_⟩
      have m1 := modOk y ((R'.map natD).length : Int) e1
      refine nx_as [some (webW w'), some (rowW R'), some (.int y), some (rowW ns), p4, some (webW F), p6, some (.int (y % ((R'.map natD).length : Int)))] rfl ?_
      generalize hat : y % ((R'.map natD).length : Int) = at_ at m1
      obtain ⟨a, rfl⟩ : ∃ a : Nat, at_ = (a : Int) := ⟨at_.toNat, by omega⟩
      rw [lR] at m1
      have ca : cutD (R'.map natD) (some (a : Int)) none = (R'.drop a).map natD := by rw [cutD_drop _ _ (by rw [lR]; omega), List.map_drop]
      have cb : cutD (R'.map natD) none (some (a : Int)) = (R'.take a).map natD := by rw [cutD_take _ _ (by rw [lR]; omega), List.map_take]
      have l2 : (R'.drop a ++ R'.take a).length = R'.length := by rw [List.length_append, List.length_drop, List.length_take]; omega
      have sz1 : (cutD (R'.map natD) (some (a : Int)) none).length + (cutD (R'.map natD) none (some (a : Int))).length ≤ sizeLine := by
        rw [ca, cb, List.length_map, List.length_map]
        exact small (by rw [List.length_append] at l2; omega)
      have Fr : Full w' (R'.drop a ++ R'.take a) := by
        have := Fl
        rw [← List.take_append_drop a R'] at this
        exact this.rot
      refine ⟨_, rfl, _, rfl, _, rfl, _, rfl, _, rfl, sz1, ?_⟩
      refine (?_ : lcW _ _ _ (cutD (R'.map natD) (some (a : Int)) none ++ cutD (R'.map natD) none (some (a : Int))) _ _ _)
      rw [ca, cb, ← List.map_append]
      refine lc_all (ρ := [none, some (rowW ns)]) natD (fun o => natD (ns.getD o 0)) (R'.drop a ++ R'.take a) _ (fun o ho Y hY => ?_) rfl (small (by omega)) fun ρ' => ?_
      · have hlt : o < ns.length := by rw [N.1]; exact g.rng _ _ (Fr.ring o ho).1
        exact ⟨_, rfl, _, rfl, _, nat_atI hlt, hY⟩
      · refine ⟨by show 2 ≤ sizeLine; decide, ?_⟩
        have e2 : (.lst ((R'.drop a ++ R'.take a).map fun o => natD (ns.getD o 0)) : D) = rowW ((R'.drop a ++ R'.take a).map fun x => ns.getD x 0) := by unfold rowW; rw [List.map_map]; rfl
        have := q F ((R'.drop a ++ R'.take a).map fun x => ns.getD x 0) (Rn.good g) (Rn.bnd g B) nr.l (Rn.full g Fr)
        rw [← e2] at this
        exact this
end K33

set_option Elab.async false
set_option linter.all false
set_option maxRecDepth 100000
set_option maxHeartbeats 4000000
namespace K33
open PySem L2 Wb
theorem lt_idx {x : Nat} : ∀ (ns : List Nat) (m : Nat), m < ns.idxOf x → ns[m]? ≠ some x
  | [], m, h => by simp at h
  | a :: ns, m, h => by
    rw [List.idxOf_cons] at h
    by_cases e : (a == x) = true
    · rw [e] at h; simp at h
    · rw [Bool.eq_false_iff.mpr e] at h
      cases m with
      | zero => intro z; simp at z; exact e (by simp [z])
      | succ m => rw [List.getElem?_cons_succ]; exact lt_idx ns m (by simpa using h)
theorem index_nat {ns : List Nat} {x : Nat} {P : D → Prop} (h : x ∈ ns) (q : P (natD (ns.idxOf x))) : flatD (natD x) = true ∧ (ns.map natD).all flatD = true ∧ ∃ (j : Nat) (z : D), (ns.map natD)[j]? = some z ∧ eqFD z (natD x) = true ∧ (∀ (m : Nat) z, m < j → (ns.map natD)[m]? = some z → eqFD z (natD x) = false) ∧ P (.int (j : Nat)) := by
  have hl := List.idxOf_lt_length_iff.mpr h
  have e : ns[ns.idxOf x]? = some x := by rw [List.getElem?_eq_getElem hl]; exact congrArg some (List.getElem_idxOf hl)
  refine ⟨rfl, flat_nat _, ns.idxOf x, natD x, by rw [List.getElem?_map, e]; rfl, by simp [eqFD, natD], fun m z hm hz => ?_, q⟩
  obtain ⟨y, hy, rfl⟩ := map_get hz
  have : y ≠ x := by
    rintro rfl
    exact lt_idx _ _ hm hy
  have : ¬ ((y : Int) = (x : Int)) := by omega
  simpa [eqFD, natD] using this
theorem index_facts {ns : List Nat} {x : Nat} (h : x ∈ ns) : (ns.map natD)[ns.idxOf x]? = some (natD x) ∧ eqFD (natD x) (natD x) = true ∧ ∀ (m : Nat) z, m < ns.idxOf x → (ns.map natD)[m]? = some z → eqFD z (natD x) = false := by
  have := index_nat (P := fun d => d = natD (ns.idxOf x)) h rfl
  obtain ⟨_, _, j, z, h1, h2, h3, h4⟩ := this
  have hl := List.idxOf_lt_length_iff.mpr h
  have e : ns[ns.idxOf x]? = some x := by rw [List.getElem?_eq_getElem hl]; exact congrArg some (List.getElem_idxOf hl)
  refine ⟨by rw [List.getElem?_map, e]; rfl, by simp [eqFD, natD], fun m z hm hz => ?_⟩
  obtain ⟨y, hy, rfl⟩ := map_get hz
  have : y ≠ x := by
    rintro rfl
    exact lt_idx _ _ hm hy
  have : ¬ ((y : Int) = (x : Int)) := by omega
  simpa [eqFD, natD] using this
theorem dSeq_of {t u : DTS} {E : DEnds} {ρ : DN} (h : t { E with nx := u E } ρ) : dSeq t u E ρ := h
def spBuilt : DSp := fun ds P => ∃ (ns : List Int), ds = [.scr ns] ∧ ∀ F R, Good F → Bnd F → 3 ≤ F.length → F.length ≤ 14 → Full F R → P (.tup [webW F, rowW R])
theorem ok__law_built {P : Program} {w : World} {mg : Str → Option Value} {base : Heap} {Z : DC} (T : Txt Z mg) : FnOk P w Z.K mg base CX0 2 T.d__law_built.f T.d__law_built.fd ["_law_script"] (liftSp Z spBuilt) := by
  have g__law_cell_at := ok__law_cell_at (P := P) (w := w) (base := base) T
  have g__law_drawn := ok__law_drawn (P := P) (w := w) (base := base) T
  have g__law_grown := ok__law_grown (P := P) (w := w) (base := base) T
  have g__law_named := ok__law_named (P := P) (w := w) (base := base) T
  have nd := sc__law_built.nd
  refine fn_data T.d__law_built.F sc__law_built [0, 0, 0, 0, 0, 0, 0] (by decide) (fun ds R h => by obtain ⟨_, rfl, _⟩ := h; rfl) (fun cdv A outer s H E ds R hr h => ?_)
  have hu := hr.units
  refine ⟨_, (dss_cons (ds_asg (de_call g__law_grown (hr.mono (by decide)) rfl T.d__law_grown.m T.d__law_grown.F.kp T.d__law_grown.b (da_cons (de_call g__law_drawn (hr.mono (by decide)) rfl T.d__law_drawn.m T.d__law_drawn.F.kp T.d__law_drawn.b (da_cons (de_call g__law_cell_at (hr.mono (by decide)) rfl T.d__law_cell_at.m T.d__law_cell_at.F.kp T.d__law_cell_at.b (da_cons (de_var 0) (da_cons de_int da_nil))) da_nil)) da_nil)) (dt_tup 2 rfl (dts_cons (dt_name 1 nd) (dts_cons (dt_name 2 nd) dts_nil'))))
      (dss_cons (ds_set false 3 nd (de_call g__law_drawn (hr.mono (by decide)) rfl T.d__law_drawn.m T.d__law_drawn.F.kp T.d__law_drawn.b (da_cons (de_call g__law_cell_at (hr.mono (by decide)) rfl T.d__law_cell_at.m T.d__law_cell_at.F.kp T.d__law_cell_at.b (da_cons (de_var 0) (da_cons de_int da_nil))) da_nil)))
      (dss_cons (ds_if (dt_cmp (od_eq hu) (de_callB cd_len rfl T.B.len bd_len (da_cons (de_var 2) da_nil)) de_int (nomark _)) (dss_cons (ds_set false 4 nd (de_op od_mod (de_var 3) (de_callB cd_len rfl T.B.len bd_len (da_cons (de_var 1) da_nil))))
      (dss_cons (ds_set false 5 nd (de_ix (de_ix (de_var 1) (de_var 4)) (de_op od_mod (de_op od_div (de_var 3) (de_callB cd_len rfl T.B.len bd_len (da_cons (de_var 1) da_nil))) (de_callB cd_len rfl T.B.len bd_len (da_cons (de_ix (de_var 1) (de_var 4)) da_nil)))))
      (dss_cons (ds_set false 6 nd (de_ix (de_var 1) (de_var 5)))
      (dss_one (ds_set false 2 nd (de_lst (da_cons (de_var 4) (da_cons (de_var 5) (da_cons (de_ix (de_var 6) (de_op od_mod (de_op od_add (de_index (de_var 6) (de_var 4)) de_int) (de_callB cd_len rfl T.B.len bd_len (da_cons (de_var 6) da_nil)))) da_nil))))))))) dss_nil)
      (dss_one (ds_ret (de_call g__law_named (hr.mono (by decide)) rfl T.d__law_named.m T.d__law_named.F.kp T.d__law_named.b (da_cons (de_var 1) (da_cons (de_var 2) (da_cons (de_call g__law_drawn (hr.mono (by decide)) rfl T.d__law_drawn.m T.d__law_drawn.F.kp T.d__law_drawn.b (da_cons (de_call g__law_cell_at (hr.mono (by decide)) rfl T.d__law_cell_at.m T.d__law_cell_at.F.kp T.d__law_cell_at.b (da_cons (de_var 0) (da_cons de_int da_nil))) da_nil)) da_nil))))))))), ?_⟩
  obtain ⟨ns, rfl, q⟩ := h
  refine ⟨_, rfl, ns, 0, rfl, fun v0 => ⟨v0, rfl, fun v1 => ⟨v1, rfl, fun w' R' Gr h3 h14 => ?_⟩⟩⟩
  refine ⟨rfl, rfl, ?_⟩
  refine ⟨_, rfl, ns, 4, rfl, fun v2 => ⟨v2, rfl, fun v3 => ⟨trivial, ?_⟩⟩⟩
  have lR : (R'.map natD).length = R'.length := List.length_map _
  have lw : (w'.map rowW).length = w'.length := List.length_map _
  refine ⟨_, rfl, ?_⟩
  dsimp only [dNil, bLen]
  refine eqC ⟨_, rfl, ite_of (fun e => ?_) (fun e => ?_)⟩
  · have e3 : R'.length = 3 := by have := of_decide_eq_true e; omega
    have tri := fun d hd => Gr.three e3 (d := d) hd
    have e1 : (0 : Int) < ((w'.map rowW).length : Int) := by rw [lw]; omega
    refine ⟨_, rfl, _, rfl, e1, trivial, ?_⟩
    have m1 := modOk v3 ((w'.map rowW).length : Int) e1
    refine nx_as [some (.scr ns), some (webW w'), some (rowW R'), some (.int v3), some (.int (v3 % ((w'.map rowW).length : Int))), none, none] rfl ?_
    generalize v3 % ((w'.map rowW).length : Int) = x1 at m1
    obtain ⟨p, rfl⟩ : ∃ a : Nat, x1 = (a : Int) := ⟨x1.toNat, by omega⟩
    rw [lw] at m1
    have hp : p < w'.length := by omega
    have rpos : 0 < (row w' p).length := List.length_pos_iff.mpr (Gr.g.row_ne (by omega) hp)
    have rl := row_len Gr.g p
    have lr : ((row w' p).map natD).length = (row w' p).length := List.length_map _
    have e2 : (0 : Int) < (((row w' p).map natD).length : Int) := by rw [lr]; omega
    have m2 := modOk (v3 / ((w'.map rowW).length : Int)) (((row w' p).map natD).length : Int) e2
    have at2 : atI ((row w' p).map natD) (v3 / ((w'.map rowW).length : Int) % (((row w' p).map natD).length : Int)) = some (natD ((row w' p).getD (v3 / ((w'.map rowW).length : Int) % (((row w' p).map natD).length : Int)).toNat 0)) := by
      have := nat_atI (ns := row w' p) (p := (v3 / ((w'.map rowW).length : Int) % (((row w' p).map natD).length : Int)).toNat) (by omega)
      rw [Int.toNat_of_nonneg m2.1] at this
      exact this
    have qm : (row w' p).getD (v3 / ((w'.map rowW).length : Int) % (((row w' p).map natD).length : Int)).toNat 0 ∈ row w' p := getD_memL (by omega)
    generalize (row w' p).getD (v3 / ((w'.map rowW).length : Int) % (((row w' p).map natD).length : Int)).toNat 0 = o at at2 qm
    refine ⟨_, rfl, _, rfl, _, row_atI hp, _, rfl, _, rfl, ⟨e1, by rw [lw]; omega⟩, _, rfl, _, rfl, _, row_atI hp, e2, _, at2, trivial, ?_⟩
    have ho : o < w'.length := Gr.g.rng _ _ qm
    refine ⟨_, rfl, _, rfl, _, row_atI ho, trivial, ?_⟩
    have po : p ∈ row w' o := Gr.g.sym _ _ qm
    have opos : 0 < (row w' o).length := List.length_pos_of_mem po
    have lo : ((row w' o).map natD).length = (row w' o).length := List.length_map _
    have e4 : (0 : Int) < (((row w' o).map natD).length : Int) := by rw [lo]; omega
    have e5 : (((row w' o).idxOf p : Int) + 1) % (((row w' o).map natD).length : Int) = ((((row w' o).idxOf p + 1) % (row w' o).length : Nat) : Int) := by rw [lo, Int.natCast_emod]; rfl
    have at3 : atI ((row w' o).map natD) ((((row w' o).idxOf p : Int) + 1) % (((row w' o).map natD).length : Int)) = some (natD (succR (row w' o) p)) := by
      rw [e5]
      exact nat_atI (Nat.mod_lt _ opos)
    refine ⟨_, rfl, _, rfl, _, rfl, _, rfl, _, rfl, _, rfl, rfl, flat_nat _, _, _, (index_facts po).1, (index_facts po).2.1, (index_facts po).2.2, _, rfl, e4, _, at3, by show 3 ≤ sizeLine; decide, trivial, ?_⟩
    exact ⟨_, rfl, _, rfl, _, rfl, ns, 1, rfl, fun v4 => ⟨v4, rfl, fun v5 => ⟨w', [p, o, succR (row w' o) p], v5, rfl, Gr.g, Gr.bnd, h3, h14, land_full Gr.g tri qm, fun F R2 g B hl fl => q F R2 g B (by omega) (by omega) fl⟩⟩⟩
  · exact ⟨_, rfl, _, rfl, _, rfl, ns, 1, rfl, fun v4 => ⟨v4, rfl, fun v5 => ⟨w', R', v5, rfl, Gr.g, Gr.bnd, h3, h14, Gr.full, fun F R2 g B hl fl => q F R2 g B (by omega) (by omega) fl⟩⟩⟩
def spWebL : DSp := fun ds P => ∃ (w : W), ds = [webW w] ∧ Good w ∧ 1 ≤ w.length ∧ w.length ≤ 14 ∧ P (.web w)
theorem ok__law_web {P : Program} {w : World} {mg : Str → Option Value} {base : Heap} {Z : DC} (T : Txt Z mg) : FnOk P w Z.K mg base CX0 6 T.d__law_web.f T.d__law_web.fd ["_law_turns"] (liftSp Z spWebL) := by
  have g_Web___init__ := ok_Web___init__ (P := P) (w := w) (base := base) T
  have nd := sc__law_web.nd
  refine fn_data T.d__law_web.F sc__law_web [0] (by decide) (fun ds R h => by obtain ⟨_, rfl, _⟩ := h; rfl) (fun cdv A outer s H E ds R hr h => ?_)
  have hu := hr.units
  refine ⟨_, (dss_one (ds_ret (de_make T.mkW g_Web___init__ (hr.mono (by decide)) rfl T.mC T.m___init__b (da_cons (de_lc (NC := ["_law_row"]) (src := [none]) rfl (CompOk.of (defScope s__law_web) rfl rfl (by decide +kernel) (by decide +kernel) (by decide +kernel)) trivial (di_list (de_var 0)) (fun _ _ _ => (dg_name 0 (show (["_law_row"] : List Str).Nodup from by decide +kernel))) (fun _ _ _ => dts_nil) (fun _ _ _ => (de_callTy cd_list rfl T.B.list bd_list (da_cons (de_var 0) da_nil)))) da_nil)))), ?_⟩
  obtain ⟨w', rfl, g, h1, h14, q⟩ := h
  exact ⟨_, rfl, lc_all (ρ := [none]) rowW rowW w' _ (fun y hy Y h => ⟨_, rfl, h⟩) rfl (small (by omega)) fun ρ' => ⟨w', rfl, g, h1, h14, q⟩⟩
end K33

set_option linter.all false
set_option maxRecDepth 100000
/-! rings of tied points -/
namespace Wb
structure Tied (w : W) (R : List Nat) : Prop where
  nd : R.Nodup
  len : 3 ≤ R.length
  tie : ∀ p ∈ R, succR R p ∈ row w p
theorem Disc.tied {w : W} {R : List Nat} {A : Nat × Nat → Prop} (D : Disc w R A) (g : Good w) : Tied w R := ⟨D.nd, D.len, fun p hp => g.sym _ _ (D.ring p hp).1⟩
section
variable {w : W} {R : List Nat}
def restL (l : List Nat) (a : Nat) : List Nat := l.drop (l.idxOf a + 1) ++ l.take (l.idxOf a)
theorem within_rest (w : W) (R : List Nat) (i : Nat) : withinL w R i = (restL (row w (R.getD i 0)) (R.getD ((i + 1) % R.length) 0)).take ((restL (row w (R.getD i 0)) (R.getD ((i + 1) % R.length) 0)).idxOf (R.getD (prevI R i) 0)) := rfl
theorem restL_mem {l : List Nat} {a x : Nat} (ha : a ∈ l) (hx : x ∈ l) (ne : x ≠ a) : x ∈ restL l a := by
  have := (rotA_perm l a).mem_iff.mpr hx
  rw [rotA_tail ha] at this
  rcases List.mem_cons.mp this with e | e
  · exact absurd e ne
  · exact e
theorem restL_len {l : List Nat} {a : Nat} (ha : a ∈ l) : (restL l a).length + 1 = l.length := by
  have := rotA_len l a
  rw [rotA_tail ha, List.length_cons] at this
  exact this
theorem Tied.lt (T : Tied w R) (g : Good w) {x : Nat} (h : x ∈ R) : x < w.length := row_lt (T.tie x h)
theorem Tied.next (T : Tied w R) {i : Nat} (hi : i < R.length) : R.getD ((i + 1) % R.length) 0 ∈ row w (R.getD i 0) := by
  rw [← succR_at T.nd hi]; exact T.tie _ (getD_memL hi)
theorem Tied.prev (T : Tied w R) (g : Good w) {i : Nat} (hi : i < R.length) : R.getD (prevI R i) 0 ∈ row w (R.getD i 0) := by
  have := T.tie _ (getD_memL (prevI_lt hi))
  rw [succR_prev T.nd hi] at this
  exact g.sym _ _ this
theorem Tied.pn (T : Tied w R) {i : Nat} (hi : i < R.length) : R.getD (prevI R i) 0 ≠ R.getD ((i + 1) % R.length) 0 := by
  intro e
  have len := T.len
  have := getD_inj T.nd (prevI_lt hi) (Nat.mod_lt _ (by omega)) e
  unfold prevI at this
  by_cases c : i + 1 < R.length
  · rw [Nat.mod_eq_of_lt c] at this
    split at this <;> omega
  · rw [show i + 1 = R.length by omega, Nat.mod_self] at this
    split at this <;> omega
theorem Tied.prev2 (T : Tied w R) (g : Good w) {i : Nat} (hi : i < R.length) : R.getD (prevI R i) 0 ∈ restL (row w (R.getD i 0)) (R.getD ((i + 1) % R.length) 0) := restL_mem (T.next hi) (T.prev g hi) (T.pn hi)
theorem Tied.rsz (T : Tied w R) (g : Good w) : R.length ≤ w.length := by
  have := len_le_of_subset T.nd (m := List.range w.length) fun x hx => List.mem_range.mpr (T.lt g hx)
  rw [List.length_range] at this
  exact this
end
end Wb

set_option Elab.async false
set_option linter.all false
set_option maxRecDepth 100000
set_option maxHeartbeats 4000000
namespace K33
open PySem L2 Wb
theorem prev_atI {R : List Nat} {i : Nat} (hi : i < R.length) : atI (R.map natD) ((i : Int) - 1) = some (natD (R.getD (prevI R i) 0)) := by
  have lR : (R.map natD).length = R.length := List.length_map _
  have lt := prevI_lt hi
  refine atI_of (j := prevI R i) lR ?_ (by rw [List.getElem?_map, List.getD_eq_getElem?_getD, List.getElem?_eq_getElem lt]; rfl)
  unfold ixN prevI
  by_cases c : i = 0
  · rw [if_pos c, if_neg (by omega), if_pos (by omega)]
    congr 1
    omega
  · rw [if_neg c, if_pos (by omega), if_pos (by omega)]
    congr 1
    omega
theorem next_atI {R : List Nat} {i : Nat} (hi : i < R.length) : atI (R.map natD) (((i : Int) + 1) % ((R.map natD).length : Int)) = some (natD (R.getD ((i + 1) % R.length) 0)) := by
  have lR : (R.map natD).length = R.length := List.length_map _
  have e : ((i : Int) + 1) % ((R.map natD).length : Int) = (((i + 1) % R.length : Nat) : Int) := by rw [lR, Int.natCast_emod]; rfl
  rw [e]
  exact nat_atI (Nat.mod_lt _ (by omega))
def spWithin : DSp := fun ds P => ∃ (w : W) (R : List Nat) (i : Nat), ds = [webW w, rowW R, natD i] ∧ Good w ∧ w.length ≤ 14 ∧ Tied w R ∧ i < R.length ∧ P (rowW (withinL w R i))
theorem ok__law_within {P : Program} {w : World} {mg : Str → Option Value} {base : Heap} {Z : DC} (T : Txt Z mg) : FnOk P w Z.K mg base CX0 1 T.d__law_within.f T.d__law_within.fd ["_law_turns", "_law_ring", "_law_i"] (liftSp Z spWithin) := by
  have nd := sc__law_within.nd
  refine fn_data T.d__law_within.F sc__law_within [0, 0, 0, 0, 0] (by decide) (fun ds R h => by obtain ⟨_, _, _, rfl, _⟩ := h; rfl) (fun cdv A outer s H E ds R hr h => ?_)
  have hu := hr.units
  refine ⟨_, (dss_cons (ds_set false 3 nd (de_ix (de_var 0) (de_ix (de_var 1) (de_var 2))))
      (dss_cons (ds_set false 4 nd (de_index (de_var 3) (de_ix (de_var 1) (de_op od_mod (de_op od_add (de_var 2) de_int) (de_callB cd_len rfl T.B.len bd_len (da_cons (de_var 1) da_nil))))))
      (dss_cons (ds_set false 3 nd (de_op od_add (de_slice (de_var 3) (do_some (de_op od_add (de_var 4) de_int)) do_none) (de_slice (de_var 3) do_none (do_some (de_var 4)))))
      (dss_one (ds_ret (de_slice (de_var 3) do_none (do_some (de_index (de_var 3) (de_ix (de_var 1) (de_op od_sub (de_var 2) de_int)))))))))), ?_⟩
  obtain ⟨w', R', i, rfl, g, h14, Ti, hi, q⟩ := h
  have lR : (R'.map natD).length = R'.length := List.length_map _
  have h3 := Ti.len
  have e0 : (0 : Int) < ((R'.map natD).length : Int) := by rw [lR]; omega
  have vlt := Ti.lt g (getD_memL hi)
  have rl := row_len g (R'.getD i 0)
  have nm := Ti.next hi
  have lr : ((row w' (R'.getD i 0)).map natD).length = (row w' (R'.getD i 0)).length := List.length_map _
  refine ⟨_, rfl, _, rfl, _, rfl, _, nat_atI hi, _, row_atI vlt, trivial, ?_⟩
  refine ⟨_, rfl, _, rfl, _, rfl, _, rfl, _, rfl, e0, _, next_atI hi, rfl, flat_nat _, _, _, (index_facts nm).1, (index_facts nm).2.1, (index_facts nm).2.2, trivial, ?_⟩
  have il := List.idxOf_lt_length_iff.mpr nm
  have ca : cutD ((row w' (R'.getD i 0)).map natD) (some (((row w' (R'.getD i 0)).idxOf (R'.getD ((i + 1) % R'.length) 0) : Int) + 1)) none = ((row w' (R'.getD i 0)).drop ((row w' (R'.getD i 0)).idxOf (R'.getD ((i + 1) % R'.length) 0) + 1)).map natD := by
    have := cutD_drop ((row w' (R'.getD i 0)).map natD) ((row w' (R'.getD i 0)).idxOf (R'.getD ((i + 1) % R'.length) 0) + 1) (by rw [lr]; omega)
    rw [List.map_drop]; exact this
  have cb : cutD ((row w' (R'.getD i 0)).map natD) none (some ((row w' (R'.getD i 0)).idxOf (R'.getD ((i + 1) % R'.length) 0) : Int)) = ((row w' (R'.getD i 0)).take ((row w' (R'.getD i 0)).idxOf (R'.getD ((i + 1) % R'.length) 0))).map natD := by rw [cutD_take _ _ (by rw [lr]; omega), List.map_take]
  have rll := restL_len nm
  have sz : (cutD ((row w' (R'.getD i 0)).map natD) (some (((row w' (R'.getD i 0)).idxOf (R'.getD ((i + 1) % R'.length) 0) : Int) + 1)) none).length + (cutD ((row w' (R'.getD i 0)).map natD) none (some ((row w' (R'.getD i 0)).idxOf (R'.getD ((i + 1) % R'.length) 0) : Int))).length ≤ sizeLine := by
    rw [ca, cb, List.length_map, List.length_map]
    unfold restL at rll
    rw [List.length_append] at rll
    exact small (by omega)
  have er : (.lst (cutD ((row w' (R'.getD i 0)).map natD) (some (((row w' (R'.getD i 0)).idxOf (R'.getD ((i + 1) % R'.length) 0) : Int) + 1)) none ++ cutD ((row w' (R'.getD i 0)).map natD) none (some ((row w' (R'.getD i 0)).idxOf (R'.getD ((i + 1) % R'.length) 0) : Int))) : D) = rowW (restL (row w' (R'.getD i 0)) (R'.getD ((i + 1) % R'.length) 0)) := by rw [ca, cb]; unfold rowW restL; rw [List.map_append]
  refine ⟨_, rfl, _, rfl, _, rfl, _, rfl, sz, trivial, ?_⟩
  refine nx_as [some (webW w'), some (rowW R'), some (natD i), some (.lst (cutD ((row w' (R'.getD i 0)).map natD) (some (((row w' (R'.getD i 0)).idxOf (R'.getD ((i + 1) % R'.length) 0) : Int) + 1)) none ++ cutD ((row w' (R'.getD i 0)).map natD) none (some ((row w' (R'.getD i 0)).idxOf (R'.getD ((i + 1) % R'.length) 0) : Int)))), some (natD ((row w' (R'.getD i 0)).idxOf (R'.getD ((i + 1) % R'.length) 0)))] rfl ?_
  rw [er]
  have pm := Ti.prev2 g hi
  have pl := List.idxOf_lt_length_iff.mpr pm
  refine ⟨_, rfl, _, rfl, _, rfl, _, rfl, _, rfl, _, prev_atI hi, rfl, flat_nat _, _, _, (index_facts pm).1, (index_facts pm).2.1, (index_facts pm).2.2, ?_⟩
  have ef : rowW (withinL w' R' i) = .lst (cutD ((restL (row w' (R'.getD i 0)) (R'.getD ((i + 1) % R'.length) 0)).map natD) none (some ((restL (row w' (R'.getD i 0)) (R'.getD ((i + 1) % R'.length) 0)).idxOf (R'.getD (prevI R' i) 0) : Int))) := by
    rw [within_rest, cutD_take _ _ (by rw [List.length_map]; omega), ← List.map_take]; rfl
  rw [ef] at q
  exact q
end K33

set_option Elab.async false
set_option linter.all false
set_option maxRecDepth 100000
set_option maxHeartbeats 4000000
namespace K33
open PySem L2 Wb
def chordsAt (w : W) (R : List Nat) (i : Nat) : List (Nat × Nat) := ((List.range (R.length - (i + 1))).filter fun k => decide (R.getD (i + 1 + k) 0 ∈ withinL w R i)).map fun k => (i, i + 1 + k)
def chordsL (w : W) (R : List Nat) (m : Nat) : List (Nat × Nat) := (List.range m).flatMap (chordsAt w R)
theorem chords_mem {w : W} {R : List Nat} {m i j : Nat} (h : (i, j) ∈ chordsL w R m) : i < j ∧ j < R.length ∧ R.getD j 0 ∈ withinL w R i := by
  unfold chordsL at h
  obtain ⟨i', _, h⟩ := List.mem_flatMap.mp h
  unfold chordsAt at h
  obtain ⟨k, hk, e⟩ := List.mem_map.mp h
  obtain ⟨rfl, rfl⟩ := Prod.mk.injEq .. ▸ e
  obtain ⟨h1, h2⟩ := List.mem_filter.mp hk
  have := List.mem_range.mp h1
  exact ⟨by omega, by omega, of_decide_eq_true h2⟩
theorem chords_all {w : W} {R : List Nat} {i j : Nat} (h1 : i < j) (h2 : j < R.length) (h3 : R.getD j 0 ∈ withinL w R i) : (i, j) ∈ chordsL w R R.length := by
  unfold chordsL
  refine List.mem_flatMap.mpr ⟨i, List.mem_range.mpr (by omega), ?_⟩
  unfold chordsAt
  refine List.mem_map.mpr ⟨j - (i + 1), List.mem_filter.mpr ⟨List.mem_range.mpr (by omega), decide_eq_true ?_⟩, ?_⟩
  · rw [show i + 1 + (j - (i + 1)) = j by omega]; exact h3
  · rw [show i + 1 + (j - (i + 1)) = j by omega]
theorem chordsAt_len (w : W) (R : List Nat) (i : Nat) : (chordsAt w R i).length ≤ R.length := by
  unfold chordsAt
  rw [List.length_map]
  have := List.length_filter_le (fun k => decide (R.getD (i + 1 + k) 0 ∈ withinL w R i)) (List.range (R.length - (i + 1)))
  rw [List.length_range] at this
  omega
theorem chords_len (w : W) (R : List Nat) : ∀ m, (chordsL w R m).length ≤ m * R.length
  | 0 => by simp [chordsL]
  | m + 1 => by
    have := chords_len w R m
    have h2 := chordsAt_len w R m
    unfold chordsL at this ⊢
    rw [List.range_succ, List.flatMap_append, List.length_append, List.flatMap_cons, List.flatMap_nil, List.append_nil, Nat.succ_mul]
    omega
def spChords : DSp := fun ds P => ∃ (w : W) (R : List Nat), ds = [webW w, rowW R] ∧ Good w ∧ w.length ≤ 14 ∧ Tied w R ∧ P (.lst ((chordsL w R R.length).map pairD))
theorem ok__law_chords {P : Program} {w : World} {mg : Str → Option Value} {base : Heap} {Z : DC} (T : Txt Z mg) : FnOk P w Z.K mg base CX0 2 T.d__law_chords.f T.d__law_chords.fd ["_law_turns", "_law_ring"] (liftSp Z spChords) := by
  have g__law_within := ok__law_within (P := P) (w := w) (base := base) T
  have nd := sc__law_chords.nd
  refine fn_data T.d__law_chords.F sc__law_chords [0, 0, 0, 0, 0] (by decide) (fun ds R h => by obtain ⟨_, _, rfl, _⟩ := h; rfl) (fun cdv A outer s H E ds R hr h => ?_)
  have hu := hr.units
  refine ⟨_, (dss_cons (ds_set false 2 nd (de_lst da_nil))
      (dss_cons (ds_forR rfl PassesOwn.never (dr_range1 rfl T.B.range (da_cons (de_callB cd_len rfl T.B.len bd_len (da_cons (de_var 1) da_nil)) da_nil)) (dt_name 3 nd) (dss_cons (ds_set false 4 nd (de_call g__law_within (hr.mono (by decide)) rfl T.d__law_within.m T.d__law_within.F.kp T.d__law_within.b (da_cons (de_var 0) (da_cons (de_var 1) (da_cons (de_var 3) da_nil)))))
      (dss_one (ds_set false 2 nd (de_op od_add (de_var 2) (de_lc (NC := ["_law_j", "_law_i", "_law_inner", "_law_ring"]) (src := [none, some 3, some 4, some 1]) rfl (CompOk.of (defScope s__law_chords) rfl rfl (by decide +kernel) (by decide +kernel) (by decide +kernel)) ⟨rfl, rfl, rfl, rfl, rfl, rfl, trivial⟩ (di_range2 rfl T.B.range (da_cons (de_op od_add (de_var 3) de_int) (da_cons (de_callB cd_len rfl T.B.len bd_len (da_cons (de_var 1) da_nil)) da_nil))) (fun _ _ _ => (dg_name 0 (show (["_law_j", "_law_i", "_law_inner", "_law_ring"] : List Str).Nodup from by decide +kernel))) (fun _ _ _ => (dts_one (dt_cmp od_in (de_ix (de_var 3) (de_var 0)) (de_var 2) (by with_unfolding_all rfl)))) (fun _ _ _ => (de_tup (da_cons (de_var 1) (da_cons (de_var 0) da_nil))))))))))
      (dss_one (ds_ret (de_var 2))))), ?_⟩
  obtain ⟨w', R', rfl, g, h14, Ti, q⟩ := h
  have lR : (R'.map natD).length = R'.length := List.length_map _
  have h3 := Ti.len
  have hR := Ti.rsz g
  refine ⟨by show 0 ≤ sizeLine; decide, trivial, ?_⟩
  refine ⟨_, rfl, ⟨by omega, by show ((R'.map natD).length : Int) < 2 ^ 62; omega⟩, ?_⟩
  rw [show (((R'.map natD).length : Int)).toNat = R'.length by omega]
  refine for_rng0 (fun i ρ => ∃ (o3 o4 : Option D), ρ = [some (webW w'), some (rowW R'), some (.lst ((chordsL w' R' i).map pairD)), o3, o4]) ⟨_, _, rfl⟩ ?_ ?_
  · rintro i _ hi ⟨o3, o4, rfl⟩ A hA
    refine ⟨_, rfl, _, rfl, _, rfl, w', R', i, rfl, g, h14, Ti, hi, trivial, ?_⟩
    have cl := chords_len w' R' i
    have c2 : i * R'.length ≤ 14 * 14 := Nat.mul_le_mul (by omega) (by omega)
    have cA := chordsAt_len w' R' i
    refine ⟨_, rfl, _, rfl, _, rfl, ⟨by show -(2 ^ 62) ≤ (i : Int) + 1; omega, by show (i : Int) + 1 < 2 ^ 62; omega, by show -(2 ^ 62) ≤ ((R'.map natD).length : Int); omega, by show ((R'.map natD).length : Int) < 2 ^ 62; omega⟩, ?_⟩
    have er : rangeD ((i : Int) + 1) (((R'.map natD).length : Int) - ((i : Int) + 1)).toNat = (List.range (R'.length - (i + 1))).map fun (k : Nat) => D.int ((i : Int) + 1 + (k : Int)) := by
      unfold rangeD
      rw [show (((R'.map natD).length : Int) - ((i : Int) + 1)).toNat = R'.length - (i + 1) by omega]
    refine (?_ : lcW _ _ _ (rangeD ((i : Int) + 1) (((R'.map natD).length : Int) - ((i : Int) + 1)).toNat) _ _ _)
    rw [er]
    refine lc_name (ρ := [none, some (natD i), some (rowW (withinL w' R' i)), some (rowW R')]) (fun (k : Nat) => D.int ((i : Int) + 1 + (k : Int))) (fun k => decide (R'.getD (i + 1 + k) 0 ∈ withinL w' R' i)) (fun k => pairD (i, i + 1 + k)) (List.range (R'.length - (i + 1))) _ [] _ (fun k hk Y Nn t1 t2 => ?_) ⟨none, rfl⟩ (by rw [List.length_nil, List.length_range]; exact small (by omega)) fun ρ' => ?_
    · have hk := List.mem_range.mp hk
      have ai : atI (R'.map natD) ((i : Int) + 1 + (k : Int)) = some (natD (R'.getD (i + 1 + k) 0)) := by
        have := nat_atI (ns := R') (p := i + 1 + k) (by omega)
        rw [show (i : Int) + 1 + (k : Int) = ((i + 1 + k : Nat) : Int) by omega]
        exact this
      refine ⟨_, rfl, _, rfl, _, ai, _, rfl, rfl, flat_nat _, _, rfl, ?_⟩
      refine (?_ : if (if false = true then _ else inD (natD (R'.getD (i + 1 + k) 0)) ((withinL w' R' i).map natD)) = true then _ else _)
      rw [if_neg Bool.false_ne_true, inD_nat]
      refine ite_of (fun e => ?_) (fun e => t2 e)
      have := t1 e
      refine ⟨_, rfl, _, rfl, by show 2 ≤ sizeLine; decide, ?_⟩
      have ep : pairD (i, i + 1 + k) = .tup [.int (i : Int), .int ((i : Int) + 1 + (k : Int))] := by
        unfold pairD
        rw [show (((i + 1 + k : Nat)) : Int) = (i : Int) + 1 + (k : Int) by omega]
      rw [ep] at this
      exact this
    · have e2 : [] ++ ((List.range (R'.length - (i + 1))).filter fun k => decide (R'.getD (i + 1 + k) 0 ∈ withinL w' R' i)).map (fun k => pairD (i, i + 1 + k)) = (chordsAt w' R' i).map pairD := by
        unfold chordsAt
        rw [List.nil_append, List.map_map]; rfl
      rw [e2]
      refine ⟨by rw [List.length_map, List.length_map]; exact small (by omega), trivial, ?_⟩
      refine hA _ ⟨some (natD i), some (rowW (withinL w' R' i)), ?_⟩
      have e3 : (chordsL w' R' (i + 1)).map pairD = (chordsL w' R' i).map pairD ++ (chordsAt w' R' i).map pairD := by
        unfold chordsL
        rw [List.range_succ, List.flatMap_append, List.flatMap_cons, List.flatMap_nil, List.append_nil, List.map_append]
      rw [e3]
      rfl
  · rintro _ ⟨o3, o4, rfl⟩
    exact ⟨_, rfl, q⟩
def spHalves : DSp := fun ds P => ∃ (R : List Nat) (i j : Nat), ds = [rowW R, natD i, natD j] ∧ R.length ≤ 14 ∧ i < j ∧ j < R.length ∧ P (.lst [rowW ((R.take (j + 1)).drop i), rowW (R.drop j ++ R.take (i + 1))])
theorem cutD_mid {α : Type} (l : List α) (i j : Nat) (h : i ≤ j) (hj : j ≤ l.length) : cutD l (some (i : Int)) (some (j : Int)) = (l.take j).drop i := by
  unfold cutD
  have e1 : HT.sIx l.length 0 (some (i : Int)) = i := by
    simp only [HT.sIx]
    split <;> omega
  have e2 : HT.sIx l.length l.length (some (j : Int)) = j := by
    simp only [HT.sIx]
    split <;> omega
  rw [e1, e2, List.drop_take]
theorem ok__law_halves {P : Program} {w : World} {mg : Str → Option Value} {base : Heap} {Z : DC} (T : Txt Z mg) : FnOk P w Z.K mg base CX0 1 T.d__law_halves.f T.d__law_halves.fd ["_law_ring", "_law_i", "_law_j"] (liftSp Z spHalves) := by
  have nd := sc__law_halves.nd
  refine fn_data T.d__law_halves.F sc__law_halves [0, 0, 0] (by decide) (fun ds R h => by obtain ⟨_, _, _, rfl, _⟩ := h; rfl) (fun cdv A outer s H E ds R hr h => ?_)
  have hu := hr.units
  refine ⟨_, (dss_one (ds_ret (de_lst (da_cons (de_slice (de_var 0) (do_some (de_var 1)) (do_some (de_op od_add (de_var 2) de_int))) (da_cons (de_op od_add (de_slice (de_var 0) (do_some (de_var 2)) do_none) (de_slice (de_var 0) do_none (do_some (de_op od_add (de_var 1) de_int)))) da_nil))))), ?_⟩
  obtain ⟨R', i, j, rfl, h14, hij, hj, q⟩ := h
  have lR : (R'.map natD).length = R'.length := List.length_map _
  have c1 : cutD (R'.map natD) (some (i : Int)) (some ((j : Int) + 1)) = ((R'.take (j + 1)).drop i).map natD := by
    have := cutD_mid (R'.map natD) i (j + 1) (by omega) (by rw [lR]; omega)
    rw [List.map_drop, List.map_take]; exact this
  have c2 : cutD (R'.map natD) (some (j : Int)) none = (R'.drop j).map natD := by rw [cutD_drop _ _ (by rw [lR]; omega), List.map_drop]
  have c3 : cutD (R'.map natD) none (some ((i : Int) + 1)) = (R'.take (i + 1)).map natD := by
    have := cutD_take (R'.map natD) (i + 1) (by rw [lR]; omega)
    rw [List.map_take]; exact this
  have sz : (cutD (R'.map natD) (some (j : Int)) none).length + (cutD (R'.map natD) none (some ((i : Int) + 1))).length ≤ sizeLine := by
    rw [c2, c3, List.length_map, List.length_map, List.length_drop, List.length_take]; exact small (by omega)
  refine ⟨_, rfl, _, rfl, _, rfl, _, rfl, _, rfl, _, rfl, _, rfl, sz, by show 2 ≤ sizeLine; decide, ?_⟩
  have e : (.lst [.lst (cutD (R'.map natD) (some (i : Int)) (some ((j : Int) + 1))), .lst (cutD (R'.map natD) (some (j : Int)) none ++ cutD (R'.map natD) none (some ((i : Int) + 1)))] : D) = .lst [rowW ((R'.take (j + 1)).drop i), rowW (R'.drop j ++ R'.take (i + 1))] := by
    rw [c1, c2, c3]
    unfold rowW
    rw [List.map_append]
  rw [← e] at q
  exact q
end K33

set_option Elab.async false
set_option linter.all false
set_option maxRecDepth 100000
set_option maxHeartbeats 4000000
namespace K33
open PySem L2 Wb
theorem pyAll_map {α : Type} {f : α → D} {g : α → PyData} (h : ∀ a, (f a).py = some (g a)) : ∀ l : List α, pyAll (l.map f) = some (l.map g)
  | [] => rfl
  | a :: l => by
    have := pyAll_map h l
    rw [List.map_cons, pyAll, h a, this]; rfl
theorem ne_nil {l : List D} {ps : List PyData} {P : D → Prop} (h : pyAll l = some ps) (hd : (PyData.list ps).depth ≤ 64) (q : P (.bl (!l.isEmpty))) : dNe (.lst l) (.lst []) P := by
  refine ⟨.list ps, .list [], by rw [D.py, h]; rfl, rfl, hd, ?_⟩
  have : PyData.eqv (.list ps) (.list []) = l.isEmpty := by
    cases l with
    | nil =>
      have : ps = [] := (Option.some.inj h).symm
      rw [this]; decide
    | cons a l =>
      cases ps with
      | nil =>
        rw [pyAll] at h
        cases e : a.py with
        | none => rw [e] at h; cases h
        | some x =>
          rw [e] at h
          cases e2 : pyAll l with
          | none => rw [e2] at h; cases h
          | some y => rw [e2] at h; cases h
      | cons b ps => rw [PyData.eqv]; rfl
  rw [if_pos rfl, this]; exact q
theorem py_pair (t : Nat × Nat) : (pairD t).py = some (.tuple [.int (t.1 : Nat), .int (t.2 : Nat)]) := rfl
theorem two_at {x : Int} {a b : D} : atI [a, b] (x % 2) = some a ∨ atI [a, b] (x % 2) = some b := by
  have h : x % 2 = 0 ∨ x % 2 = 1 := by omega
  rcases h with e | e
  · left; rw [e]; rfl
  · right; rw [e]; rfl
theorem cutD_last {α : Type} (l : List α) (h : 0 < l.length) : cutD l none (some (-1)) = l.dropLast := by
  unfold cutD
  have e1 : HT.sIx l.length 0 none = 0 := rfl
  have e2 : HT.sIx l.length l.length (some (-1)) = l.length - 1 := by
    simp only [HT.sIx]
    split <;> omega
  rw [e1, e2, List.drop_zero, List.dropLast_eq_take, Nat.sub_zero]
def spLesser : DSp := fun ds P => ∃ (w : W) (R : List Nat) (num : Int), ds = [webW w, rowW R, .int num] ∧ Good w ∧ Bnd w ∧ w.length ≤ 14 ∧ ∃ A, Disc w R A ∧ ∀ R2, (R2.length = 2 ∨ ∃ A', Disc w R2 A' ∧ cnt w A' < cnt w A) → P (rowW R2)
theorem ok__law_lesser {P : Program} {w : World} {mg : Str → Option Value} {base : Heap} {Z : DC} (T : Txt Z mg) : FnOk P w Z.K mg base CX0 3 T.d__law_lesser.f T.d__law_lesser.fd ["_law_turns", "_law_ring", "_law_number"] (liftSp Z spLesser) := by
  have g__law_chords := ok__law_chords (P := P) (w := w) (base := base) T
  have g__law_halves := ok__law_halves (P := P) (w := w) (base := base) T
  have g__law_within := ok__law_within (P := P) (w := w) (base := base) T
  have nd := sc__law_lesser.nd
  refine fn_data T.d__law_lesser.F sc__law_lesser [0, 0, 0, 0, 0, 0, 0] (by decide) (fun ds R h => by obtain ⟨_, _, _, rfl, _⟩ := h; rfl) (fun cdv A outer s H E ds R hr h => ?_)
  have hu := hr.units
  refine ⟨_, (dss_cons (ds_set false 3 nd (de_call g__law_chords (hr.mono (by decide)) rfl T.d__law_chords.m T.d__law_chords.F.kp T.d__law_chords.b (da_cons (de_var 0) (da_cons (de_var 1) da_nil))))
      (dss_cons (ds_set false 4 nd (de_op od_sub (de_callB cd_len rfl T.B.len bd_len (da_cons (de_var 1) da_nil)) de_int))
      (dss_cons (ds_if (DW.dt (dw_and (dt_cmp (od_ne hu) (de_var 3) (de_lst da_nil) (nomark _)) (dw_and1 (DW.dt (dw_or (dt_cmp (od_eq hu) (de_op od_mod (de_var 2) de_int) de_int (nomark _)) (dw_or1 (dt_cmp (od_ne hu) (de_lc (NC := ["_law_two", "_law_last"]) (src := [none, some 4]) rfl (CompOk.of (defScope s__law_lesser) rfl rfl (by decide +kernel) (by decide +kernel) (by decide +kernel)) ⟨rfl, rfl, trivial⟩ (di_list (de_var 3)) (fun _ _ _ => (dg_name 0 (show (["_law_two", "_law_last"] : List Str).Nodup from by decide +kernel))) (fun _ _ _ => (dts_one (dt_cmp (od_eq hu) (de_ix (de_var 0) de_int) (de_var 1) (nomark _)))) (fun _ _ _ => (de_var 0))) (de_lst da_nil) (nomark _)))))))) (dss_cons (ds_asg (de_ix (de_var 3) (de_op od_mod (de_op od_div (de_var 2) de_int) (de_callB cd_len rfl T.B.len bd_len (da_cons (de_var 3) da_nil)))) (dt_tup 2 rfl (dts_cons (dt_name 5 nd) (dts_cons (dt_name 6 nd) dts_nil'))))
      (dss_one (ds_ret (de_ix (de_call g__law_halves (hr.mono (by decide)) rfl T.d__law_halves.m T.d__law_halves.F.kp T.d__law_halves.b (da_cons (de_var 1) (da_cons (de_var 5) (da_cons (de_var 6) da_nil)))) (de_op od_mod (de_op od_div (de_op od_div (de_var 2) de_int) (de_callB cd_len rfl T.B.len bd_len (da_cons (de_var 3) da_nil))) de_int))))) dss_nil)
      (dss_one (ds_ret (de_op od_add (de_slice (de_var 1) do_none (do_some (de_neg de_int))) (de_listrev rfl rfl T.B.list rfl T.B.reversed (da_cons (de_call g__law_within (hr.mono (by decide)) rfl T.d__law_within.m T.d__law_within.F.kp T.d__law_within.b (da_cons (de_var 0) (da_cons (de_var 1) (da_cons (de_var 4) da_nil)))) da_nil)))))))), ?_⟩
  obtain ⟨w', R', num, rfl, g, B, h14, AA, Dc, q⟩ := h
  have Ti := Dc.tied g
  have lR : (R'.map natD).length = R'.length := List.length_map _
  have h3 := Ti.len
  have hR := Ti.rsz g
  refine ⟨_, rfl, _, rfl, w', R', rfl, g, h14, Ti, trivial, ?_⟩
  refine ⟨_, rfl, trivial, ?_⟩
  refine nx_as [some (webW w'), some (rowW R'), some (.int num), some (.lst ((chordsL w' R' R'.length).map pairD)), some (.int (((R'.map natD).length : Int) - 1)), none, none] rfl ?_
  have cl := chords_len w' R' R'.length
  have c2 : R'.length * R'.length ≤ 14 * 14 := Nat.mul_le_mul (by omega) (by omega)
  have lC : ((chordsL w' R' R'.length).map pairD).length = (chordsL w' R' R'.length).length := List.length_map _
  have dpt : ∀ l : List (Nat × Nat), (PyData.list (l.map fun t => PyData.tuple [.int (t.1 : Nat), .int (t.2 : Nat)])).depth ≤ 64 := fun l => by
    rw [PyData.depth]
    have := depthAll_map (f := fun t : Nat × Nat => PyData.tuple [.int (t.1 : Nat), .int (t.2 : Nat)]) (k := 2) (fun t => by simp [PyData.depth, PyData.depthAll]) l
    omega
  have elast : ((R'.map natD).length : Int) - 1 = ((R'.length - 1 : Nat) : Int) := by rw [lR]; omega
  have wl : (withinL w' R' (R'.length - 1)).length ≤ 14 := by
    rw [within_rest]
    have := restL_len (Ti.next (i := R'.length - 1) (by omega))
    have h2 := row_len g (R'.getD (R'.length - 1) 0)
    rw [List.length_take]
    omega
  have szB : (cutD (R'.map natD) none (some (-1))).length + ((withinL w' R' (R'.length - 1)).map natD).reverse.length ≤ sizeLine := by
    rw [cutD_last _ (by omega), List.length_dropLast, List.length_reverse, List.length_map, List.length_map]
    exact small (by omega)
  have eB : (.lst (cutD (R'.map natD) none (some (-1)) ++ ((withinL w' R' (R'.length - 1)).map natD).reverse) : D) = rowW (R'.dropLast ++ (withinL w' R' (R'.length - 1)).reverse) := by
    rw [cutD_last _ (by omega)]
    unfold rowW
    rw [List.map_append, List.map_dropLast, List.map_reverse]
  have chord : chordsL w' R' R'.length ≠ [] → (0 : Int) < (((chordsL w' R' R'.length).map pairD).length : Int) ∧ ∃ ci cj, atI ((chordsL w' R' R'.length).map pairD) (num / 3 % (((chordsL w' R' R'.length).map pairD).length : Int)) = some (pairD (ci, cj)) ∧ ci < cj ∧ cj < R'.length ∧ R'.getD cj 0 ∈ withinL w' R' ci := fun ne => by
    have pos := List.length_pos_iff.mpr ne
    have cp : (0 : Int) < (((chordsL w' R' R'.length).map pairD).length : Int) := by rw [lC]; omega
    have m := modOk (num / 3) (((chordsL w' R' R'.length).map pairD).length : Int) cp
    rw [lC] at m
    have hlt : (num / 3 % ((chordsL w' R' R'.length).length : Int)).toNat < (chordsL w' R' R'.length).length := by omega
    refine ⟨cp, ((chordsL w' R' R'.length)[(num / 3 % ((chordsL w' R' R'.length).length : Int)).toNat]).1, ((chordsL w' R' R'.length)[(num / 3 % ((chordsL w' R' R'.length).length : Int)).toNat]).2, ?_, chords_mem (List.getElem_mem hlt)⟩
    have := atI_natD (l := (chordsL w' R' R'.length).map pairD) (p := (num / 3 % ((chordsL w' R' R'.length).length : Int)).toNat) (d := pairD ((chordsL w' R' R'.length)[(num / 3 % ((chordsL w' R' R'.length).length : Int)).toNat])) (by rw [List.getElem?_map, List.getElem?_eq_getElem hlt]; rfl)
    rw [Int.toNat_of_nonneg m.1] at this
    rw [lC]
    exact this
  refine dSeq_of ?_
  refine ⟨_, rfl, by show 0 ≤ sizeLine; decide, ne_nil (pyAll_map py_pair (chordsL w' R' R'.length)) (dpt _) ⟨_, rfl, ite_of (fun e => ?_) (fun e => iteF ?_)⟩⟩
  · have ne : chordsL w' R' R'.length ≠ [] := by
      intro z; rw [z] at e; simp at e
    obtain ⟨cp, ci, cj, cat, hc1, hc2, hc3⟩ := chord ne
    refine ⟨_, rfl, (by show (0 : Int) < 3; decide), eqC ⟨_, rfl, ite_of (fun e3 => iteT ?_) (fun e3 => ?_)⟩⟩
    · refine ⟨_, rfl, _, rfl, ⟨by decide, by decide⟩, _, rfl, cp, _, cat, ?_⟩
      refine ⟨rfl, rfl, ?_⟩
      refine ⟨_, rfl, _, rfl, _, rfl, R', ci, cj, rfl, by omega, hc1, hc2, ?_⟩
      refine ⟨_, rfl, ⟨by decide, by decide⟩, _, rfl, ⟨cp, by omega⟩, (by show (0 : Int) < 2; decide), ?_⟩
      rcases two_at (x := num / 3 / (((chordsL w' R' R'.length).map pairD).length : Int)) (a := rowW ((R'.take (cj + 1)).drop ci)) (b := rowW (R'.drop cj ++ R'.take (ci + 1))) with e | e
      · exact ⟨_, e, q _ (.inr (chord_disc g B Dc hc1 hc2 hc3).1)⟩
      · exact ⟨_, e, q _ (.inr (chord_disc g B Dc hc1 hc2 hc3).2)⟩
    · refine ⟨_, rfl, lc_name (ρ := [none, some (.int (((R'.map natD).length : Int) - 1))]) pairD (fun t => decide ((t.2 : Int) = ((R'.map natD).length : Int) - 1)) pairD (chordsL w' R' R'.length) _ [] _ (fun t ht Y Nn t1 t2 => ?_) ⟨none, rfl⟩ (by rw [List.length_nil, Nat.zero_add]; exact small (by omega)) fun ρ' => ?_⟩
      · refine ⟨_, rfl, _, rfl, _, rfl, dEq_int ⟨_, rfl, ?_⟩⟩
        exact ite_of (fun e => ⟨_, rfl, t1 e⟩) (fun e => t2 e)
      · rw [List.nil_append]
        refine ⟨by show 0 ≤ sizeLine; decide, ne_nil (pyAll_map py_pair _) (dpt _) ⟨_, rfl, ite_of (fun e4 => ?_) (fun e4 => ?_)⟩⟩
        · refine ⟨_, rfl, _, rfl, ⟨by decide, by decide⟩, _, rfl, cp, _, cat, ?_⟩
          refine ⟨rfl, rfl, ?_⟩
          refine ⟨_, rfl, _, rfl, _, rfl, R', ci, cj, rfl, by omega, hc1, hc2, ?_⟩
          refine ⟨_, rfl, ⟨by decide, by decide⟩, _, rfl, ⟨cp, by omega⟩, (by show (0 : Int) < 2; decide), ?_⟩
          rcases two_at (x := num / 3 / (((chordsL w' R' R'.length).map pairD).length : Int)) (a := rowW ((R'.take (cj + 1)).drop ci)) (b := rowW (R'.drop cj ++ R'.take (ci + 1))) with e | e
          · exact ⟨_, e, q _ (.inr (chord_disc g B Dc hc1 hc2 hc3).1)⟩
          · exact ⟨_, e, q _ (.inr (chord_disc g B Dc hc1 hc2 hc3).2)⟩
        · have nc : ∀ i, i < R'.length - 1 → R'.getD (R'.length - 1) 0 ∉ withinL w' R' i := fun i hi hm => by
            have hm2 := chords_all (w := w') (R := R') (i := i) (j := R'.length - 1) hi (by omega) hm
            have hm3 : (i, R'.length - 1) ∈ (chordsL w' R' R'.length).filter (fun t => decide ((t.2 : Int) = ((R'.map natD).length : Int) - 1)) := List.mem_filter.mpr ⟨hm2, decide_eq_true elast.symm⟩
            cases hf : (chordsL w' R' R'.length).filter (fun t => decide ((t.2 : Int) = ((R'.map natD).length : Int) - 1)) with
            | nil => rw [hf] at hm3; cases hm3
            | cons x l => rw [hf] at e4; simp at e4
          refine ⟨_, rfl, _, rfl, _, rfl, _, rfl, w', R', R'.length - 1, by rw [elast]; rfl, g, h14, Ti, by omega, ?_⟩
          refine ⟨szB, ?_⟩
          have := q _ (less_disc g Dc nc)
          rw [← eB] at this
          exact this
  · have nc : ∀ i, i < R'.length - 1 → R'.getD (R'.length - 1) 0 ∉ withinL w' R' i := fun i hi hm => by
      have hm2 := chords_all (w := w') (R := R') (i := i) (j := R'.length - 1) hi (by omega) hm
      cases hf : chordsL w' R' R'.length with
      | nil => rw [hf] at hm2; cases hm2
      | cons x l => rw [hf] at e; simp at e
    refine ⟨_, rfl, _, rfl, _, rfl, _, rfl, w', R', R'.length - 1, by rw [elast]; rfl, g, h14, Ti, by omega, ?_⟩
    refine ⟨szB, ?_⟩
    have := q _ (less_disc g Dc nc)
    rw [← eB] at this
    exact this
end K33

set_option Elab.async false
set_option linter.all false
set_option maxRecDepth 100000
set_option maxHeartbeats 4000000
namespace K33
open PySem L2 Wb
theorem cnt_le {w : W} (g : Good w) (A : Nat × Nat → Prop) : cnt w A ≤ w.length * w.length := by
  unfold cnt
  exact Nat.le_trans (List.length_filter_le _ _) (darts_len g)
def spRings : DSp := fun ds P => ∃ (w : W) (R : List Nat) (num : Int), ds = [webW w, rowW R, .int num] ∧ Good w ∧ Bnd w ∧ w.length ≤ 14 ∧ (∃ A, Disc w R A) ∧ ∀ Rs : List (List Nat), (∀ R ∈ Rs, ∃ A, Disc w R A) → Rs.length ≤ 300 → P (.lst (Rs.map rowW))
theorem ok__law_rings {P : Program} {w : World} {mg : Str → Option Value} {base : Heap} {Z : DC} (T : Txt Z mg) : FnOk P w Z.K mg base CX0 4 T.d__law_rings.f T.d__law_rings.fd ["_law_turns", "_law_ring", "_law_number"] (liftSp Z spRings) := by
  have g__law_lesser := ok__law_lesser (P := P) (w := w) (base := base) T
  have nd := sc__law_rings.nd
  refine fn_data T.d__law_rings.F sc__law_rings [0, 0, 0, 1, 0] (by decide) (fun ds R h => by obtain ⟨_, _, _, rfl, _⟩ := h; rfl) (fun cdv A outer s H E ds R hr h => ?_)
  have hu := hr.units
  refine ⟨_, (dss_cons (ds_new 3 nd (df_lst da_nil))
      (dss_cons (ds_while PassesOwn.never (dt_cmp od_gt (de_callB cd_len rfl T.B.len bd_len (da_cons (de_var 1) da_nil)) de_int (nomark _)) (dss_cons (ds_app false 3 (de_var 1))
      (dss_cons (ds_set false 1 nd (de_call g__law_lesser (hr.mono (by decide)) rfl T.d__law_lesser.m T.d__law_lesser.F.kp T.d__law_lesser.b (da_cons (de_var 0) (da_cons (de_var 1) (da_cons (de_op od_mod (de_var 2) de_int) da_nil)))))
      (dss_cons (ds_set false 2 nd (de_op od_div (de_var 2) de_int))
      (dss_one (ds_if (dt_cmp od_gt (de_callB cd_len rfl T.B.len bd_len (da_cons (de_var 1) da_nil)) de_int (nomark _)) (dss_cons (ds_set false 4 nd (de_op od_mod (de_var 2) (de_callB cd_len rfl T.B.len bd_len (da_cons (de_var 1) da_nil))))
      (dss_cons (ds_set false 2 nd (de_op od_div (de_var 2) (de_callB cd_len rfl T.B.len bd_len (da_cons (de_var 1) da_nil))))
      (dss_one (ds_set false 1 nd (de_op od_add (de_slice (de_var 1) (do_some (de_var 4)) do_none) (de_slice (de_var 1) do_none (do_some (de_var 4)))))))) dss_nil))))))
      (dss_one (ds_ret (de_var 3))))), ?_⟩
  obtain ⟨w', R', num, rfl, g, B, h14, ⟨A0, D0⟩, q⟩ := h
  have c0 := cnt_le g A0
  have c1 : w'.length * w'.length ≤ 14 * 14 := Nat.mul_le_mul h14 h14
  refine ⟨by show 0 ≤ sizeLine; decide, ?_⟩
  refine while_inv (fun m ρ => ∃ (R : List Nat) (num : Int) (Rs : List (List Nat)) (o4 : Option D), ρ = [some (webW w'), some (rowW R), some (.int num), some (.lst (Rs.map rowW)), o4] ∧ (R.length = 2 ∨ ∃ A, Disc w' R A ∧ cnt w' A < m) ∧ (∀ R ∈ Rs, ∃ A, Disc w' R A) ∧ Rs.length + m ≤ 200) (cnt w' A0 + 1) ⟨R', num, [], _, rfl, .inr ⟨A0, D0, by omega⟩, (fun R h => nomatch h), (by show 0 + (cnt w' A0 + 1) ≤ 200; omega)⟩ ?_
  rintro m _ ⟨R, num, Rs, o4, rfl, hd, hRs, hm⟩
  have lR : (R.map natD).length = R.length := List.length_map _
  have lS : (Rs.map rowW).length = Rs.length := List.length_map _
  refine ⟨_, rfl, ?_⟩
  dsimp only [dNil, bLen]
  refine ⟨_, rfl, ite_of (fun e => ?_) (fun e => ?_)⟩
  · have e2 : 2 < R.length := by have := of_decide_eq_true e; omega
    obtain ⟨A, Dc, hc⟩ := hd.resolve_left (by omega)
    refine ⟨_, rfl, _, rfl, trivial, small1000 (by rw [lS]; omega), ?_⟩
    refine ⟨_, rfl, _, rfl, _, rfl, (by show (0 : Int) < 90; decide), w', R, _, rfl, g, B, h14, A, Dc, fun R2 h2 => ⟨trivial, ?_⟩⟩
    refine ⟨_, rfl, ⟨by decide, by decide⟩, trivial, ?_⟩
    have eS : (.lst (Rs.map rowW ++ [rowW R]) : D) = .lst ((Rs ++ [R]).map rowW) := by rw [List.map_append]; rfl
    have hRs2 : ∀ R' ∈ Rs ++ [R], ∃ A, Disc w' R' A := fun R' h' => by
      rcases List.mem_append.mp h' with h' | h'
      · exact hRs R' h'
      · rw [List.mem_singleton.mp h']; exact ⟨A, Dc⟩
    have lR2 : (R2.map natD).length = R2.length := List.length_map _
    refine nx_as [some (webW w'), some (rowW R2), some (.int (num / 90)), some (.lst (Rs.map rowW ++ [rowW R])), o4] rfl ?_
    rw [eS]
    refine ⟨_, rfl, ?_⟩
    dsimp only [dNil, bLen]
    refine ⟨_, rfl, ite_of (fun e => ?_) (fun e => ?_)⟩
    · have e3 : 2 < R2.length := by have := of_decide_eq_true e; omega
      obtain ⟨A', Dc', hc'⟩ := h2.resolve_left (by omega)
      have r14 := (Dc'.tied g).rsz g
      have e1 : (0 : Int) < ((R2.map natD).length : Int) := by rw [lR2]; omega
      refine ⟨_, rfl, _, rfl, e1, trivial, ?_⟩
      refine ⟨_, rfl, _, rfl, ⟨e1, by rw [lR2]; omega⟩, trivial, ?_⟩
      have m1 := modOk (num / 90) ((R2.map natD).length : Int) e1
      refine nx_as [some (webW w'), some (rowW R2), some (.int (num / 90 / ((R2.map natD).length : Int))), some (.lst ((Rs ++ [R]).map rowW)), some (.int (num / 90 % ((R2.map natD).length : Int)))] rfl ?_
      generalize num / 90 % ((R2.map natD).length : Int) = at_ at m1
      obtain ⟨a, rfl⟩ : ∃ a : Nat, at_ = (a : Int) := ⟨at_.toNat, by omega⟩
      rw [lR2] at m1
      have ca : cutD (R2.map natD) (some (a : Int)) none = (R2.drop a).map natD := by rw [cutD_drop _ _ (by rw [lR2]; omega), List.map_drop]
      have cb : cutD (R2.map natD) none (some (a : Int)) = (R2.take a).map natD := by rw [cutD_take _ _ (by rw [lR2]; omega), List.map_take]
      have l2 : (R2.drop a ++ R2.take a).length = R2.length := by rw [List.length_append, List.length_drop, List.length_take]; omega
      have sz1 : (cutD (R2.map natD) (some (a : Int)) none).length + (cutD (R2.map natD) none (some (a : Int))).length ≤ sizeLine := by
        rw [ca, cb, List.length_map, List.length_map]
        exact small (by rw [List.length_append] at l2; omega)
      have er : (.lst (cutD (R2.map natD) (some (a : Int)) none ++ cutD (R2.map natD) none (some (a : Int))) : D) = rowW (R2.drop a ++ R2.take a) := by rw [ca, cb]; unfold rowW; rw [List.map_append]
      refine ⟨_, rfl, _, rfl, _, rfl, _, rfl, sz1, trivial, ?_⟩
      refine ⟨m - 1, by omega, R2.drop a ++ R2.take a, num / 90 / ((R2.map natD).length : Int), Rs ++ [R], some (.int (a : Int)), ?_, .inr ⟨A', ?_, by omega⟩, hRs2, by rw [List.length_append]; simp; omega⟩
      · rw [← er]; rfl
      · have := Dc'
        rw [← List.take_append_drop a R2] at this
        exact this.rot
    · refine ⟨m - 1, by omega, R2, num / 90, Rs ++ [R], o4, rfl, ?_, hRs2, by rw [List.length_append]; simp; omega⟩
      rcases h2 with h2 | ⟨A', Dc', hc'⟩
      · exact .inl h2
      · exact .inr ⟨A', Dc', by omega⟩
  · exact ⟨_, rfl, q Rs hRs (by omega)⟩
def spPoints : DSp := fun ds P => ∃ (l : List Nat), ds = [rowW l, rowW l] ∧ l.length ≤ 100 ∧ P (.bl true)
end K33

set_option Elab.async false
set_option linter.all false
set_option maxRecDepth 100000
set_option maxHeartbeats 4000000
namespace L2
open PySem PySem.Spec PyProof.Rows
/-! ### a slice as a new list; a new list told: the asker's own -/
section
variable {Z : DC} {X : Cx} {md : List Nat} {rn : Nat} {e : Expr} {pos p2 : Pos} {te : DTE} {t : DTF} {lo hi : Option Expr} {tl th : DTO}
def fSl (te : DTE) (tl th : DTO) : DTF := fun ρ P => te ρ fun x => tl ρ fun lo => th ρ fun hi => match x with
  | .lst l => P (cutD l lo hi)
  | _ => False
theorem df_slice (he : DE Z X e te) (hl : DO Z X lo tl) (hu : DO Z X hi th) : DF Z X 1 (.Subscript e (.Slice lo hi none p2) pos) (fSl te tl th) := by
  refine (pe_slice sl_list he hl hu).imp ?_
  rintro σ H Q ⟨G, ρ, P, s, en, h, q⟩
  refine ⟨G, ρ, _, s, en, h, fun d hd v G1 H1 x1 dv => ?_⟩
  refine ⟨G1, ρ, _, x1.sub, en.mono x1.gg, hd, fun l hl G2 H2 x2 => ?_⟩
  refine ⟨G2, ρ, _, x2.sub, (en.mono x1.gg).mono x2.gg, hl, fun u hu G3 H3 x3 => ?_⟩
  have x := (x1.trans x2).trans x3
  have dv := (dv.mono x2.gg).mono x3.gg
  cases dv <;> first | exact hu.elim | skip
  rename_i h e
  refine ⟨_, _, rfl, SqL.of (x3.sub _ _ h), fun p hn => ?_⟩
  obtain ⟨o1, o2, o3⟩ := own_new x hn (cut_dv e l u)
  exact q _ hu _ _ _ _ (x.side hn) o1 o2 o3
def dRetF (t : DTF) : DTS := fun E ρ => t ρ fun ds => E.rt (.lst ds)
theorem ds_retF (he : DF Z X rn e t) : DSt Z X md rn (.Return (some e) pos) (dRetF t) := (ps_ret he).imp fun D σ H ⟨B, ρ, E, ⟨G, fp, S⟩, h, M⟩ => by
  let F : Addr → Prop := fun b => ∃ i, b ∈ fp i
  have s := S.ex.sub
  have x0 : Ext B.G₀ B.H₀ (plus G H F) H := ⟨S.ex.gg.trans (plus_sup s), plus_sub s, S.ex.hh, fun b hb hg => by
    rw [plus_out (fun ⟨i, hi⟩ => hb (S.nw i b hi).1)]; exact S.ex.off b hb hg⟩
  refine ⟨plus G H F, ρ, _, plus_sub s, ⟨S.len, fun i d h => ?_⟩, h, fun ds hd v f G' H' x o nd nw => M.rt _ hd v f G' H' (x0.trans x) o nd fun b hb => ⟨S.ex.hh.free (nw b hb).1, (nw b hb).2⟩⟩
  obtain ⟨v, hv, o⟩ := S.at_ i d h
  exact ⟨v, hv, o.dv (plus_sup s) fun b hb u e => by rw [plus_in ⟨i, hb⟩]; exact e⟩
end
end L2

set_option Elab.async false
set_option linter.all false
set_option maxRecDepth 100000
set_option maxHeartbeats 4000000
namespace K33
open PySem L2 Wb
theorem py_row (r : List Nat) : (rowW r).py = some (rowD r) := by
  unfold rowW rowD
  rw [D.py, pyAll_map (g := nD) (fun n => rfl)]; rfl
theorem py_web (w : W) : (webW w).py = some (webD w) := by
  unfold webW webD
  rw [D.py, pyAll_map (g := rowD) py_row]; rfl
theorem dEq_web {v w : W} {P : D → Prop} (h : P (.bl (decide (v = w)))) : dEq (webW v) (webW w) P := by
  refine ⟨_, _, py_web v, py_web w, by have := depth_webD v; omega, ?_⟩
  have : PyData.eqv (webD v) (webD w) = decide (v = w) := by
    by_cases e : v = w
    · rw [decide_eq_true e]; exact (eqv_webD v w).mpr e
    · rw [decide_eq_false e]
      apply Bool.eq_false_iff.mpr
      exact fun z => e ((eqv_webD v w).mp z)
  rw [if_neg Bool.false_ne_true, this]; exact h
theorem eqv_row (a b : List Nat) : PyData.eqv (rowD a) (rowD b) = decide (a = b) := by
  by_cases e : a = b
  · rw [decide_eq_true e]; exact (eqv_rowD a b).mpr e
  · rw [decide_eq_false e]
    apply Bool.eq_false_iff.mpr
    exact fun z => e ((eqv_rowD a b).mp z)
theorem dEq_row {v w : List Nat} {P : D → Prop} (h : P (.bl (decide (v = w)))) : dEq (rowW v) (rowW w) P := by
  refine ⟨_, _, py_row v, py_row w, by have := depth_rowD v; omega, ?_⟩
  rw [if_neg Bool.false_ne_true, eqv_row]; exact h
theorem dNe_row {v w : List Nat} {P : D → Prop} (h : P (.bl (!decide (v = w)))) : dNe (rowW v) (rowW w) P := by
  refine ⟨_, _, py_row v, py_row w, by have := depth_rowD v; omega, ?_⟩
  rw [if_pos rfl, eqv_row]; exact h
theorem ok__law_points {P : Program} {w : World} {mg : Str → Option Value} {base : Heap} {Z : DC} (T : Txt Z mg) : FnOk P w Z.K mg base CX0 1 T.d__law_points.f T.d__law_points.fd ["_law_found", "_law_due"] (liftSp Z spPoints) := by
  have nd := sc__law_points.nd
  refine fn_data T.d__law_points.F sc__law_points [0, 0] (by decide) (fun ds R h => by obtain ⟨_, rfl, _⟩ := h; rfl) (fun cdv A outer s H E ds R hr h => ?_)
  have hu := hr.units
  refine ⟨_, (dss_cons (ds_if (DW.dt (dw_or (dt_not (dt_tru (de_isI "list" (de_var 0) rfl T.B.isinstance rfl T.B.list bd_list))) (dw_or1 (dt_cmp (od_ne hu) (de_var 0) (de_var 1) (nomark _))))) (dss_one (ds_ret de_bl)) dss_nil)
      (dss_one (ds_ret (de_callB (cd_all rfl) rfl T.B.all bd_all (da_cons (de_lc (NC := ["_law_point"]) (src := [none]) rfl (CompOk.of (defScope s__law_points) rfl rfl (by decide +kernel) (by decide +kernel) (by decide +kernel)) trivial (di_list (de_var 0)) (fun _ _ _ => (dg_name 0 (show (["_law_point"] : List Str).Nodup from by decide +kernel))) (fun _ _ _ => dts_nil) (fun _ _ _ => (de_and (de_isI "int" (de_var 0) rfl T.B.isinstance rfl T.B.int bd_int) (de_one (de_not (de_isI "bool" (de_var 0) rfl T.B.isinstance rfl T.B.bool bd_bool)))))) da_nil))))), ?_⟩
  obtain ⟨l, rfl, h1, q⟩ := h
  refine ⟨_, rfl, rfl, rfl, iteF ⟨_, rfl, _, rfl, dNe_row ⟨_, rfl, iteN (by rw [decide_eq_true rfl]; rfl) ?_⟩⟩⟩
  refine ⟨_, rfl, lc_all (ρ := [none]) natD (fun _ => .bl true) l _ (fun y hy Y h => ⟨_, rfl, rfl, true, rfl, iteT ⟨_, rfl, rfl, false, rfl, h⟩⟩) rfl (small (by omega)) fun ρ' => ?_⟩
  refine ⟨l.map fun _ => true, by rw [List.map_map]; rfl, ?_⟩
  have : (l.map fun _ => true).all id = true := by simp
  rw [this]
  exact q
def spBegun : DSp := fun ds P => ∃ (l : List Nat) (x : Nat), ds = [rowW l, natD x] ∧ l.length ≤ 100 ∧ x ∈ l ∧ P (rowW (rotA l x))
theorem ok_begun_at {P : Program} {w : World} {mg : Str → Option Value} {base : Heap} {Z : DC} (T : Txt Z mg) : FnOk P w Z.K mg base CX0 1 T.d_begun_at.f T.d_begun_at.fd ["ring", "p"] (liftSp Z spBegun) := by
  have nd := sc_begun_at.nd
  refine fn_data T.d_begun_at.F sc_begun_at [0, 0, 0] (by decide) (fun ds R h => by obtain ⟨_, _, rfl, _⟩ := h; rfl) (fun cdv A outer s H E ds R hr h => ?_)
  have hu := hr.units
  refine ⟨_, (dss_cons (ds_set false 2 nd (de_index (de_var 0) (de_var 1)))
      (dss_one (ds_ret (de_op od_add (de_slice (de_var 0) (do_some (de_var 2)) do_none) (de_slice (de_var 0) do_none (do_some (de_var 2))))))), ?_⟩
  obtain ⟨l, x, rfl, h1, hx, q⟩ := h
  have ll : (l.map natD).length = l.length := List.length_map _
  have il := List.idxOf_lt_length_iff.mpr hx
  refine ⟨_, rfl, _, rfl, _, rfl, rfl, flat_nat _, _, _, (index_facts hx).1, (index_facts hx).2.1, (index_facts hx).2.2, trivial, ?_⟩
  have ca : cutD (l.map natD) (some ((l.idxOf x : Nat) : Int)) none = (l.drop (l.idxOf x)).map natD := by rw [cutD_drop _ _ (by rw [ll]; omega), List.map_drop]
  have cb : cutD (l.map natD) none (some ((l.idxOf x : Nat) : Int)) = (l.take (l.idxOf x)).map natD := by rw [cutD_take _ _ (by rw [ll]; omega), List.map_take]
  have sz1 : (cutD (l.map natD) (some ((l.idxOf x : Nat) : Int)) none).length + (cutD (l.map natD) none (some ((l.idxOf x : Nat) : Int))).length ≤ sizeLine := by
    rw [ca, cb, List.length_map, List.length_map, List.length_drop, List.length_take]
    exact small (by omega)
  have er : (.lst (cutD (l.map natD) (some ((l.idxOf x : Nat) : Int)) none ++ cutD (l.map natD) none (some ((l.idxOf x : Nat) : Int))) : D) = rowW (rotA l x) := by rw [ca, cb]; unfold rowW rotA; rw [List.map_append]
  rw [← er] at q
  exact ⟨_, rfl, _, rfl, _, rfl, _, rfl, sz1, q⟩
def spWithinAt : DSp := fun ds P => ∃ (w : W) (R : List Nat) (i : Nat), ds = [.web w, rowW R, natD i] ∧ Good w ∧ w.length ≤ 14 ∧ Tied w R ∧ i < R.length ∧ P (rowW (withinL w R i))
theorem okF_within_at {P : Program} {w : World} {mg : Str → Option Value} {base : Heap} {Z : DC} (T : Txt Z mg) : FnOk P w Z.K mg base CX0 2 T.d_within_at.f T.d_within_at.fd ["web", "ring", "i"] (liftSpF Z 1 spWithinAt) := by
  have g_Web_turns := ok_Web_turns (P := P) (w := w) (base := base) T
  have g_begun_at := ok_begun_at (P := P) (w := w) (base := base) T
  have nd := sc_within_at.nd
  refine fn_dataF 1 T.d_within_at.F sc_within_at [0, 0, 0, 0] (by decide) (fun ds R h => by obtain ⟨_, _, _, rfl, _⟩ := h; rfl) (fun cdv A outer s H E ds R hr h => ?_)
  have hu := hr.units
  refine ⟨_, (dss_cons (ds_set false 3 nd (de_call g_begun_at (hr.mono (by decide)) rfl T.d_begun_at.m T.d_begun_at.F.kp T.d_begun_at.b (da_cons (de_ix (de_meth0 T.W (de_var 0) T.m_turns.m g_Web_turns (hr.mono (by decide)) T.m_turns.b) (de_ix (de_var 1) (de_var 2))) (da_cons (de_ix (de_var 1) (de_op od_mod (de_op od_add (de_var 2) de_int) (de_callB cd_len rfl T.B.len bd_len (da_cons (de_var 1) da_nil)))) da_nil))))
      (dss_one (ds_retF (df_slice (de_var 3) (do_some de_int) (do_some (de_index (de_var 3) (de_ix (de_var 1) (de_op od_sub (de_var 2) de_int)))))))), ?_⟩
  obtain ⟨w', R', i, rfl, g, h14, Ti, hi, q⟩ := h
  have lR : (R'.map natD).length = R'.length := List.length_map _
  have h3 := Ti.len
  have e0 : (0 : Int) < ((R'.map natD).length : Int) := by rw [lR]; omega
  have vlt := Ti.lt g (getD_memL hi)
  have rl := row_len g (R'.getD i 0)
  have nm := Ti.next hi
  refine ⟨_, rfl, w', rfl, w', rfl, h14, _, rfl, _, rfl, _, nat_atI hi, _, row_atI vlt, _, rfl, _, rfl, _, rfl, e0, _, next_atI hi, row w' (R'.getD i 0), R'.getD ((i + 1) % R'.length) 0, rfl, by omega, nm, trivial, ?_⟩
  have et := rotA_tail nm
  have pm := Ti.prev2 g hi
  have pm2 : R'.getD (prevI R' i) 0 ∈ rotA (row w' (R'.getD i 0)) (R'.getD ((i + 1) % R'.length) 0) := by rw [et]; exact List.mem_cons_of_mem _ pm
  refine ⟨_, rfl, _, rfl, _, rfl, _, rfl, _, rfl, _, prev_atI hi, rfl, flat_nat _, _, _, (index_facts pm2).1, (index_facts pm2).2.1, (index_facts pm2).2.2, ?_⟩
  have eb : (R'.getD ((i + 1) % R'.length) 0 == R'.getD (prevI R' i) 0) = false := by
    rw [beq_eq_false_iff_ne]; exact (Ti.pn hi).symm
  have ei : (rotA (row w' (R'.getD i 0)) (R'.getD ((i + 1) % R'.length) 0)).idxOf (R'.getD (prevI R' i) 0) = (restL (row w' (R'.getD i 0)) (R'.getD ((i + 1) % R'.length) 0)).idxOf (R'.getD (prevI R' i) 0) + 1 := by
    rw [et, List.idxOf_cons, eb]; rfl
  have pl := List.idxOf_lt_length_iff.mpr pm
  have rll := restL_len nm
  have ef : (.lst (cutD ((rotA (row w' (R'.getD i 0)) (R'.getD ((i + 1) % R'.length) 0)).map natD) (some (1 : Int)) (some (((rotA (row w' (R'.getD i 0)) (R'.getD ((i + 1) % R'.length) 0)).idxOf (R'.getD (prevI R' i) 0) : Nat) : Int))) : D) = rowW (withinL w' R' i) := by
    have := cutD_mid (rotA (row w' (R'.getD i 0)) (R'.getD ((i + 1) % R'.length) 0)) 1 ((rotA (row w' (R'.getD i 0)) (R'.getD ((i + 1) % R'.length) 0)).idxOf (R'.getD (prevI R' i) 0)) (by omega) (by rw [rotA_len, ei]; omega)
    rw [cutD_map, show (some (1 : Int)) = some ((1 : Nat) : Int) from rfl, this, ei, et, List.take_succ_cons, within_rest]
    rfl
  rw [← ef] at q
  exact q
end K33



set_option Elab.async false
set_option linter.all false
set_option maxRecDepth 100000
set_option maxHeartbeats 4000000
namespace L2
open PySem PySem.Spec PyProof.Rows
/-! ### x[::-1] of a list -/
theorem pick_all {α : Type} : ∀ l : List α, (List.range l.length).filterMap (l[·]?) = l
  | [] => rfl
  | a :: l => by
    rw [List.length_cons, List.range_succ_eq_map, List.filterMap_cons]
    show a :: (((List.range l.length).map Nat.succ).filterMap ((a :: l)[·]?)) = a :: l
    rw [List.filterMap_map]
    exact congrArg (a :: ·) (pick_all l)
theorem filterMap_same {α β : Type} {f g : α → Option β} : ∀ {l : List α}, (∀ x ∈ l, f x = g x) → l.filterMap f = l.filterMap g
  | [], _ => rfl
  | a :: l, h => by
    rw [List.filterMap_cons, List.filterMap_cons, h a (List.mem_cons_self ..), filterMap_same fun x hx => h x (List.mem_cons_of_mem _ hx)]
theorem slicePick_rev (its : List Value) : slicePick its.toArray none none (some (-1)) = its.reverse.toArray := by
  unfold slicePick
  congr 1
  have e : sliceRange (sliceBounds none none (some (-1)) its.toArray.size).1 (sliceBounds none none (some (-1)) its.toArray.size).2.1 (sliceBounds none none (some (-1)) its.toArray.size).2.2 = (List.range its.length).map fun k => its.length - 1 - k := by
    rw [List.size_toArray]
    unfold sliceRange sliceBounds
    simp only [Option.getD_some]
    have c : ¬ ((-1 : Int) > 0) := by decide
    simp only [if_neg c]
    by_cases h : its.length = 0
    · rw [h]; rfl
    · rw [if_pos (by omega), show ((its.length : Int) - 1 - -1 - -1 - 1) / (- -1) = (its.length : Int) by rw [show (- -1 : Int) = 1 from rfl, Int.ediv_one]; omega]
      rw [Int.toNat_natCast]
      apply List.map_congr_left
      intro k hk
      have := List.mem_range.mp hk
      omega
  rw [e, List.filterMap_map]
  have p := pick_all its.reverse
  rw [List.length_reverse] at p
  rw [← p]
  apply filterMap_same
  intro k hk
  have hk := List.mem_range.mp hk
  rw [List.getElem?_reverse hk]
  simp
section
variable {X : Cx} {e k : Expr} {te tk : TE} {pos p2 : Pos}
def tRevL (K : PySem.W.Frag) (te tk : TE) : TE := fun σ H Q => te σ H fun x H1 => tk σ H1 fun c H2 => c = .int (-1) ∧ ∃ a xs, x = .ref a ∧ SqL K H2 a xs ∧ ∀ p, H2 p = none → Q (.ref p) (upd H2 p (.lst xs.reverse))
theorem pe_revL (he : PE X e te) (hk : PE X k tk) : PE X (.Subscript e (.Slice none none (some k) p2) pos) (tRevL X.K te tk) := by
  intro pins s σ H Q I h
  refine Subscript_ (thn (he pins s σ H _ I h) fun v s1 ⟨x, H1, I1, r1, q1⟩ => ?_)
  refine wpAny_Slice ?_
  rw [evalPart_none]
  refine wpAny_pure ?_
  refine wpAny_pure ?_
  rw [evalPart_some]
  refine thn (hk pins s1 σ H1 _ I1 q1) fun vk s3 ⟨c, H3, I3, rk, q3⟩ => ?_
  obtain ⟨rfl, a, xs, rfl, hx, q⟩ := q3
  obtain ⟨t, rfl⟩ := rk
  have I4 : Inv X pins σ H3 { s3 with heap := s3.heap.push { cls := .type "slice", data := .fields #[.none, .none, .int (-1) t] } } := I3.kept (t' := s3.toks) fun b ob q => Heap.get?_push_of_some _ q
  cases r1
  obtain ⟨its, r, ht, hz⟩ := I4.list hx
  have hlen := r.length
  show wpAny (model X.prog X.w) X.A (subscriptTail e (.Slice none none (some k) p2) (.ref a) (.ref s3.heap.objs.size)) (EP X pins σ Q) X.xe { s3 with heap := s3.heap.push { cls := .type "slice", data := .fields #[.none, .none, .int (-1) t] } }
  refine tail_any (ops := [.ref a, .ref s3.heap.objs.size]) ht.isList.typeIs slot_list_getitem.lookup ?_ (by with_unfolding_all rfl)
  refine wpAny_getItem_list_slice ht.isList (Heap.IsSliceOf.new ..) .none .none (.int (-1) t) (by decide) ?_ (by rw [List.size_toArray] <;> omega)
  rw [slicePick_rev]
  refine ⟨.ref _, _, I4.laid (t' := s3.toks) (o := .lst xs.reverse) (fun b ob q => Heap.get?_push_of_some _ q) (Nat.le_refl _) ?_, rfl, q _ (I4.hok.fresh (Nat.le_refl _))⟩
  exact ⟨by rw [List.length_reverse]; exact hz, _, 0, r.reverse, Heap.get?_push_size _ rfl⟩
end
section
variable {Z : DC} {X : Cx} {md : List Nat} {rn : Nat} {e e2 k : Expr} {es : List Expr} {pos p2 apos cpos : Pos} {te tk tp : DTE} {t u : DTF}
def dRevL (te tk : DTE) : DTE := fun ρ P => te ρ fun x => ∃ l, x = .lst l ∧ tk ρ fun c => c = .int (-1) ∧ P (.lst l.reverse)
theorem dv_rev {G : Hp} : ∀ {vs : List V} {ds : List D}, DvAll Z G vs ds → DvAll Z G vs.reverse ds.reverse
  | _, _, .nil => .nil
  | _, _, .cons a as => by
    rw [List.reverse_cons, List.reverse_cons]
    exact (dv_rev as).append (.cons a .nil)
theorem de_revL (he : DE Z X e te) (hk : DE Z X k tk) (eK : X.K = Z.K := by rfl) : DE Z X (.Subscript e (.Slice none none (some k) p2) pos) (dRevL te tk) := by
  refine (pe_revL he hk).imp ?_
  rintro σ H Q ⟨G, ρ, P, s, en, h, q⟩
  refine ⟨G, ρ, _, s, en, h, ?_⟩
  rintro _ ⟨l, rfl, h⟩ v G1 H1 x1 dv
  refine ⟨G1, ρ, _, x1.sub, en.mono x1.gg, h, ?_⟩
  rintro _ ⟨rfl, hp⟩ v2 G2 H2 x2 dv2
  cases dv2
  obtain ⟨p1, xs1, rfl, h1, e1⟩ := dv.ofLst
  have e1' := e1.mono x2.gg
  exact ⟨rfl, p1, xs1, rfl, SqL.of (x2.hh _ _ (x1.sub _ _ h1)), fun p hn => q _ hp _ _ _ ((x1.trans x2).trans (.new x2.sub hn)) (.lst upd_same ((dv_rev e1').mono (same_new (x2.sub.free hn) _)))⟩
/-! ### a tuple of two new lists, told: the asker's own -/
def dRetT2 (t u : DTF) : DTS := fun E ρ => t ρ fun a => u ρ fun b => E.rt (.tup [.lst a, .lst b])
theorem ds_retT2 {x1} (ha : DF Z X 1 e t) (hb : DF Z X 1 e2 u) (hs : starEach [e, e2] X.env = (false, eval e X.env) :: starEach [e2] X.env := by rfl) (hs2 : starEach [e2] X.env = (false, eval e2 X.env) :: starEach [] X.env := by rfl) : DSt Z X md 2 (.Return (some (.Tuple [e, e2] x1 p2)) pos) (dRetT2 t u) := (ps_ret (pe_tup (pa_cons ha (pa_cons hb pa_nil hs2) hs))).imp fun D σ H ⟨B, ρ, E, ⟨G, fp, S⟩, h, M⟩ => by
  let F : Addr → Prop := fun b => ∃ i, b ∈ fp i
  have s := S.ex.sub
  have x0 : Ext B.G₀ B.H₀ (plus G H F) H := ⟨S.ex.gg.trans (plus_sup s), plus_sub s, S.ex.hh, fun b hb hg => by
    rw [plus_out (fun ⟨i, hi⟩ => hb (S.nw i b hi).1)]; exact S.ex.off b hb hg⟩
  have en : EnvD Z (plus G H F) σ ρ := ⟨S.len, fun i d h => by
    obtain ⟨v, hv, o⟩ := S.at_ i d h
    exact ⟨v, hv, o.dv (plus_sup s) fun b hb u e => by rw [plus_in ⟨i, hb⟩]; exact e⟩⟩
  refine ⟨plus G H F, ρ, _, plus_sub s, en, h, fun a ha v1 f1 G1 H1 x1 o1 nd1 nw1 => ?_⟩
  refine ⟨G1, ρ, _, x1.sub, en.mono x1.gg, ha, fun b hb v2 f2 G2 H2 x2 o2 nd2 nw2 => ?_⟩
  refine ⟨by show 2 ≤ sizeLine; decide, fun p hp => ?_⟩
  have x3 : Ext G2 H2 (upd G2 p (.tup [v1, v2])) (upd H2 p (.tup [v1, v2])) := .new x2.sub hp
  have k1 : ∀ c ∈ f1, upd H2 p (.tup [v1, v2]) c = H1 c := fun c hc => by
    cases e : H1 c with
    | none => exact absurd e (nw1 c hc).2.1
    | some o => exact x3.hh _ _ (x2.hh _ _ e)
  have k2 : ∀ c ∈ f2, upd H2 p (.tup [v1, v2]) c = H2 c := fun c hc => by
    cases e : H2 c with
    | none => exact absurd e (nw2 c hc).2.1
    | some o => exact x3.hh _ _ e
  refine M.rt _ hb _ (f1 ++ f2) _ _ (((x0.trans x1).trans x2).trans x3) (.inr ⟨by decide, p, [v1, v2], _, rfl, rfl, upd_same, ?_⟩) ?_ fun c hc => ?_
  · have := OwnL.cons (o1.keep (x2.gg.trans x3.gg) k1) (OwnL.cons (o2.keep x3.gg k2) (OwnL.nil (R := Own Z (upd G2 p (.tup [v1, v2])) (upd H2 p (.tup [v1, v2])) 1)))
    rw [List.append_nil] at this
    exact this
  · exact List.nodup_append.mpr ⟨nd1, nd2, fun a ha b hb z => (nw1 a ha).2.1 (by rw [z]; exact (nw2 b hb).1)⟩
  · rcases List.mem_append.mp hc with hc | hc
    · obtain ⟨q1, q2, q3⟩ := nw1 c hc
      exact ⟨x0.hh.free q1, by rw [k1 c hc]; exact q2, x3.off c (some_ne x2.hh q2) (x2.off c q2 q3)⟩
    · obtain ⟨q1, q2, q3⟩ := nw2 c hc
      exact ⟨x0.hh.free (x1.hh.free q1), by rw [k2 c hc]; exact q2, x3.off c q2 q3⟩
/-! ### x = f(..), what is told the asker's own, a tuple too -/
def dNewC (md : List Nat) (i : Nat) (sd : DSp) (t : DTA) : DTS := fun E ρ => t (pureN md ρ) fun as => sd as fun d => E.nx (ρ.set i (some d))
theorem ds_newC (i : Nat) {n : Nat} {x : Str} {pos' : Pos} {sd : DSp} {t : DTA} {k : Nat} {f : Addr} {fd : FuncData} {ps : List Str} {y : Str} {p : Pos} (hN : X.N.Nodup) (F : FnOk X.prog X.w X.K X.mg X.base CX0 k f fd ps (liftSpF Z n sd)) (hr : Room k X.A) (hg : Gl X y) (hmg : X.mg y = some (.ref f)) (hk : PySem.W.keepIn X.K (.ref f) = true) (hb : Binds X.K fd ps [])
    (ha : DA Z X (e :: es) t) (hdb : (y == ("__debug__" : Str)) = false := by decide) (he : starEach (e :: es) X.env = (false, eval e X.env) :: starEach es X.env := by rfl) (hpl : (backTo p2 (starEach es X.env)).any (·.1) = false := by rfl)
    (hm : md.getD i 0 = n := by rfl) (hi : X.N[i]? = some x := by rfl) (hx : Loc X.env.scope x := by first | exact Or.inl rfl | exact Or.inr rfl) (hs : swapsWith (.Call (.Name y p) (e :: es) [] p2) (some (.Name x pos')) pos.line X.env = pure false := by rfl)
    (hf : X.fn x = true ∨ X.env.scope.names.lookup x = some .local := by first | exact .inl rfl | exact .inr rfl | assumption) : DSt Z X md rn (.Assign [.Name x pos'] (.Call (.Name y p) (e :: es) [] p2) pos) (dNewC md i sd t) := by
  refine (ps_set hN hi hx (pe_call F hr hg hmg hk hb .nil pass0 ha hdb he hpl) hs hf).imp ?_
  rintro D σ H ⟨B, ρ, E, ⟨G, fp, S⟩, h, M⟩
  refine ⟨G, _, _, S.ex.sub, S.envP, h, fun ds hd vs G1 H1 x1 dvs => ?_⟩
  show liftSpF Z n sd (vs ++ []) H1 _ E0
  rw [List.append_nil]
  refine ⟨G1, ds, _, x1.sub, dvs, hd, fun d hd v f G2 H2 x2 o nd nw => ?_⟩
  have x := x1.trans x2
  have nw' : ∀ b ∈ f, H b = none ∧ H2 b ≠ none ∧ G2 b = none := fun b hb => ⟨x1.hh.free (nw b hb).1, (nw b hb).2⟩
  exact M.nx _ hd _ _ ⟨G2, _, (S.grow x).setO hm o nd (fun b hb => ⟨S.ex.hh.free (nw' b hb).1, (nw' b hb).2⟩) fun b hb j _ hj => (S.nw j b hj).2.1 (nw' b hb).1⟩
/-! ### x[p].append(e), x[p].clear(), x a tuple of owned lists -/
theorem SIx.twoT {B : Bs} {ρ : DN} {σ : St} {H G : Hp} {fp : Nat → List Addr} {i p : Nat} {dss : List D} {dp : D} (S : SIx Z B md ρ σ H G fp) (hm : md.getD i 0 = 2) (h : ρ[i]? = some (some (.tup dss))) (hp : dss[p]? = some dp) : ∃ T ys l xs ds, dp = .lst ds ∧ σ[i]? = some (some (.ref T)) ∧ H T = some (.tup ys) ∧ ys.length = dss.length ∧ ys[p]? = some (.ref l) ∧ H l = some (.lst xs) ∧ DvAll Z G xs ds ∧
    ∀ xs' ds', DvAll Z G xs' ds' → SIx Z B md (ρ.set i (some (.tup (dss.set p (.lst ds'))))) σ (upd H l (.lst xs')) G fp := by
  obtain ⟨v, hv, o⟩ := S.at_ i _ h
  rw [hm] at o
  obtain ⟨T, ys, rfl, hT, ol⟩ := o.tup
  obtain ⟨l, xs, ds, e1, e2, e3, e4, e5, e6⟩ := OwnL.at1 p ol (S.nd i) hp
  refine ⟨T, ys, l, xs, ds, e1, hv, S.ex.sub _ _ hT, ol.length, e2, e3, e4, fun xs' ds' dv' => S.mut hv e5 ?_⟩
  rw [hm]
  exact .inr ⟨by decide, T, ys, _, rfl, rfl, hT, e6 xs' ds' dv'⟩
def dApp2T (md : List Nat) (m : Bool) (i : Nat) (tp te : DTE) : DTS := fun E ρ => ∃ dss, ρ[i]? = some (some (.tup dss)) ∧ tp ρ fun pp => ∃ p j ds, pp = .int p ∧ ixN dss.length p = some j ∧ dss[j]? = some (.lst ds) ∧
  te (vis md m ρ) fun d => flatIf m d ∧ ds.length < sizeLine ∧ E.nx (ρ.set i (some (.tup (dss.set j (.lst (ds ++ [d]))))))
theorem ds_app2T (m : Bool) (i : Nat) {x : Str} {px ps : Pos} (hp : DE Z X k tp) (he : DE Z X e te) (hm : md.getD i 0 = 2 := by rfl) (hpx : PlainIx k := by exact fun _ _ => rfl) (hi : X.N[i]? = some x := by rfl) (hv : Vis X.env.scope x := by first | exact Or.inl rfl | exact Or.inr (Or.inl rfl) | exact Or.inr (Or.inr rfl)) (hd : (x == ("__debug__" : Str)) = false := by decide) (hcd : (x == ("__classdict__" : Str)) = false := by decide)
    (hbase : attributeBase (.Subscript (.Name x px) k ps) "append" X.env (eval (.Subscript (.Name x px) k ps) X.env) = eval (.Subscript (.Name x px) k ps) X.env := by rfl)
    (hfew : ((backTo cpos (starEach [e] X.env)).all (fun x => !x.1) && (backToKw cpos (keywordEach [] X.env)).all (fun x => x.1.isSome) && decide (([e] : List Expr).length + ([] : List Keyword).length + (if ([] : List Keyword).isEmpty then 0 else 1) < 30)) = true := by rfl)
    (hline : (apos.endLine == cpos.line) = true := by rfl) (hs : starEach [e] X.env = (false, eval e X.env) :: starEach [] X.env := by rfl) (hplain : (backTo cpos (starEach [] X.env)).any (·.1) = false := by rfl)
    (hsw : swapsWith (.Call (.Attribute (.Subscript (.Name x px) k ps) "append" apos) [e] [] cpos) none pos.line X.env = pure false := by rfl) :
    DSt Z X md rn (.Expr (.Call (.Attribute (.Subscript (.Name x px) k ps) "append" apos) [e] [] cpos) pos) (dApp2T md m i tp te) := by
  refine (ps_expr (pe_bm PySem.F.plainAttrs_list PySem.F.slot_list_append PySem.F.type_list_append mt_append (pe_ix ix_tup (pv i hi hv hd hcd) hp hpx) (pa_cons he pa_nil hs) hbase hfew hline hs hplain) hsw).imp ?_
  rintro D σ H ⟨B, ρ, E, ⟨G, fp, S⟩, ⟨dss, h1, h⟩, M⟩
  obtain ⟨v0, hv0, o⟩ := S.at_ i _ h1
  refine ⟨_, hv0, S.ev true h ?_⟩
  rintro _ ⟨p, j, ds, rfl, hj, hd, h⟩
  refine ⟨rfl, fun v1 G1 H1 S1 x1 dv1 => ?_⟩
  cases dv1
  obtain ⟨T, ys, l, xs, ds', e1, e2, e3, e4, e5, e6, dvs, _⟩ := S1.twoT hm h1 hd
  rw [e2] at hv0
  cases hv0
  refine ⟨T, ys, p, .ref l, rfl, rfl, SqT.of e3, atI_of e4 hj e5, ty_list e6, S1.ev m h fun d hd' => ⟨hd'.1, fun v G' H' S' x dv => ?_⟩⟩
  obtain ⟨T', ys', l', xs', ds2, e1', e2', e3', e4', e5', e6', dvs', put⟩ := S'.twoT hm h1 hd
  cases e1'
  rw [e2] at e2'
  cases e2'
  have : ys' = ys := by
    have := x.hh _ _ e3
    rw [e3'] at this; cases this; rfl
  rw [this, e5] at e5'
  cases e5'
  exact ⟨l, xs', v, rfl, rfl, e6', by rw [dvs'.length]; exact hd'.2.1, M.nx _ hd'.2.2 _ _ ⟨G', fp, put _ _ (dvs'.snoc dv)⟩⟩
def dClear2T (i : Nat) (tp : DTE) : DTS := fun E ρ => ∃ dss, ρ[i]? = some (some (.tup dss)) ∧ tp ρ fun pp => ∃ p j ds, pp = .int p ∧ ixN dss.length p = some j ∧ dss[j]? = some (.lst ds) ∧ E.nx (ρ.set i (some (.tup (dss.set j (.lst [])))))
theorem ds_clear2T (i : Nat) {x : Str} {px ps : Pos} (hp : DE Z X k tp) (hm : md.getD i 0 = 2 := by rfl) (hpx : PlainIx k := by exact fun _ _ => rfl)
    (hi : X.N[i]? = some x := by rfl) (hv : Vis X.env.scope x := by first | exact Or.inl rfl | exact Or.inr (Or.inl rfl) | exact Or.inr (Or.inr rfl)) (hd : (x == ("__debug__" : Str)) = false := by decide) (hcd : (x == ("__classdict__" : Str)) = false := by decide)
    (hbase : attributeBase (.Subscript (.Name x px) k ps) "clear" X.env (eval (.Subscript (.Name x px) k ps) X.env) = eval (.Subscript (.Name x px) k ps) X.env := by rfl) (hline : (apos.endLine == cpos.line) = true := by rfl)
    (hsw : swapsWith (.Call (.Attribute (.Subscript (.Name x px) k ps) "clear" apos) [] [] cpos) none pos.line X.env = pure false := by rfl) : DSt Z X md rn (.Expr (.Call (.Attribute (.Subscript (.Name x px) k ps) "clear" apos) [] [] cpos) pos) (dClear2T i tp) := by
  refine (ps_expr (pe_bm0 PySem.F.plainAttrs_list PySem.F.slot_list_clear PySem.F.type_list_clear mt_clear (pe_ix ix_tup (pv i hi hv hd hcd) hp hpx) hbase hline) hsw).imp ?_
  rintro D σ H ⟨B, ρ, E, ⟨G, fp, S⟩, ⟨dss, h1, h⟩, M⟩
  obtain ⟨v0, hv0, o⟩ := S.at_ i _ h1
  refine ⟨_, hv0, S.ev true h ?_⟩
  rintro _ ⟨p, j, ds, rfl, hj, hd, h⟩
  refine ⟨rfl, fun v1 G1 H1 S1 x1 dv1 => ?_⟩
  cases dv1
  obtain ⟨T, ys, l, xs, ds', e1, e2, e3, e4, e5, e6, dvs, put⟩ := S1.twoT hm h1 hd
  cases e1
  rw [e2] at hv0
  cases hv0
  exact ⟨T, ys, p, .ref l, rfl, rfl, SqT.of e3, atI_of e4 hj e5, ty_list e6, l, xs, rfl, rfl, e6, M.nx _ h _ _ ⟨G1, fp, put [] [] .nil⟩⟩
end
end L2

set_option Elab.async false
set_option linter.all false
set_option maxRecDepth 100000
set_option maxHeartbeats 4000000
namespace K33
open PySem L2 Wb
theorem neC {i j : Int} {P : D → Prop} {ρ : DN} (h : P (.bl (!decide (i = j)))) : dC (.int j) ρ (fun b => dNe (.int i) b P) := dNe_int h
def spParted : DSp := fun ds P => ∃ (R : List Nat) (i j : Nat), ds = [rowW R, natD i, natD j] ∧ R.length ≤ 14 ∧ i < j ∧ j < R.length ∧ P (.tup [rowW ((R.take (j + 1)).drop i), rowW (R.drop j ++ R.take (i + 1))])
theorem okF_parted {P : Program} {w : World} {mg : Str → Option Value} {base : Heap} {Z : DC} (T : Txt Z mg) : FnOk P w Z.K mg base CX0 1 T.d_parted.f T.d_parted.fd ["ring", "i", "j"] (liftSpF Z 2 spParted) := by
  have nd := sc_parted.nd
  refine fn_dataF 2 T.d_parted.F sc_parted [0, 0, 0] (by decide) (fun ds R h => by obtain ⟨_, _, _, rfl, _⟩ := h; rfl) (fun cdv A outer s H E ds R hr h => ?_)
  have hu := hr.units
  refine ⟨_, (dss_one (ds_retT2 (df_slice (de_var 0) (do_some (de_var 1)) (do_some (de_op od_add (de_var 2) de_int))) (df_add (de_slice (de_var 0) (do_some (de_var 2)) do_none) (de_slice (de_var 0) do_none (do_some (de_op od_add (de_var 1) de_int)))))), ?_⟩
  obtain ⟨R', i, j, rfl, h14, hij, hj, q⟩ := h
  have lR : (R'.map natD).length = R'.length := List.length_map _
  have c1 : cutD (R'.map natD) (some (i : Int)) (some ((j : Int) + 1)) = ((R'.take (j + 1)).drop i).map natD := by
    have := cutD_mid (R'.map natD) i (j + 1) (by omega) (by rw [lR]; omega)
    rw [List.map_drop, List.map_take]; exact this
  have c2 : cutD (R'.map natD) (some (j : Int)) none = (R'.drop j).map natD := by rw [cutD_drop _ _ (by rw [lR]; omega), List.map_drop]
  have c3 : cutD (R'.map natD) none (some ((i : Int) + 1)) = (R'.take (i + 1)).map natD := by
    have := cutD_take (R'.map natD) (i + 1) (by rw [lR]; omega)
    rw [List.map_take]; exact this
  have sz : (cutD (R'.map natD) (some (j : Int)) none).length + (cutD (R'.map natD) none (some ((i : Int) + 1))).length ≤ sizeLine := by
    rw [c2, c3, List.length_map, List.length_map, List.length_drop, List.length_take]; exact small (by omega)
  have e : (.tup [.lst (cutD (R'.map natD) (some (i : Int)) (some ((j : Int) + 1))), .lst (cutD (R'.map natD) (some (j : Int)) none ++ cutD (R'.map natD) none (some ((i : Int) + 1)))] : D) = .tup [rowW ((R'.take (j + 1)).drop i), rowW (R'.drop j ++ R'.take (i + 1))] := by
    rw [c1, c2, c3]
    unfold rowW
    rw [List.map_append]
  rw [← e] at q
  exact ⟨_, rfl, _, rfl, _, rfl, _, rfl, _, rfl, _, rfl, _, rfl, _, rfl, _, rfl, sz, q⟩
def lessL (w : W) (R : List Nat) : List Nat := R.dropLast ++ (withinL w R (R.length - 1)).reverse
theorem within_len {w : W} {R : List Nat} {i : Nat} (g : Good w) (h14 : w.length ≤ 14) (Ti : Tied w R) (hi : i < R.length) : (withinL w R i).length ≤ 14 := by
  rw [within_rest]
  have := restL_len (Ti.next (i := i) hi)
  have h2 := row_len g (R.getD i 0)
  rw [List.length_take]
  omega
theorem less_eq {w : W} {R : List Nat} (h : 0 < R.length) : (.lst (cutD (R.map natD) none (some (-1)) ++ ((withinL w R (R.length - 1)).map natD).reverse) : D) = rowW (lessL w R) := by
  rw [cutD_last _ (by rw [List.length_map]; exact h)]
  unfold rowW lessL
  rw [List.map_append, List.map_dropLast, List.map_reverse]
theorem less_sz {w : W} {R : List Nat} (g : Good w) (h14 : w.length ≤ 14) (Ti : Tied w R) : (cutD (R.map natD) none (some (-1))).length + ((withinL w R (R.length - 1)).map natD).reverse.length ≤ sizeLine := by
  have h3 := Ti.len
  have hR := Ti.rsz g
  have := within_len (i := R.length - 1) g h14 Ti (by omega)
  rw [cutD_last _ (by rw [List.length_map]; omega), List.length_dropLast, List.length_reverse, List.length_map, List.length_map]
  exact small (by omega)
theorem less_len {w : W} {R : List Nat} (g : Good w) (h14 : w.length ≤ 14) (Ti : Tied w R) : (lessL w R).length ≤ 28 := by
  have hR := Ti.rsz g
  have h3 := Ti.len
  have := within_len (i := R.length - 1) g h14 Ti (by omega)
  unfold lessL
  rw [List.length_append, List.length_dropLast, List.length_reverse]; omega
def spMadeLess : DSp := fun ds P => ∃ (w : W) (R : List Nat), ds = [.web w, rowW R] ∧ Good w ∧ w.length ≤ 14 ∧ Tied w R ∧ P (rowW (lessL w R))
theorem okF_made_less {P : Program} {w : World} {mg : Str → Option Value} {base : Heap} {Z : DC} (T : Txt Z mg) : FnOk P w Z.K mg base CX0 3 T.d_made_less.f T.d_made_less.fd ["web", "ring"] (liftSpF Z 1 spMadeLess) := by
  have g_within_at := (okF_within_at (P := P) (w := w) (base := base) T).imp spF
  have nd := sc_made_less.nd
  refine fn_dataF 1 T.d_made_less.F sc_made_less [0, 0] (by decide) (fun ds R h => by obtain ⟨_, _, rfl, _⟩ := h; rfl) (fun cdv A outer s H E ds R hr h => ?_)
  have hu := hr.units
  refine ⟨_, (dss_one (ds_retF (df_add (de_slice (de_var 1) do_none (do_some (de_neg de_int))) (de_revL (de_call g_within_at (hr.mono (by decide)) rfl T.d_within_at.m T.d_within_at.F.kp T.d_within_at.b (da_cons (de_var 0) (da_cons (de_var 1) (da_cons (de_op od_sub (de_callB cd_len rfl T.B.len bd_len (da_cons (de_var 1) da_nil)) de_int) da_nil)))) (de_neg de_int))))), ?_⟩
  obtain ⟨w', R', rfl, g, h14, Ti, q⟩ := h
  have lR : (R'.map natD).length = R'.length := List.length_map _
  have h3 := Ti.len
  have elast : ((R'.map natD).length : Int) - 1 = ((R'.length - 1 : Nat) : Int) := by rw [lR]; omega
  rw [← less_eq (by omega)] at q
  refine ⟨_, rfl, _, rfl, _, rfl, _, rfl, _, rfl, w', R', R'.length - 1, by show [_, _, D.int (((R'.map natD).length : Int) - 1)] = _; rw [elast]; rfl, g, h14, Ti, by omega, ?_⟩
  exact ⟨_, rfl, rfl, _, rfl, less_sz g h14 Ti, q⟩
theorem eq_two {a b : List Nat} {P : D → Prop} (h : P (.bl true)) : dEq (.tup [rowW a, rowW b]) (.tup [rowW a, rowW b]) P := by
  have py : (D.tup [rowW a, rowW b]).py = some (.tuple [rowD a, rowD b]) := by
    rw [D.py, pyAll, pyAll, pyAll, py_row, py_row]; rfl
  refine ⟨_, _, py, py, ?_, ?_⟩
  · have h1 := depth_rowD a
    have h2 := depth_rowD b
    simp only [PyData.depth, PyData.depthAll]; omega
  · rw [if_neg Bool.false_ne_true]
    have : PyData.eqv (.tuple [rowD a, rowD b]) (.tuple [rowD a, rowD b]) = true := by
      have h1 := eqv_row a a
      have h2 := eqv_row b b
      rw [decide_eq_true rfl] at h1 h2
      simp [PyData.eqv, PyData.eqvAll, h1, h2]
    rw [this]; exact h
def spPR : DSp := fun ds P => ∃ (R : List Nat) (i j : Nat), ds = [rowW R, natD i, natD j] ∧ R.length ≤ 14 ∧ i < j ∧ j < R.length ∧ P (.bl true)
theorem ok__law_parted_right {P : Program} {w : World} {mg : Str → Option Value} {base : Heap} {Z : DC} (T : Txt Z mg) : FnOk P w Z.K mg base CX0 2 T.d__law_parted_right.f T.d__law_parted_right.fd ["_law_ring", "_law_i", "_law_j"] (liftSp Z spPR) := by
  have gF_parted := okF_parted (P := P) (w := w) (base := base) T
  have g__law_halves := ok__law_halves (P := P) (w := w) (base := base) T
  have g__law_points := ok__law_points (P := P) (w := w) (base := base) T
  have g_parted := (okF_parted (P := P) (w := w) (base := base) T).imp spF
  have nd := sc__law_parted_right.nd
  refine fn_data T.d__law_parted_right.F sc__law_parted_right [0, 0, 0, 0, 0, 2] (by decide) (fun ds R h => by obtain ⟨_, _, _, rfl, _⟩ := h; rfl) (fun cdv A outer s H E ds R hr h => ?_)
  have hu := hr.units
  refine ⟨_, (dss_cons (ds_set false 3 nd (de_callTy cd_list rfl T.B.list bd_list (da_cons (de_var 0) da_nil)))
      (dss_cons (ds_set false 4 nd (de_call g__law_halves (hr.mono (by decide)) rfl T.d__law_halves.m T.d__law_halves.F.kp T.d__law_halves.b (da_cons (de_var 0) (da_cons (de_var 1) (da_cons (de_var 2) da_nil)))))
      (dss_cons (ds_newC 5 nd gF_parted (hr.mono (by decide)) rfl T.d_parted.m T.d_parted.F.kp T.d_parted.b (da_cons (de_var 3) (da_cons (de_var 1) (da_cons (de_var 2) da_nil))))
      (dss_cons (ds_if (DW.dt (dw_or (dt_not (dt_tru (de_isI "tuple" (de_var 5) rfl T.B.isinstance rfl T.B.tuple bd_tuple))) (dw_or1 (dt_cmp (od_ne hu) (de_callB cd_len rfl T.B.len bd_len (da_cons (de_var 5) da_nil)) de_int (nomark _))))) (dss_one (ds_ret de_bl)) dss_nil)
      (dss_cons (ds_if (DW.dt (dw_or (dt_not (dt_tru (de_call g__law_points (hr.mono (by decide)) rfl T.d__law_points.m T.d__law_points.F.kp T.d__law_points.b (da_cons (de_ix (de_var 5) de_int) (da_cons (de_ix (de_var 4) de_int) da_nil))))) (dw_or1 (dt_not (dt_tru (de_call g__law_points (hr.mono (by decide)) rfl T.d__law_points.m T.d__law_points.F.kp T.d__law_points.b (da_cons (de_ix (de_var 5) de_int) (da_cons (de_ix (de_var 4) de_int) da_nil)))))))) (dss_one (ds_ret de_bl)) dss_nil)
      (dss_cons (ds_app2T false 5 de_int de_int)
      (dss_cons (ds_clear2T 5 de_int)
      (dss_one (ds_ret (de_and (de_cmp (od_eq hu) (de_var 3) (de_var 0) (nomark _)) (de_one (de_cmp (od_eq hu) (de_call g_parted (hr.mono (by decide)) rfl T.d_parted.m T.d_parted.F.kp T.d_parted.b (da_cons (de_var 3) (da_cons (de_var 1) (da_cons (de_var 2) da_nil)))) (de_tup (da_cons (de_ix (de_var 4) de_int) (da_cons (de_ix (de_var 4) de_int) da_nil))) (nomark _))))))))))))), ?_⟩
  obtain ⟨R', i, j, rfl, h14, hij, hj, q⟩ := h
  refine ⟨_, rfl, trivial, ?_⟩
  refine ⟨_, rfl, _, rfl, _, rfl, R', i, j, rfl, h14, hij, hj, trivial, ?_⟩
  refine ⟨_, rfl, _, rfl, _, rfl, R', i, j, rfl, h14, hij, hj, ?_⟩
  generalize hA : (R'.take (j + 1)).drop i = A1
  generalize hB : R'.drop j ++ R'.take (i + 1) = B1
  have la : A1.length ≤ 14 := by rw [← hA, List.length_drop, List.length_take]; omega
  have lb : B1.length ≤ 28 := by rw [← hB, List.length_append, List.length_drop, List.length_take]; omega
  refine ⟨_, rfl, rfl, rfl, iteF ⟨_, rfl, ?_⟩⟩
  dsimp only [dNil, bLen]
  refine neC ⟨_, rfl, iteF ?_⟩
  refine ⟨_, rfl, _, rfl, _, rfl, _, rfl, A1, rfl, by omega, rfl, iteF ?_⟩
  refine ⟨_, rfl, _, rfl, _, rfl, _, rfl, B1, rfl, by omega, rfl, iteF ?_⟩
  refine ⟨_, rfl, _, _, _, rfl, rfl, rfl, trivial, small1000 (by rw [List.length_map]; omega), ?_⟩
  refine ⟨_, rfl, _, _, _, rfl, rfl, rfl, ?_⟩
  refine ⟨_, rfl, _, rfl, dEq_row ⟨true, congrArg D.bl (decide_eq_true rfl), iteT ?_⟩⟩
  refine ⟨_, rfl, _, rfl, _, rfl, R', i, j, rfl, h14, hij, hj, ?_⟩
  rw [hA, hB]
  exact ⟨_, rfl, _, rfl, _, rfl, _, rfl, by show 2 ≤ sizeLine; decide, eq_two q⟩
def spLR : DSp := fun ds P => ∃ (w : W) (R : List Nat), ds = [.web w, webW w, rowW R] ∧ Good w ∧ w.length ≤ 14 ∧ Tied w R ∧ P (.bl true)
theorem ok__law_less_right {P : Program} {w : World} {mg : Str → Option Value} {base : Heap} {Z : DC} (T : Txt Z mg) : FnOk P w Z.K mg base CX0 4 T.d__law_less_right.f T.d__law_less_right.fd ["_law_web_here", "_law_turns", "_law_ring"] (liftSp Z spLR) := by
  have gF_made_less := okF_made_less (P := P) (w := w) (base := base) T
  have g__law_points := ok__law_points (P := P) (w := w) (base := base) T
  have g__law_within := ok__law_within (P := P) (w := w) (base := base) T
  have g_made_less := (okF_made_less (P := P) (w := w) (base := base) T).imp spF
  have nd := sc__law_less_right.nd
  refine fn_data T.d__law_less_right.F sc__law_less_right [0, 0, 0, 0, 0, 0, 0, 1] (by decide) (fun ds R h => by obtain ⟨_, _, rfl, _⟩ := h; rfl) (fun cdv A outer s H E ds R hr h => ?_)
  have hu := hr.units
  refine ⟨_, (dss_cons (ds_set false 3 nd (de_op od_sub (de_callB cd_len rfl T.B.len bd_len (da_cons (de_var 2) da_nil)) de_int))
      (dss_cons (ds_set false 4 nd (de_call g__law_within (hr.mono (by decide)) rfl T.d__law_within.m T.d__law_within.F.kp T.d__law_within.b (da_cons (de_var 1) (da_cons (de_var 2) (da_cons (de_var 3) da_nil)))))
      (dss_cons (ds_if (dt_cmp (od_ne hu) (de_lc (NC := ["_law_point", "_law_ring"]) (src := [none, some 2]) rfl (CompOk.of (defScope s__law_less_right) rfl rfl (by decide +kernel) (by decide +kernel) (by decide +kernel)) ⟨rfl, rfl, trivial⟩ (di_list (de_var 4)) (fun _ _ _ => (dg_name 0 (show (["_law_point", "_law_ring"] : List Str).Nodup from by decide +kernel))) (fun _ _ _ => (dts_one (dt_cmp od_in (de_var 0) (de_var 1) (by with_unfolding_all rfl)))) (fun _ _ _ => (de_var 0))) (de_lst da_nil) (nomark _)) (dss_one (ds_ret de_bl)) dss_nil)
      (dss_cons (ds_set false 5 nd (de_callTy cd_list rfl T.B.list bd_list (da_cons (de_var 2) da_nil)))
      (dss_cons (ds_set false 6 nd (de_op od_add (de_slice (de_var 2) do_none (do_some (de_neg de_int))) (de_listrev rfl rfl T.B.list rfl T.B.reversed (da_cons (de_var 4) da_nil))))
      (dss_cons (ds_new 7 nd (df_call gF_made_less (hr.mono (by decide)) rfl T.d_made_less.m T.d_made_less.F.kp T.d_made_less.b (da_cons (de_var 0) (da_cons (de_var 5) da_nil))))
      (dss_cons (ds_if (dt_not (dt_tru (de_call g__law_points (hr.mono (by decide)) rfl T.d__law_points.m T.d__law_points.F.kp T.d__law_points.b (da_cons (de_var 7) (da_cons (de_var 6) da_nil))))) (dss_one (ds_ret de_bl)) dss_nil)
      (dss_cons (ds_app false 7 de_int)
      (dss_one (ds_ret (de_and (de_cmp (od_eq hu) (de_var 5) (de_var 2) (nomark _)) (de_one (de_cmp (od_eq hu) (de_call g_made_less (hr.mono (by decide)) rfl T.d_made_less.m T.d_made_less.F.kp T.d_made_less.b (da_cons (de_var 0) (da_cons (de_var 5) da_nil))) (de_var 6) (nomark _)))))))))))))), ?_⟩
  obtain ⟨w', R', rfl, g, h14, Ti, q⟩ := h
  have lR : (R'.map natD).length = R'.length := List.length_map _
  have h3 := Ti.len
  have hR := Ti.rsz g
  have elast : ((R'.map natD).length : Int) - 1 = ((R'.length - 1 : Nat) : Int) := by rw [lR]; omega
  have wl := within_len (i := R'.length - 1) g h14 Ti (by omega)
  refine ⟨_, rfl, trivial, ?_⟩
  refine nx_as [some (.web w'), some (webW w'), some (rowW R'), some (natD (R'.length - 1)), none, none, none, none] (by show [_, _, _, some (D.int (((R'.map natD).length : Int) - 1)), _, _, _, _] = _; rw [elast]; rfl) ?_
  refine ⟨_, rfl, _, rfl, _, rfl, w', R', R'.length - 1, rfl, g, h14, Ti, by omega, trivial, ?_⟩
  have dptN : ∀ l : List Nat, (PyData.list (l.map nD)).depth ≤ 64 := fun l => by have := depth_rowD l; unfold rowD at this; omega
  refine ⟨_, rfl, lc_name (ρ := [none, some (rowW R')]) natD (fun p => decide (p ∈ R')) natD (withinL w' R' (R'.length - 1)) _ [] _ (fun p hp Y Nn t1 t2 => ?_) ⟨none, rfl⟩ (by rw [List.length_nil, Nat.zero_add]; exact small (by omega)) fun ρ' => ?_⟩
  · refine ⟨_, rfl, _, rfl, rfl, flat_nat _, _, rfl, ?_⟩
    refine (?_ : if (if false = true then _ else inD (natD p) (R'.map natD)) = true then _ else _)
    rw [if_neg Bool.false_ne_true, inD_nat]
    exact ite_of (fun e => ⟨_, rfl, t1 e⟩) (fun e => t2 e)
  · rw [List.nil_append]
    refine ⟨by show 0 ≤ sizeLine; decide, ne_nil (pyAll_map (g := nD) (fun n => rfl) _) (dptN _) ⟨_, rfl, ite_of (fun e => q) (fun e => ?_)⟩⟩
    refine ⟨_, rfl, trivial, ?_⟩
    have szB := less_sz g h14 Ti
    refine ⟨_, rfl, _, rfl, szB, trivial, ?_⟩
    have eB := less_eq (w := w') (R := R') (by omega)
    refine nx_as [some (.web w'), some (webW w'), some (rowW R'), some (natD (R'.length - 1)), some (rowW (withinL w' R' (R'.length - 1))), some (rowW R'), some (rowW (lessL w' R')), none] (by rw [← eB]; rfl) ?_
    have ll := less_len g h14 Ti
    refine ⟨_, rfl, _, rfl, w', R', rfl, g, h14, Ti, _, rfl, ?_⟩
    refine ⟨_, rfl, _, rfl, lessL w' R', rfl, by omega, rfl, iteF ?_⟩
    refine ⟨_, rfl, trivial, small1000 (by rw [List.length_map]; omega), ?_⟩
    refine ⟨_, rfl, _, rfl, dEq_row ⟨true, congrArg D.bl (decide_eq_true rfl), iteT ?_⟩⟩
    refine ⟨_, rfl, _, rfl, w', R', rfl, g, h14, Ti, _, rfl, dEq_row ?_⟩
    rw [decide_eq_true rfl]
    exact q
end K33

set_option Elab.async false
set_option linter.all false
set_option maxRecDepth 100000
set_option maxHeartbeats 4000000
namespace K33
open PySem L2 Wb
theorem ok_law {P : Program} {w : World} {mg : Str → Option Value} {base : Heap} {Z : DC} (T : Txt Z mg) : FnOk P w Z.K mg base CX0 7 T.d_law.f T.d_law.fd ["_law_script"] (liftSp Z spLawD) := by
  have g_Web_turns := ok_Web_turns (P := P) (w := w) (base := base) T
  have g__law_built := ok__law_built (P := P) (w := w) (base := base) T
  have g__law_cell_at := ok__law_cell_at (P := P) (w := w) (base := base) T
  have g__law_chords := ok__law_chords (P := P) (w := w) (base := base) T
  have g__law_drawn := ok__law_drawn (P := P) (w := w) (base := base) T
  have g__law_less_right := ok__law_less_right (P := P) (w := w) (base := base) T
  have g__law_parted_right := ok__law_parted_right (P := P) (w := w) (base := base) T
  have g__law_rings := ok__law_rings (P := P) (w := w) (base := base) T
  have g__law_web := ok__law_web (P := P) (w := w) (base := base) T
  have nd := sc_law.nd
  refine fn_data T.d_law.F sc_law [0, 0, 0, 0, 0, 0, 0, 0] (by decide) (fun ds R h => by obtain ⟨_, rfl, _⟩ := h; rfl) (fun cdv A outer s H E ds R hr h => ?_)
  have hu := hr.units
  refine ⟨_, (dss_cons (ds_asg (de_call g__law_built (hr.mono (by decide)) rfl T.d__law_built.m T.d__law_built.F.kp T.d__law_built.b (da_cons (de_var 0) da_nil)) (dt_tup 2 rfl (dts_cons (dt_name 1 nd) (dts_cons (dt_name 2 nd) dts_nil'))))
      (dss_cons (ds_set false 3 nd (de_call g__law_web (hr.mono (by decide)) rfl T.d__law_web.m T.d__law_web.F.kp T.d__law_web.b (da_cons (de_var 1) da_nil)))
      (dss_cons (ds_for rfl PassesOwn.never (di_list (de_call g__law_rings (hr.mono (by decide)) rfl T.d__law_rings.m T.d__law_rings.F.kp T.d__law_rings.b (da_cons (de_var 1) (da_cons (de_var 2) (da_cons (de_call g__law_drawn (hr.mono (by decide)) rfl T.d__law_drawn.m T.d__law_drawn.F.kp T.d__law_drawn.b (da_cons (de_call g__law_cell_at (hr.mono (by decide)) rfl T.d__law_cell_at.m T.d__law_cell_at.F.kp T.d__law_cell_at.b (da_cons (de_var 0) (da_cons de_int da_nil))) da_nil)) da_nil))))) (dt_name 4 nd) (dss_cons (ds_for rfl PassesOwn.never (di_list (de_call g__law_chords (hr.mono (by decide)) rfl T.d__law_chords.m T.d__law_chords.F.kp T.d__law_chords.b (da_cons (de_var 1) (da_cons (de_var 4) da_nil)))) (dt_tup 2 rfl (dts_cons (dt_name 5 nd) (dts_cons (dt_name 6 nd) dts_nil'))) (dss_one (ds_if (dt_not (dt_tru (de_call g__law_parted_right (hr.mono (by decide)) rfl T.d__law_parted_right.m T.d__law_parted_right.F.kp T.d__law_parted_right.b (da_cons (de_var 4) (da_cons (de_var 5) (da_cons (de_var 6) da_nil)))))) (dss_one (ds_ret de_bl)) dss_nil)))
      (dss_one (ds_forR rfl PassesOwn.never (dr_range1 rfl T.B.range (da_cons (de_callB cd_len rfl T.B.len bd_len (da_cons (de_var 4) da_nil)) da_nil)) (dt_name 7 nd) (dss_one (ds_if (dt_not (dt_tru (de_call g__law_less_right (hr.mono (by decide)) rfl T.d__law_less_right.m T.d__law_less_right.F.kp T.d__law_less_right.b (da_cons (de_var 3) (da_cons (de_var 1) (da_cons (de_op od_add (de_slice (de_var 4) (do_some (de_var 7)) do_none) (de_slice (de_var 4) do_none (do_some (de_var 7)))) da_nil)))))) (dss_one (ds_ret de_bl)) dss_nil))))))
      (dss_one (ds_ret (de_cmp (od_eq hu) (de_meth0 T.W (de_var 3) T.m_turns.m g_Web_turns (hr.mono (by decide)) T.m_turns.b) (de_var 1) (nomark _))))))), ?_⟩
  obtain ⟨ns, rfl, hns, q⟩ := h
  refine ⟨_, rfl, ns, rfl, fun F R' g B h3 h14 Fl => ?_⟩
  have Ti := Disc.tied Fl g
  refine ⟨rfl, rfl, ?_⟩
  refine ⟨_, rfl, F, rfl, g, by omega, h14, trivial, ?_⟩
  refine ⟨_, rfl, _, rfl, _, rfl, ns, 2, rfl, fun v1 => ⟨v1, rfl, fun v2 => ⟨F, R', v2, rfl, g, B, h14, ⟨_, Fl⟩, fun Rs hRs hl => ?_⟩⟩⟩
  refine for_inv (fun j ρ => ∃ o4 o5 o6 o7, ρ = [some (.scr ns), some (webW F), some (rowW R'), some (.web F), o4, o5, o6, o7]) ⟨none, none, none, none, rfl⟩ ?_ ?_
  · rintro j d _ hd ⟨o4, o5, o6, o7, rfl⟩ A hA
    obtain ⟨R1, hR1, rfl⟩ := map_get hd
    obtain ⟨A1, D1⟩ := hRs R1 (List.mem_of_getElem? hR1)
    have T1 := D1.tied g
    have r14 := T1.rsz g
    have lR : (R1.map natD).length = R1.length := List.length_map _
    refine ⟨_, rfl, _, rfl, F, R1, rfl, g, h14, T1, ?_⟩
    refine for_inv (fun j ρ => ∃ o5 o6 o7, ρ = [some (.scr ns), some (webW F), some (rowW R'), some (.web F), some (rowW R1), o5, o6, o7]) ⟨o5, o6, o7, rfl⟩ ?_ ?_
    · rintro j d _ hd ⟨o5, o6, o7, rfl⟩ A hA
      obtain ⟨⟨ci, cj⟩, hc, rfl⟩ := map_get hd
      obtain ⟨hc1, hc2, hc3⟩ := chords_mem (List.mem_of_getElem? hc)
      refine ⟨rfl, rfl, ?_⟩
      exact ⟨_, rfl, _, rfl, _, rfl, R1, ci, cj, rfl, by omega, hc1, hc2, rfl, iteF (hA _ ⟨some (natD ci), some (natD cj), o7, rfl⟩)⟩
    · rintro _ ⟨o5, o6, o7, rfl⟩
      refine ⟨_, rfl, ⟨by omega, by show ((R1.map natD).length : Int) < 2 ^ 62; omega⟩, ?_⟩
      rw [show (((R1.map natD).length : Int)).toNat = R1.length by omega]
      refine for_rng0 (fun i ρ => ∃ o7, ρ = [some (.scr ns), some (webW F), some (rowW R'), some (.web F), some (rowW R1), o5, o6, o7]) ⟨o7, rfl⟩ ?_ ?_
      · rintro a _ ha ⟨o7, rfl⟩ A hA
        have ca : cutD (R1.map natD) (some (a : Int)) none = (R1.drop a).map natD := by rw [cutD_drop _ _ (by rw [lR]; omega), List.map_drop]
        have cb : cutD (R1.map natD) none (some (a : Int)) = (R1.take a).map natD := by rw [cutD_take _ _ (by rw [lR]; omega), List.map_take]
        have sz1 : (cutD (R1.map natD) (some (a : Int)) none).length + (cutD (R1.map natD) none (some (a : Int))).length ≤ sizeLine := by
          rw [ca, cb, List.length_map, List.length_map, List.length_drop, List.length_take]
          exact small (by omega)
        have er : (.lst (cutD (R1.map natD) (some (a : Int)) none ++ cutD (R1.map natD) none (some (a : Int))) : D) = rowW (R1.drop a ++ R1.take a) := by rw [ca, cb]; unfold rowW; rw [List.map_append]
        have D2 := D1
        rw [← List.take_append_drop a R1] at D2
        have T2 := D2.rot.tied g
        refine ⟨_, rfl, _, rfl, _, rfl, _, rfl, _, rfl, _, rfl, sz1, F, R1.drop a ++ R1.take a, by rw [← er], g, h14, T2, rfl, iteF (hA _ ⟨some (natD a), rfl⟩)⟩
      · rintro _ ⟨o7, rfl⟩
        exact hA _ ⟨_, _, _, _, rfl⟩
  · rintro _ ⟨o4, o5, o6, o7, rfl⟩
    refine ⟨_, rfl, F, rfl, F, rfl, h14, _, rfl, dEq_web ?_⟩
    rw [decide_eq_true rfl]
    exact q
theorem all_mk {l : PySem.W.OpenLaw} {w : World} {K : PySem.W.Frag} {h : Heap} {mg : Str → Option Value} {fa C : Addr} {tk1 : Tok} (X : K.In h) (G : h.Ns mainGlobals mg) (hfa : mg "law" = some (.ref fa))
    {d0 : Addr} {od0 an0 : Option Addr} {sl0 : Array (Option Value)} {oc0 kV0 dc0 pm0 cd0 ct0 : Value}
    {d1 : Addr} {od1 an1 : Option Addr} {sl1 : Array (Option Value)} {oc1 kV1 dc1 pm1 cd1 ct1 : Value}
    {d2 : Addr} {od2 an2 : Option Addr} {sl2 : Array (Option Value)} {oc2 kV2 dc2 pm2 cd2 ct2 : Value}
    {d3 : Addr} {od3 an3 : Option Addr} {sl3 : Array (Option Value)} {oc3 kV3 dc3 pm3 cd3 ct3 : Value}
    {d4 : Addr} {od4 an4 : Option Addr} {sl4 : Array (Option Value)} {oc4 kV4 dc4 pm4 cd4 ct4 : Value}
    {d5 : Addr} {od5 an5 : Option Addr} {sl5 : Array (Option Value)} {oc5 kV5 dc5 pm5 cd5 ct5 : Value}
    {d6 : Addr} {od6 an6 : Option Addr} {sl6 : Array (Option Value)} {oc6 kV6 dc6 pm6 cd6 ct6 : Value}
    {d7 : Addr} {od7 an7 : Option Addr} {sl7 : Array (Option Value)} {oc7 kV7 dc7 pm7 cd7 ct7 : Value}
    {d8 : Addr} {od8 an8 : Option Addr} {sl8 : Array (Option Value)} {oc8 kV8 dc8 pm8 cd8 ct8 : Value}
    {d9 : Addr} {od9 an9 : Option Addr} {sl9 : Array (Option Value)} {oc9 kV9 dc9 pm9 cd9 ct9 : Value}
    {d10 : Addr} {od10 an10 : Option Addr} {sl10 : Array (Option Value)} {oc10 kV10 dc10 pm10 cd10 ct10 : Value}
    {d11 : Addr} {od11 an11 : Option Addr} {sl11 : Array (Option Value)} {oc11 kV11 dc11 pm11 cd11 ct11 : Value}
    {d12 : Addr} {od12 an12 : Option Addr} {sl12 : Array (Option Value)} {oc12 kV12 dc12 pm12 cd12 ct12 : Value}
    {d13 : Addr} {od13 an13 : Option Addr} {sl13 : Array (Option Value)} {oc13 kV13 dc13 pm13 cd13 ct13 : Value}
    {d14 : Addr} {od14 an14 : Option Addr} {sl14 : Array (Option Value)} {oc14 kV14 dc14 pm14 cd14 ct14 : Value}
    {d15 : Addr} {od15 an15 : Option Addr} {sl15 : Array (Option Value)} {oc15 kV15 dc15 pm15 cd15 ct15 : Value}
    {d16 : Addr} {od16 an16 : Option Addr} {sl16 : Array (Option Value)} {oc16 kV16 dc16 pm16 cd16 ct16 : Value}
    {d17 : Addr} {od17 an17 : Option Addr} {sl17 : Array (Option Value)} {oc17 kV17 dc17 pm17 cd17 ct17 : Value}
    {d18 : Addr} {od18 an18 : Option Addr} {sl18 : Array (Option Value)} {oc18 kV18 dc18 pm18 cd18 ct18 : Value}
    {d19 : Addr} {od19 an19 : Option Addr} {sl19 : Array (Option Value)} {oc19 kV19 dc19 pm19 cd19 ct19 : Value}
    {d20 : Addr} {od20 an20 : Option Addr} {sl20 : Array (Option Value)} {oc20 kV20 dc20 pm20 cd20 ct20 : Value}
    {d21 : Addr} {od21 an21 : Option Addr} {sl21 : Array (Option Value)} {oc21 kV21 dc21 pm21 cd21 ct21 : Value}
    {d22 : Addr} {od22 an22 : Option Addr} {sl22 : Array (Option Value)} {oc22 kV22 dc22 pm22 cd22 ct22 : Value}
    {d23 : Addr} {od23 an23 : Option Addr} {sl23 : Array (Option Value)} {oc23 kV23 dc23 pm23 cd23 ct23 : Value}
    {d24 : Addr} {od24 an24 : Option Addr} {sl24 : Array (Option Value)} {oc24 kV24 dc24 pm24 cd24 ct24 : Value}
    {d25 : Addr} {od25 an25 : Option Addr} {sl25 : Array (Option Value)} {oc25 kV25 dc25 pm25 cd25 ct25 : Value}
    {d26 : Addr} {od26 an26 : Option Addr} {sl26 : Array (Option Value)} {oc26 kV26 dc26 pm26 cd26 ct26 : Value}
    {i0 : Addr} {jd0 jn0 : Option Addr} {js0 : Array (Option Value)} {jc0 jk0 jo0 jp0 jq0 jt0 : Value}
    {i1 : Addr} {jd1 jn1 : Option Addr} {js1 : Array (Option Value)} {jc1 jk1 jo1 jp1 jq1 jt1 : Value}
    {i2 : Addr} {jd2 jn2 : Option Addr} {js2 : Array (Option Value)} {jc2 jk2 jo2 jp2 jq2 jt2 : Value}
    {i3 : Addr} {jd3 jn3 : Option Addr} {js3 : Array (Option Value)} {jc3 jk3 jo3 jp3 jq3 jt3 : Value}
    {i4 : Addr} {jd4 jn4 : Option Addr} {js4 : Array (Option Value)} {jc4 jk4 jo4 jp4 jq4 jt4 : Value}
    {i5 : Addr} {jd5 jn5 : Option Addr} {js5 : Array (Option Value)} {jc5 jk5 jo5 jp5 jq5 jt5 : Value}
    (gC : PySem.W.nsIn K mainGlobals "Web" = some (some (.ref C)))
    (a0 : PySem.W.nsIn K mainGlobals "is_among" = some (some (.ref d0)))
    (l0 : K.lookup d0 = some ⟨oc0, od0, .func (PySem.W.fnOf "is_among" "is_among" (defArgs s_is_among) (defBody s_is_among) (defScope s_is_among) .none kV0 dc0 pm0 an0 cd0 ct0), sl0⟩)
    (c0 : PySem.W.codeIn K cd0 "is_among" = true)
    (k0 : PySem.W.keepIn K (.ref d0) = true)
    (a1 : PySem.W.nsIn K mainGlobals "alien_fault" = some (some (.ref d1)))
    (l1 : K.lookup d1 = some ⟨oc1, od1, .func (PySem.W.fnOf "alien_fault" "alien_fault" (defArgs s_alien_fault) (defBody s_alien_fault) (defScope s_alien_fault) .none kV1 dc1 pm1 an1 cd1 ct1), sl1⟩)
    (c1 : PySem.W.codeIn K cd1 "alien_fault" = true)
    (k1 : PySem.W.keepIn K (.ref d1) = true)
    (a2 : PySem.W.nsIn K mainGlobals "self_fault" = some (some (.ref d2)))
    (l2 : K.lookup d2 = some ⟨oc2, od2, .func (PySem.W.fnOf "self_fault" "self_fault" (defArgs s_self_fault) (defBody s_self_fault) (defScope s_self_fault) .none kV2 dc2 pm2 an2 cd2 ct2), sl2⟩)
    (c2 : PySem.W.codeIn K cd2 "self_fault" = true)
    (k2 : PySem.W.keepIn K (.ref d2) = true)
    (a3 : PySem.W.nsIn K mainGlobals "twice_fault" = some (some (.ref d3)))
    (l3 : K.lookup d3 = some ⟨oc3, od3, .func (PySem.W.fnOf "twice_fault" "twice_fault" (defArgs s_twice_fault) (defBody s_twice_fault) (defScope s_twice_fault) .none kV3 dc3 pm3 an3 cd3 ct3), sl3⟩)
    (c3 : PySem.W.codeIn K cd3 "twice_fault" = true)
    (k3 : PySem.W.keepIn K (.ref d3) = true)
    (a4 : PySem.W.nsIn K mainGlobals "lone_fault" = some (some (.ref d4)))
    (l4 : K.lookup d4 = some ⟨oc4, od4, .func (PySem.W.fnOf "lone_fault" "lone_fault" (defArgs s_lone_fault) (defBody s_lone_fault) (defScope s_lone_fault) .none kV4 dc4 pm4 an4 cd4 ct4), sl4⟩)
    (c4 : PySem.W.codeIn K cd4 "lone_fault" = true)
    (k4 : PySem.W.keepIn K (.ref d4) = true)
    (a5 : PySem.W.nsIn K mainGlobals "reached_from_first" = some (some (.ref d5)))
    (l5 : K.lookup d5 = some ⟨oc5, od5, .func (PySem.W.fnOf "reached_from_first" "reached_from_first" (defArgs s_reached_from_first) (defBody s_reached_from_first) (defScope s_reached_from_first) .none kV5 dc5 pm5 an5 cd5 ct5), sl5⟩)
    (c5 : PySem.W.codeIn K cd5 "reached_from_first" = true)
    (k5 : PySem.W.keepIn K (.ref d5) = true)
    (a6 : PySem.W.nsIn K mainGlobals "apart_fault" = some (some (.ref d6)))
    (l6 : K.lookup d6 = some ⟨oc6, od6, .func (PySem.W.fnOf "apart_fault" "apart_fault" (defArgs s_apart_fault) (defBody s_apart_fault) (defScope s_apart_fault) .none kV6 dc6 pm6 an6 cd6 ct6), sl6⟩)
    (c6 : PySem.W.codeIn K cd6 "apart_fault" = true)
    (k6 : PySem.W.keepIn K (.ref d6) = true)
    (a7 : PySem.W.nsIn K mainGlobals "first_fault" = some (some (.ref d7)))
    (l7 : K.lookup d7 = some ⟨oc7, od7, .func (PySem.W.fnOf "first_fault" "first_fault" (defArgs s_first_fault) (defBody s_first_fault) (defScope s_first_fault) .none kV7 dc7 pm7 an7 cd7 ct7), sl7⟩)
    (c7 : PySem.W.codeIn K cd7 "first_fault" = true)
    (k7 : PySem.W.keepIn K (.ref d7) = true)
    (a8 : PySem.W.nsIn K mainGlobals "begun_at" = some (some (.ref d8)))
    (l8 : K.lookup d8 = some ⟨oc8, od8, .func (PySem.W.fnOf "begun_at" "begun_at" (defArgs s_begun_at) (defBody s_begun_at) (defScope s_begun_at) .none kV8 dc8 pm8 an8 cd8 ct8), sl8⟩)
    (c8 : PySem.W.codeIn K cd8 "begun_at" = true)
    (k8 : PySem.W.keepIn K (.ref d8) = true)
    (a9 : PySem.W.nsIn K mainGlobals "within_at" = some (some (.ref d9)))
    (l9 : K.lookup d9 = some ⟨oc9, od9, .func (PySem.W.fnOf "within_at" "within_at" (defArgs s_within_at) (defBody s_within_at) (defScope s_within_at) .none kV9 dc9 pm9 an9 cd9 ct9), sl9⟩)
    (c9 : PySem.W.codeIn K cd9 "within_at" = true)
    (k9 : PySem.W.keepIn K (.ref d9) = true)
    (a10 : PySem.W.nsIn K mainGlobals "parted" = some (some (.ref d10)))
    (l10 : K.lookup d10 = some ⟨oc10, od10, .func (PySem.W.fnOf "parted" "parted" (defArgs s_parted) (defBody s_parted) (defScope s_parted) .none kV10 dc10 pm10 an10 cd10 ct10), sl10⟩)
    (c10 : PySem.W.codeIn K cd10 "parted" = true)
    (k10 : PySem.W.keepIn K (.ref d10) = true)
    (a11 : PySem.W.nsIn K mainGlobals "made_less" = some (some (.ref d11)))
    (l11 : K.lookup d11 = some ⟨oc11, od11, .func (PySem.W.fnOf "made_less" "made_less" (defArgs s_made_less) (defBody s_made_less) (defScope s_made_less) .none kV11 dc11 pm11 an11 cd11 ct11), sl11⟩)
    (c11 : PySem.W.codeIn K cd11 "made_less" = true)
    (k11 : PySem.W.keepIn K (.ref d11) = true)
    (a12 : PySem.W.nsIn K mainGlobals "_law_cell_at" = some (some (.ref d12)))
    (l12 : K.lookup d12 = some ⟨oc12, od12, .func (PySem.W.fnOf "_law_cell_at" "_law_cell_at" (defArgs s__law_cell_at) (defBody s__law_cell_at) (defScope s__law_cell_at) .none kV12 dc12 pm12 an12 cd12 ct12), sl12⟩)
    (c12 : PySem.W.codeIn K cd12 "_law_cell_at" = true)
    (k12 : PySem.W.keepIn K (.ref d12) = true)
    (a13 : PySem.W.nsIn K mainGlobals "_law_drawn" = some (some (.ref d13)))
    (l13 : K.lookup d13 = some ⟨oc13, od13, .func (PySem.W.fnOf "_law_drawn" "_law_drawn" (defArgs s__law_drawn) (defBody s__law_drawn) (defScope s__law_drawn) .none kV13 dc13 pm13 an13 cd13 ct13), sl13⟩)
    (c13 : PySem.W.codeIn K cd13 "_law_drawn" = true)
    (k13 : PySem.W.keepIn K (.ref d13) = true)
    (a14 : PySem.W.nsIn K mainGlobals "_law_grown" = some (some (.ref d14)))
    (l14 : K.lookup d14 = some ⟨oc14, od14, .func (PySem.W.fnOf "_law_grown" "_law_grown" (defArgs s__law_grown) (defBody s__law_grown) (defScope s__law_grown) .none kV14 dc14 pm14 an14 cd14 ct14), sl14⟩)
    (c14 : PySem.W.codeIn K cd14 "_law_grown" = true)
    (k14 : PySem.W.keepIn K (.ref d14) = true)
    (a15 : PySem.W.nsIn K mainGlobals "_law_named" = some (some (.ref d15)))
    (l15 : K.lookup d15 = some ⟨oc15, od15, .func (PySem.W.fnOf "_law_named" "_law_named" (defArgs s__law_named) (defBody s__law_named) (defScope s__law_named) .none kV15 dc15 pm15 an15 cd15 ct15), sl15⟩)
    (c15 : PySem.W.codeIn K cd15 "_law_named" = true)
    (k15 : PySem.W.keepIn K (.ref d15) = true)
    (a16 : PySem.W.nsIn K mainGlobals "_law_built" = some (some (.ref d16)))
    (l16 : K.lookup d16 = some ⟨oc16, od16, .func (PySem.W.fnOf "_law_built" "_law_built" (defArgs s__law_built) (defBody s__law_built) (defScope s__law_built) .none kV16 dc16 pm16 an16 cd16 ct16), sl16⟩)
    (c16 : PySem.W.codeIn K cd16 "_law_built" = true)
    (k16 : PySem.W.keepIn K (.ref d16) = true)
    (a17 : PySem.W.nsIn K mainGlobals "_law_web" = some (some (.ref d17)))
    (l17 : K.lookup d17 = some ⟨oc17, od17, .func (PySem.W.fnOf "_law_web" "_law_web" (defArgs s__law_web) (defBody s__law_web) (defScope s__law_web) .none kV17 dc17 pm17 an17 cd17 ct17), sl17⟩)
    (c17 : PySem.W.codeIn K cd17 "_law_web" = true)
    (k17 : PySem.W.keepIn K (.ref d17) = true)
    (a18 : PySem.W.nsIn K mainGlobals "_law_within" = some (some (.ref d18)))
    (l18 : K.lookup d18 = some ⟨oc18, od18, .func (PySem.W.fnOf "_law_within" "_law_within" (defArgs s__law_within) (defBody s__law_within) (defScope s__law_within) .none kV18 dc18 pm18 an18 cd18 ct18), sl18⟩)
    (c18 : PySem.W.codeIn K cd18 "_law_within" = true)
    (k18 : PySem.W.keepIn K (.ref d18) = true)
    (a19 : PySem.W.nsIn K mainGlobals "_law_chords" = some (some (.ref d19)))
    (l19 : K.lookup d19 = some ⟨oc19, od19, .func (PySem.W.fnOf "_law_chords" "_law_chords" (defArgs s__law_chords) (defBody s__law_chords) (defScope s__law_chords) .none kV19 dc19 pm19 an19 cd19 ct19), sl19⟩)
    (c19 : PySem.W.codeIn K cd19 "_law_chords" = true)
    (k19 : PySem.W.keepIn K (.ref d19) = true)
    (a20 : PySem.W.nsIn K mainGlobals "_law_halves" = some (some (.ref d20)))
    (l20 : K.lookup d20 = some ⟨oc20, od20, .func (PySem.W.fnOf "_law_halves" "_law_halves" (defArgs s__law_halves) (defBody s__law_halves) (defScope s__law_halves) .none kV20 dc20 pm20 an20 cd20 ct20), sl20⟩)
    (c20 : PySem.W.codeIn K cd20 "_law_halves" = true)
    (k20 : PySem.W.keepIn K (.ref d20) = true)
    (a21 : PySem.W.nsIn K mainGlobals "_law_lesser" = some (some (.ref d21)))
    (l21 : K.lookup d21 = some ⟨oc21, od21, .func (PySem.W.fnOf "_law_lesser" "_law_lesser" (defArgs s__law_lesser) (defBody s__law_lesser) (defScope s__law_lesser) .none kV21 dc21 pm21 an21 cd21 ct21), sl21⟩)
    (c21 : PySem.W.codeIn K cd21 "_law_lesser" = true)
    (k21 : PySem.W.keepIn K (.ref d21) = true)
    (a22 : PySem.W.nsIn K mainGlobals "_law_rings" = some (some (.ref d22)))
    (l22 : K.lookup d22 = some ⟨oc22, od22, .func (PySem.W.fnOf "_law_rings" "_law_rings" (defArgs s__law_rings) (defBody s__law_rings) (defScope s__law_rings) .none kV22 dc22 pm22 an22 cd22 ct22), sl22⟩)
    (c22 : PySem.W.codeIn K cd22 "_law_rings" = true)
    (k22 : PySem.W.keepIn K (.ref d22) = true)
    (a23 : PySem.W.nsIn K mainGlobals "_law_points" = some (some (.ref d23)))
    (l23 : K.lookup d23 = some ⟨oc23, od23, .func (PySem.W.fnOf "_law_points" "_law_points" (defArgs s__law_points) (defBody s__law_points) (defScope s__law_points) .none kV23 dc23 pm23 an23 cd23 ct23), sl23⟩)
    (c23 : PySem.W.codeIn K cd23 "_law_points" = true)
    (k23 : PySem.W.keepIn K (.ref d23) = true)
    (a24 : PySem.W.nsIn K mainGlobals "_law_parted_right" = some (some (.ref d24)))
    (l24 : K.lookup d24 = some ⟨oc24, od24, .func (PySem.W.fnOf "_law_parted_right" "_law_parted_right" (defArgs s__law_parted_right) (defBody s__law_parted_right) (defScope s__law_parted_right) .none kV24 dc24 pm24 an24 cd24 ct24), sl24⟩)
    (c24 : PySem.W.codeIn K cd24 "_law_parted_right" = true)
    (k24 : PySem.W.keepIn K (.ref d24) = true)
    (a25 : PySem.W.nsIn K mainGlobals "_law_less_right" = some (some (.ref d25)))
    (l25 : K.lookup d25 = some ⟨oc25, od25, .func (PySem.W.fnOf "_law_less_right" "_law_less_right" (defArgs s__law_less_right) (defBody s__law_less_right) (defScope s__law_less_right) .none kV25 dc25 pm25 an25 cd25 ct25), sl25⟩)
    (c25 : PySem.W.codeIn K cd25 "_law_less_right" = true)
    (k25 : PySem.W.keepIn K (.ref d25) = true)
    (a26 : PySem.W.nsIn K mainGlobals "law" = some (some (.ref d26)))
    (l26 : K.lookup d26 = some ⟨oc26, od26, .func (PySem.W.fnOf "law" "law" (defArgs s_law) (defBody s_law) (defScope s_law) .none kV26 dc26 pm26 an26 cd26 ct26), sl26⟩)
    (c26 : PySem.W.codeIn K cd26 "law" = true)
    (k26 : PySem.W.keepIn K (.ref d26) = true)
    (m0 : PySem.W.findIn K (.ref C) "__init__" = some (some (.ref i0)))
    (f0 : PySem.W.isFn K (.ref i0) = true)
    (ml0 : K.lookup i0 = some ⟨jc0, jd0, .func (PySem.W.fnOf "__init__" "Web.__init__" (defArgs s_Web___init__) (defBody s_Web___init__) (defScope s_Web___init__) .none jk0 jo0 jp0 jn0 jq0 jt0), js0⟩)
    (mc0 : PySem.W.codeIn K jq0 "Web.__init__" = true)
    (mk0 : PySem.W.keepIn K (.ref i0) = true)
    (m1 : PySem.W.findIn K (.ref C) "many" = some (some (.ref i1)))
    (f1 : PySem.W.isFn K (.ref i1) = true)
    (ml1 : K.lookup i1 = some ⟨jc1, jd1, .func (PySem.W.fnOf "many" "Web.many" (defArgs s_Web_many) (defBody s_Web_many) (defScope s_Web_many) .none jk1 jo1 jp1 jn1 jq1 jt1), js1⟩)
    (mc1 : PySem.W.codeIn K jq1 "Web.many" = true)
    (mk1 : PySem.W.keepIn K (.ref i1) = true)
    (m2 : PySem.W.findIn K (.ref C) "turns" = some (some (.ref i2)))
    (f2 : PySem.W.isFn K (.ref i2) = true)
    (ml2 : K.lookup i2 = some ⟨jc2, jd2, .func (PySem.W.fnOf "turns" "Web.turns" (defArgs s_Web_turns) (defBody s_Web_turns) (defScope s_Web_turns) .none jk2 jo2 jp2 jn2 jq2 jt2), js2⟩)
    (mc2 : PySem.W.codeIn K jq2 "Web.turns" = true)
    (mk2 : PySem.W.keepIn K (.ref i2) = true)
    (m3 : PySem.W.findIn K (.ref C) "ties" = some (some (.ref i3)))
    (f3 : PySem.W.isFn K (.ref i3) = true)
    (ml3 : K.lookup i3 = some ⟨jc3, jd3, .func (PySem.W.fnOf "ties" "Web.ties" (defArgs s_Web_ties) (defBody s_Web_ties) (defScope s_Web_ties) .none jk3 jo3 jp3 jn3 jq3 jt3), js3⟩)
    (mc3 : PySem.W.codeIn K jq3 "Web.ties" = true)
    (mk3 : PySem.W.keepIn K (.ref i3) = true)
    (m4 : PySem.W.findIn K (.ref C) "tied" = some (some (.ref i4)))
    (f4 : PySem.W.isFn K (.ref i4) = true)
    (ml4 : K.lookup i4 = some ⟨jc4, jd4, .func (PySem.W.fnOf "tied" "Web.tied" (defArgs s_Web_tied) (defBody s_Web_tied) (defScope s_Web_tied) .none jk4 jo4 jp4 jn4 jq4 jt4), js4⟩)
    (mc4 : PySem.W.codeIn K jq4 "Web.tied" = true)
    (mk4 : PySem.W.keepIn K (.ref i4) = true)
    (m5 : PySem.W.findIn K (.ref C) "behind" = some (some (.ref i5)))
    (f5 : PySem.W.isFn K (.ref i5) = true)
    (ml5 : K.lookup i5 = some ⟨jc5, jd5, .func (PySem.W.fnOf "behind" "Web.behind" (defArgs s_Web_behind) (defBody s_Web_behind) (defScope s_Web_behind) .none jk5 jo5 jp5 jn5 jq5 jt5), js5⟩)
    (mc5 : PySem.W.codeIn K jq5 "Web.behind" = true)
    (mk5 : PySem.W.keepIn K (.ref i5) = true)
    (pgC : PySem.W.plainGet K C Str.empty = true)
    (hdC : PySem.W.hasDictIn K C = true)
    (poC : PySem.W.plainOver K C = true)
    (saC : PySem.W.findIn K (.ref C) "__setattr__" = some (some (.builtin "object.__setattr__")))
    (mkC : PySem.W.makesIn K C = true)
    (kpC : PySem.W.keepIn K (.ref C) = true)
    (nR : PySem.W.findIn K (.ref C) "rows" = some none)
    (cc1 : PySem.W.nsIn K mainGlobals "MOST_POINTS" = some (some (.int 14 tk1)))
    (zlen : PySem.W.nsIn K mainGlobals "len" = some none)
    (zrange : PySem.W.nsIn K mainGlobals "range" = some none)
    (zmax : PySem.W.nsIn K mainGlobals "max" = some none)
    (zmin : PySem.W.nsIn K mainGlobals "min" = some none)
    (zenumerate : PySem.W.nsIn K mainGlobals "enumerate" = some none)
    (zzip : PySem.W.nsIn K mainGlobals "zip" = some none)
    (zsorted : PySem.W.nsIn K mainGlobals "sorted" = some none)
    (zall : PySem.W.nsIn K mainGlobals "all" = some none)
    (zisinstance : PySem.W.nsIn K mainGlobals "isinstance" = some none)
    (zint : PySem.W.nsIn K mainGlobals "int" = some none)
    (zbool : PySem.W.nsIn K mainGlobals "bool" = some none)
    (zlist : PySem.W.nsIn K mainGlobals "list" = some none)
    (ztuple : PySem.W.nsIn K mainGlobals "tuple" = some none)
    (zsum : PySem.W.nsIn K mainGlobals "sum" = some none)
    (zreversed : PySem.W.nsIn K mainGlobals "reversed" = some none)
    : ∃ fd : FuncData, (∀ (s : Shared) (v : Value), BindsTo s fd ⟨[v], []⟩ [("_law_script", v)]) ∧ ∀ base : Heap, K.In base → base.Ns mainGlobals mg → FnOk l.prog w K mg base CX0 40 fa fd ["_law_script"] (L2.spLawV K) := by
  have e := hfa.symm.trans (PySem.W.mg_of X G a26)
  cases e
  have F0 := fun_mk (st := s_is_among) l0 c0 k0
  have b0 := F0.binds (ps := ["thing", "many"]) fun _ _ _ _ _ _ us hl => by obtain ⟨_, _, rfl⟩ := L2.len2 hl; rfl
  let D0 : Dfn K mg "is_among" s_is_among ["thing", "many"] := ⟨d0, _, F0, b0, PySem.W.mg_of X G a0⟩
  have F1 := fun_mk (st := s_alien_fault) l1 c1 k1
  have b1 := F1.binds (ps := ["rows"]) fun _ _ _ _ _ _ us hl => by obtain ⟨_, rfl⟩ := L2.len1 hl; rfl
  let D1 : Dfn K mg "alien_fault" s_alien_fault ["rows"] := ⟨d1, _, F1, b1, PySem.W.mg_of X G a1⟩
  have F2 := fun_mk (st := s_self_fault) l2 c2 k2
  have b2 := F2.binds (ps := ["rows"]) fun _ _ _ _ _ _ us hl => by obtain ⟨_, rfl⟩ := L2.len1 hl; rfl
  let D2 : Dfn K mg "self_fault" s_self_fault ["rows"] := ⟨d2, _, F2, b2, PySem.W.mg_of X G a2⟩
  have F3 := fun_mk (st := s_twice_fault) l3 c3 k3
  have b3 := F3.binds (ps := ["rows"]) fun _ _ _ _ _ _ us hl => by obtain ⟨_, rfl⟩ := L2.len1 hl; rfl
  let D3 : Dfn K mg "twice_fault" s_twice_fault ["rows"] := ⟨d3, _, F3, b3, PySem.W.mg_of X G a3⟩
  have F4 := fun_mk (st := s_lone_fault) l4 c4 k4
  have b4 := F4.binds (ps := ["rows"]) fun _ _ _ _ _ _ us hl => by obtain ⟨_, rfl⟩ := L2.len1 hl; rfl
  let D4 : Dfn K mg "lone_fault" s_lone_fault ["rows"] := ⟨d4, _, F4, b4, PySem.W.mg_of X G a4⟩
  have F5 := fun_mk (st := s_reached_from_first) l5 c5 k5
  have b5 := F5.binds (ps := ["rows"]) fun _ _ _ _ _ _ us hl => by obtain ⟨_, rfl⟩ := L2.len1 hl; rfl
  let D5 : Dfn K mg "reached_from_first" s_reached_from_first ["rows"] := ⟨d5, _, F5, b5, PySem.W.mg_of X G a5⟩
  have F6 := fun_mk (st := s_apart_fault) l6 c6 k6
  have b6 := F6.binds (ps := ["rows"]) fun _ _ _ _ _ _ us hl => by obtain ⟨_, rfl⟩ := L2.len1 hl; rfl
  let D6 : Dfn K mg "apart_fault" s_apart_fault ["rows"] := ⟨d6, _, F6, b6, PySem.W.mg_of X G a6⟩
  have F7 := fun_mk (st := s_first_fault) l7 c7 k7
  have b7 := F7.binds (ps := ["rows"]) fun _ _ _ _ _ _ us hl => by obtain ⟨_, rfl⟩ := L2.len1 hl; rfl
  let D7 : Dfn K mg "first_fault" s_first_fault ["rows"] := ⟨d7, _, F7, b7, PySem.W.mg_of X G a7⟩
  have F8 := fun_mk (st := s_begun_at) l8 c8 k8
  have b8 := F8.binds (ps := ["ring", "p"]) fun _ _ _ _ _ _ us hl => by obtain ⟨_, _, rfl⟩ := L2.len2 hl; rfl
  let D8 : Dfn K mg "begun_at" s_begun_at ["ring", "p"] := ⟨d8, _, F8, b8, PySem.W.mg_of X G a8⟩
  have F9 := fun_mk (st := s_within_at) l9 c9 k9
  have b9 := F9.binds (ps := ["web", "ring", "i"]) fun _ _ _ _ _ _ us hl => by obtain ⟨_, _, _, rfl⟩ := L2.len3 hl; rfl
  let D9 : Dfn K mg "within_at" s_within_at ["web", "ring", "i"] := ⟨d9, _, F9, b9, PySem.W.mg_of X G a9⟩
  have F10 := fun_mk (st := s_parted) l10 c10 k10
  have b10 := F10.binds (ps := ["ring", "i", "j"]) fun _ _ _ _ _ _ us hl => by obtain ⟨_, _, _, rfl⟩ := L2.len3 hl; rfl
  let D10 : Dfn K mg "parted" s_parted ["ring", "i", "j"] := ⟨d10, _, F10, b10, PySem.W.mg_of X G a10⟩
  have F11 := fun_mk (st := s_made_less) l11 c11 k11
  have b11 := F11.binds (ps := ["web", "ring"]) fun _ _ _ _ _ _ us hl => by obtain ⟨_, _, rfl⟩ := L2.len2 hl; rfl
  let D11 : Dfn K mg "made_less" s_made_less ["web", "ring"] := ⟨d11, _, F11, b11, PySem.W.mg_of X G a11⟩
  have F12 := fun_mk (st := s__law_cell_at) l12 c12 k12
  have b12 := F12.binds (ps := ["_law_script", "_law_k"]) fun _ _ _ _ _ _ us hl => by obtain ⟨_, _, rfl⟩ := L2.len2 hl; rfl
  let D12 : Dfn K mg "_law_cell_at" s__law_cell_at ["_law_script", "_law_k"] := ⟨d12, _, F12, b12, PySem.W.mg_of X G a12⟩
  have F13 := fun_mk (st := s__law_drawn) l13 c13 k13
  have b13 := F13.binds (ps := ["_law_cell"]) fun _ _ _ _ _ _ us hl => by obtain ⟨_, rfl⟩ := L2.len1 hl; rfl
  let D13 : Dfn K mg "_law_drawn" s__law_drawn ["_law_cell"] := ⟨d13, _, F13, b13, PySem.W.mg_of X G a13⟩
  have F14 := fun_mk (st := s__law_grown) l14 c14 k14
  have b14 := F14.binds (ps := ["_law_number"]) fun _ _ _ _ _ _ us hl => by obtain ⟨_, rfl⟩ := L2.len1 hl; rfl
  let D14 : Dfn K mg "_law_grown" s__law_grown ["_law_number"] := ⟨d14, _, F14, b14, PySem.W.mg_of X G a14⟩
  have F15 := fun_mk (st := s__law_named) l15 c15 k15
  have b15 := F15.binds (ps := ["_law_turns", "_law_ring", "_law_number"]) fun _ _ _ _ _ _ us hl => by obtain ⟨_, _, _, rfl⟩ := L2.len3 hl; rfl
  let D15 : Dfn K mg "_law_named" s__law_named ["_law_turns", "_law_ring", "_law_number"] := ⟨d15, _, F15, b15, PySem.W.mg_of X G a15⟩
  have F16 := fun_mk (st := s__law_built) l16 c16 k16
  have b16 := F16.binds (ps := ["_law_script"]) fun _ _ _ _ _ _ us hl => by obtain ⟨_, rfl⟩ := L2.len1 hl; rfl
  let D16 : Dfn K mg "_law_built" s__law_built ["_law_script"] := ⟨d16, _, F16, b16, PySem.W.mg_of X G a16⟩
  have F17 := fun_mk (st := s__law_web) l17 c17 k17
  have b17 := F17.binds (ps := ["_law_turns"]) fun _ _ _ _ _ _ us hl => by obtain ⟨_, rfl⟩ := L2.len1 hl; rfl
  let D17 : Dfn K mg "_law_web" s__law_web ["_law_turns"] := ⟨d17, _, F17, b17, PySem.W.mg_of X G a17⟩
  have F18 := fun_mk (st := s__law_within) l18 c18 k18
  have b18 := F18.binds (ps := ["_law_turns", "_law_ring", "_law_i"]) fun _ _ _ _ _ _ us hl => by obtain ⟨_, _, _, rfl⟩ := L2.len3 hl; rfl
  let D18 : Dfn K mg "_law_within" s__law_within ["_law_turns", "_law_ring", "_law_i"] := ⟨d18, _, F18, b18, PySem.W.mg_of X G a18⟩
  have F19 := fun_mk (st := s__law_chords) l19 c19 k19
  have b19 := F19.binds (ps := ["_law_turns", "_law_ring"]) fun _ _ _ _ _ _ us hl => by obtain ⟨_, _, rfl⟩ := L2.len2 hl; rfl
  let D19 : Dfn K mg "_law_chords" s__law_chords ["_law_turns", "_law_ring"] := ⟨d19, _, F19, b19, PySem.W.mg_of X G a19⟩
  have F20 := fun_mk (st := s__law_halves) l20 c20 k20
  have b20 := F20.binds (ps := ["_law_ring", "_law_i", "_law_j"]) fun _ _ _ _ _ _ us hl => by obtain ⟨_, _, _, rfl⟩ := L2.len3 hl; rfl
  let D20 : Dfn K mg "_law_halves" s__law_halves ["_law_ring", "_law_i", "_law_j"] := ⟨d20, _, F20, b20, PySem.W.mg_of X G a20⟩
  have F21 := fun_mk (st := s__law_lesser) l21 c21 k21
  have b21 := F21.binds (ps := ["_law_turns", "_law_ring", "_law_number"]) fun _ _ _ _ _ _ us hl => by obtain ⟨_, _, _, rfl⟩ := L2.len3 hl; rfl
  let D21 : Dfn K mg "_law_lesser" s__law_lesser ["_law_turns", "_law_ring", "_law_number"] := ⟨d21, _, F21, b21, PySem.W.mg_of X G a21⟩
  have F22 := fun_mk (st := s__law_rings) l22 c22 k22
  have b22 := F22.binds (ps := ["_law_turns", "_law_ring", "_law_number"]) fun _ _ _ _ _ _ us hl => by obtain ⟨_, _, _, rfl⟩ := L2.len3 hl; rfl
  let D22 : Dfn K mg "_law_rings" s__law_rings ["_law_turns", "_law_ring", "_law_number"] := ⟨d22, _, F22, b22, PySem.W.mg_of X G a22⟩
  have F23 := fun_mk (st := s__law_points) l23 c23 k23
  have b23 := F23.binds (ps := ["_law_found", "_law_due"]) fun _ _ _ _ _ _ us hl => by obtain ⟨_, _, rfl⟩ := L2.len2 hl; rfl
  let D23 : Dfn K mg "_law_points" s__law_points ["_law_found", "_law_due"] := ⟨d23, _, F23, b23, PySem.W.mg_of X G a23⟩
  have F24 := fun_mk (st := s__law_parted_right) l24 c24 k24
  have b24 := F24.binds (ps := ["_law_ring", "_law_i", "_law_j"]) fun _ _ _ _ _ _ us hl => by obtain ⟨_, _, _, rfl⟩ := L2.len3 hl; rfl
  let D24 : Dfn K mg "_law_parted_right" s__law_parted_right ["_law_ring", "_law_i", "_law_j"] := ⟨d24, _, F24, b24, PySem.W.mg_of X G a24⟩
  have F25 := fun_mk (st := s__law_less_right) l25 c25 k25
  have b25 := F25.binds (ps := ["_law_web_here", "_law_turns", "_law_ring"]) fun _ _ _ _ _ _ us hl => by obtain ⟨_, _, _, rfl⟩ := L2.len3 hl; rfl
  let D25 : Dfn K mg "_law_less_right" s__law_less_right ["_law_web_here", "_law_turns", "_law_ring"] := ⟨d25, _, F25, b25, PySem.W.mg_of X G a25⟩
  have F26 := fun_mk (st := s_law) l26 c26 k26
  have b26 := F26.binds (ps := ["_law_script"]) fun _ _ _ _ _ _ us hl => by obtain ⟨_, rfl⟩ := L2.len1 hl; rfl
  let D26 : Dfn K mg "law" s_law ["_law_script"] := ⟨fa, _, F26, b26, PySem.W.mg_of X G a26⟩
  have E0 := fun_mk (st := s_Web___init__) ml0 mc0 mk0
  have e0 := E0.binds (ps := ["self", "turns"]) fun _ _ _ _ _ _ us hl => by obtain ⟨_, _, rfl⟩ := L2.len2 hl; rfl
  have E1 := fun_mk (st := s_Web_many) ml1 mc1 mk1
  have e1 := E1.binds (ps := ["self"]) fun _ _ _ _ _ _ us hl => by obtain ⟨_, rfl⟩ := L2.len1 hl; rfl
  have E2 := fun_mk (st := s_Web_turns) ml2 mc2 mk2
  have e2 := E2.binds (ps := ["self"]) fun _ _ _ _ _ _ us hl => by obtain ⟨_, rfl⟩ := L2.len1 hl; rfl
  have E3 := fun_mk (st := s_Web_ties) ml3 mc3 mk3
  have e3 := E3.binds (ps := ["self"]) fun _ _ _ _ _ _ us hl => by obtain ⟨_, rfl⟩ := L2.len1 hl; rfl
  have E4 := fun_mk (st := s_Web_tied) ml4 mc4 mk4
  have e4 := E4.binds (ps := ["self", "a", "b"]) fun _ _ _ _ _ _ us hl => by obtain ⟨_, _, _, rfl⟩ := L2.len3 hl; rfl
  have E5 := fun_mk (st := s_Web_behind) ml5 mc5 mk5
  have e5 := E5.binds (ps := ["self", "p", "q"]) fun _ _ _ _ _ _ us hl => by obtain ⟨_, _, _, rfl⟩ := L2.len3 hl; rfl
  let Z : DC := ⟨K, C⟩
  let T : Txt Z mg := ⟨⟨PySem.W.mg_none_of X G zlen, PySem.W.mg_none_of X G zrange, PySem.W.mg_none_of X G zmax, PySem.W.mg_none_of X G zmin, PySem.W.mg_none_of X G zenumerate, PySem.W.mg_none_of X G zzip, PySem.W.mg_none_of X G zsorted, PySem.W.mg_none_of X G zall, PySem.W.mg_none_of X G zisinstance, PySem.W.mg_none_of X G zint, PySem.W.mg_none_of X G zbool, PySem.W.mg_none_of X G zlist, PySem.W.mg_none_of X G ztuple, PySem.W.mg_none_of X G zsum, PySem.W.mg_none_of X G zreversed⟩, D0, D1, D2, D3, D4, D5, D6, D7, D8, D9, D10, D11, D12, D13, D14, D15, D16, D17, D18, D19, D20, D21, D22, D23, D24, D25, D26, ⟨⟨pgC, hdC, poC, saC⟩, nR⟩, PySem.W.mg_of X G gC, i0, _, E0, ⟨mkC, m0, f0, kpC⟩, e0, ⟨i1, _, E1, e1, ⟨m1, f1, mk1⟩⟩, ⟨i2, _, E2, e2, ⟨m2, f2, mk2⟩⟩, ⟨i3, _, E3, e3, ⟨m3, f3, mk3⟩⟩, ⟨i4, _, E4, e4, ⟨m4, f4, mk4⟩⟩, ⟨i5, _, E5, e5, ⟨m5, f5, mk5⟩⟩, ⟨tk1, PySem.W.mg_of X G cc1⟩⟩
  exact ⟨_, fun s v => .of_eq rfl, fun base _ _ => (((ok_law (P := l.prog) (w := w) (base := base) T).mono (by decide)).imp (L2.law_of (Z := Z)))⟩
theorem walk {l : PySem.W.OpenLaw} {q : Program} {loose : List Str} {XP : (Str → Option Value) → Heap → Prop} {YP : World → Heap → Prop} {d : DefRec} {K : Params → PySem.W.Frag} (hn : l.most = some 63) (hdf : d.params.defaults = [])
    (hY : ∀ (w : World) (h : Heap), YP w h → (K w.params).In h)
    (F : ∀ (w : World) (mg : Str → Option Value) (fa : Addr) (h : Heap), (K w.params).In h → h.Ns mainGlobals mg → mg d.name = some (.ref fa) →
      ∃ fd : FuncData, (∀ (s : Shared) (u : Value), BindsTo s fd ⟨[u], []⟩ [("_law_script", u)]) ∧ ∀ base : Heap, (K w.params).In base → base.Ns mainGlobals mg → FnOk l.prog w (K w.params) mg base CX0 40 fa fd ["_law_script"] (spLawV (K w.params))) :
    PySem.W.WalkO q loose XP YP l.row.toRowW d [] (fun f vs => PySem.call f vs) := L2.walkD 40 (by decide) hn hdf hY F
end K33

def PySem.W.Fast.tw16874446591627397754 : Nat := 0
def PySem.W.Fast.tw7096069056926994319 : Nat := 0
def PySem.W.Fast.tw16861831569973003107 : Nat := 0
def PySem.W.Fast.tw10776154644515058106 : Nat := 0
def PySem.W.Fast.tw701594936068342031 : Nat := 0
def PySem.W.Fast.tw17625553009241522497 : Nat := 0
def PySem.W.Fast.tw9024204406437254326 : Nat := 0
def PySem.W.Fast.tw2030407821106092191 : Nat := 0
def PySem.W.Fast.tw2052027314418825909 : Nat := 0
def PySem.W.Fast.tw13867263256571194307 : Nat := 0
def PySem.W.Fast.tw15087506819912674196 : Nat := 0
def PySem.W.Fast.tw6414385012633574719 : Nat := 0
def PySem.W.Fast.tw10395888683416582144 : Nat := 0
def PySem.W.Fast.tw14296189549680375750 : Nat := 0
def PySem.W.Fast.tw1504487147964354941 : Nat := 0
def PySem.W.Fast.tw336593674665148328 : Nat := 0
def PySem.W.Fast.tw10417012494555925175 : Nat := 0
def PySem.W.Fast.tw2415505961771667714 : Nat := 0
def PySem.W.Fast.tw15854301967453772291 : Nat := 0
def PySem.W.Fast.tw13234691656954241965 : Nat := 0
def PySem.W.Fast.tw14117015522860950517 : Nat := 0
def PySem.W.Fast.tw17000052945065501280 : Nat := 0
def PySem.W.Fast.tw13991494747763184525 : Nat := 0
def PySem.W.Fast.tw6245197410445387806 : Nat := 0
def PySem.W.Fast.tw8786557445340991036 : Nat := 0
def PySem.W.Fast.tw5880573998673606762 : Nat := 0
def PySem.W.Fast.tw5880407975992223102 : Nat := 0
def PySem.W.Fast.tw6608350803824466803 : Nat := 0
def PySem.W.Fast.tw8667643207555416587 : Nat := 0
def PySem.W.Fast.tw1896739730561903495 : Nat := 0
def PySem.W.Fast.tw7005723311922059281 : Nat := 0
def PySem.W.Fast.tw2523648540350077551 : Nat := 0
def PySem.W.Fast.tw16300547863065119252 : Nat := 0
def PySem.W.Fast.tw3138991453173553996 : Nat := 0
def PySem.W.Fast.tw5153361751891107388 : Nat := 0
def PySem.W.Fast.tw16314316019413257774 : Nat := 0
def PySem.W.Fast.tw9144906188160243787 : Nat := 0
def PySem.W.Fast.tw15198349315535075782 : Nat := 0
def PySem.W.Fast.tw39330293023500844 : Nat := 0
def PySem.W.Fast.tw12416787040890354032 : Nat := 0
def PySem.W.Fast.tw17333392998909388947 : Nat := 0
def PySem.W.Fast.tw14049001529218443783 : Nat := 0
def PySem.W.Fast.tw11997052599229940131 : Nat := 0
def PySem.W.Fast.tw6373350671630669308 : Nat := 0
def PySem.W.Fast.tw15319937347856776013 : Nat := 0
def PySem.W.Fast.tw4365563748436960747 : Nat := 0
def PySem.W.Fast.tw809907051853546887 : Nat := 0
def PySem.W.Fast.tw5433472263369982674 : Nat := 0
def PySem.W.Fast.tw8564530599456860979 : Nat := 0
def PySem.W.Fast.tw3306289359415063596 : Nat := 0
def PySem.W.Fast.tw2652616083265983599 : Nat := 0
def PySem.W.Fast.tw7213860748116706028 : Nat := 0
def PySem.W.Fast.tw7539092313164132053 : Nat := 0
def PySem.W.Fast.tw17824992479715935375 : Nat := 0
def PySem.W.Fast.tw10826116155827844742 : Nat := 0
def PySem.W.Fast.tw17846011369164454363 : Nat := 0
def PySem.W.Fast.tw2978630120171732410 : Nat := 0
def PySem.W.Fast.tw9154394043722942055 : Nat := 0
def PySem.W.Fast.tw13392346883190487113 : Nat := 0
def PySem.W.Fast.tw11938457625568500207 : Nat := 0
def PySem.W.Fast.tw1849871257449620198 : Nat := 0
def PySem.W.Fast.tw1621241589075370837 : Nat := 0
def PySem.W.Fast.tw15216276598807914884 : Nat := 0
def PySem.W.Fast.tw12005839598390454335 : Nat := 0
def PySem.W.Fast.tw16927110234986295072 : Nat := 0
def PySem.W.Fast.tw1570249677706913996 : Nat := 0
def PySem.W.Fast.tw8728581297822868768 : Nat := 0
def PySem.W.Fast.tw17581548772614066295 : Nat := 0
def PySem.W.Fast.tw16406475343775038189 : Nat := 0
set_option Elab.async false
open PySem PySem.W PyProof.Rows
set_option maxRecDepth 100000 in
set_option maxHeartbeats 0 in
theorem PySem.Challenge.cw_mapdye_k33_parted_and_made_less_holds : PySem.Challenge.rw_mapdye_k33_parted_and_made_less.Holds := by
  w_on; o_law; k_head; (case hw => w_witness2)
  k_fill
  refine K33.walk (l := PySem.Challenge.rw_mapdye_k33_parted_and_made_less) rfl rfl (fun w h Y => PySem.W.kIn_of Y) ?F
  case F =>
    intro w mg fa h KX G hmg
    refine' K33.all_mk KX G hmg ?gC ?a0 ?l0 ?c0 ?k0 ?a1 ?l1 ?c1 ?k1 ?a2 ?l2 ?c2 ?k2 ?a3 ?l3 ?c3 ?k3 ?a4 ?l4 ?c4 ?k4 ?a5 ?l5 ?c5 ?k5 ?a6 ?l6 ?c6 ?k6 ?a7 ?l7 ?c7 ?k7 ?a8 ?l8 ?c8 ?k8 ?a9 ?l9 ?c9 ?k9 ?a10 ?l10 ?c10 ?k10 ?a11 ?l11 ?c11 ?k11 ?a12 ?l12 ?c12 ?k12 ?a13 ?l13 ?c13 ?k13 ?a14 ?l14 ?c14 ?k14 ?a15 ?l15 ?c15 ?k15 ?a16 ?l16 ?c16 ?k16 ?a17 ?l17 ?c17 ?k17 ?a18 ?l18 ?c18 ?k18 ?a19 ?l19 ?c19 ?k19 ?a20 ?l20 ?c20 ?k20 ?a21 ?l21 ?c21 ?k21 ?a22 ?l22 ?c22 ?k22 ?a23 ?l23 ?c23 ?k23 ?a24 ?l24 ?c24 ?k24 ?a25 ?l25 ?c25 ?k25 ?a26 ?l26 ?c26 ?k26 ?m0 ?f0 ?ml0 ?mc0 ?mk0 ?m1 ?f1 ?ml1 ?mc1 ?mk1 ?m2 ?f2 ?ml2 ?mc2 ?mk2 ?m3 ?f3 ?ml3 ?mc3 ?mk3 ?m4 ?f4 ?ml4 ?mc4 ?mk4 ?m5 ?f5 ?ml5 ?mc5 ?mk5 ?pgC ?hdC ?poC ?saC ?mkC ?kpC ?nR ?cc1 ?zlen ?zrange ?zmax ?zmin ?zenumerate ?zzip ?zsorted ?zall ?zisinstance ?zint ?zbool ?zlist ?ztuple ?zsum ?zreversed
    (case gC => k_is)
    (case a0 => k_is)
    (case l0 => k_is)
    (case c0 => k_is)
    (case k0 => k_is)
    (case a1 => k_is)
    (case l1 => k_is)
    (case c1 => k_is)
    (case k1 => k_is)
    (case a2 => k_is)
    (case l2 => k_is)
    (case c2 => k_is)
    (case k2 => k_is)
    (case a3 => k_is)
    (case l3 => k_is)
    (case c3 => k_is)
    (case k3 => k_is)
    (case a4 => k_is)
    (case l4 => k_is)
    (case c4 => k_is)
    (case k4 => k_is)
    (case a5 => k_is)
    (case l5 => k_is)
    (case c5 => k_is)
    (case k5 => k_is)
    (case a6 => k_is)
    (case l6 => k_is)
    (case c6 => k_is)
    (case k6 => k_is)
    (case a7 => k_is)
    (case l7 => k_is)
    (case c7 => k_is)
    (case k7 => k_is)
    (case a8 => k_is)
    (case l8 => k_is)
    (case c8 => k_is)
    (case k8 => k_is)
    (case a9 => k_is)
    (case l9 => k_is)
    (case c9 => k_is)
    (case k9 => k_is)
    (case a10 => k_is)
    (case l10 => k_is)
    (case c10 => k_is)
    (case k10 => k_is)
    (case a11 => k_is)
    (case l11 => k_is)
    (case c11 => k_is)
    (case k11 => k_is)
    (case a12 => k_is)
    (case l12 => k_is)
    (case c12 => k_is)
    (case k12 => k_is)
    (case a13 => k_is)
    (case l13 => k_is)
    (case c13 => k_is)
    (case k13 => k_is)
    (case a14 => k_is)
    (case l14 => k_is)
    (case c14 => k_is)
    (case k14 => k_is)
    (case a15 => k_is)
    (case l15 => k_is)
    (case c15 => k_is)
    (case k15 => k_is)
    (case a16 => k_is)
    (case l16 => k_is)
    (case c16 => k_is)
    (case k16 => k_is)
    (case a17 => k_is)
    (case l17 => k_is)
    (case c17 => k_is)
    (case k17 => k_is)
    (case a18 => k_is)
    (case l18 => k_is)
    (case c18 => k_is)
    (case k18 => k_is)
    (case a19 => k_is)
    (case l19 => k_is)
    (case c19 => k_is)
    (case k19 => k_is)
    (case a20 => k_is)
    (case l20 => k_is)
    (case c20 => k_is)
    (case k20 => k_is)
    (case a21 => k_is)
    (case l21 => k_is)
    (case c21 => k_is)
    (case k21 => k_is)
    (case a22 => k_is)
    (case l22 => k_is)
    (case c22 => k_is)
    (case k22 => k_is)
    (case a23 => k_is)
    (case l23 => k_is)
    (case c23 => k_is)
    (case k23 => k_is)
    (case a24 => k_is)
    (case l24 => k_is)
    (case c24 => k_is)
    (case k24 => k_is)
    (case a25 => k_is)
    (case l25 => k_is)
    (case c25 => k_is)
    (case k25 => k_is)
    (case a26 => k_is)
    (case l26 => k_is)
    (case c26 => k_is)
    (case k26 => k_is)
    (case m0 => k_is)
    (case f0 => k_is)
    (case ml0 => k_is)
    (case mc0 => k_is)
    (case mk0 => k_is)
    (case m1 => k_is)
    (case f1 => k_is)
    (case ml1 => k_is)
    (case mc1 => k_is)
    (case mk1 => k_is)
    (case m2 => k_is)
    (case f2 => k_is)
    (case ml2 => k_is)
    (case mc2 => k_is)
    (case mk2 => k_is)
    (case m3 => k_is)
    (case f3 => k_is)
    (case ml3 => k_is)
    (case mc3 => k_is)
    (case mk3 => k_is)
    (case m4 => k_is)
    (case f4 => k_is)
    (case ml4 => k_is)
    (case mc4 => k_is)
    (case mk4 => k_is)
    (case m5 => k_is)
    (case f5 => k_is)
    (case ml5 => k_is)
    (case mc5 => k_is)
    (case mk5 => k_is)
    (case pgC => k_is)
    (case hdC => k_is)
    (case poC => k_is)
    (case saC => k_is)
    (case mkC => k_is)
    (case kpC => k_is)
    (case nR => k_is)
    (case cc1 => k_is)
    (case zlen => k_is)
    (case zrange => k_is)
    (case zmax => k_is)
    (case zmin => k_is)
    (case zenumerate => k_is)
    (case zzip => k_is)
    (case zsorted => k_is)
    (case zall => k_is)
    (case zisinstance => k_is)
    (case zint => k_is)
    (case zbool => k_is)
    (case zlist => k_is)
    (case ztuple => k_is)
    (case zsum => k_is)
    (case zreversed => k_is)

