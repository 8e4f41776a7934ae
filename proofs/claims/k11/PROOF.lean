import PyProof.Rows.All
import Wide.All
import OpenK.AllK
import Wide.FinOn
import Lean
import PyProof.EqAt
import PyProof.EqKinds
import PyProof.TupleCall
import PySem.Challenge.RW_mapdye_k11_web_told_back
set_option Elab.async false
set_option linter.all false
set_option maxRecDepth 100000
/-! THE HAND LAYER, for ints, bools, texts, own classes, LISTS and tuples (index, slices, in, append, pop ..), calls, loops. Paste it whole ahead of your own text; what your proof does not reach may be deleted. -/
namespace L2
open PySem PySem.Spec PyProof.Rows

/-- a key: an int or a str -/
abbrev Key := Sum Int Str
def keyIs : Key → Value → Bool
  | .inl k, v => Value.isInt k v
  | .inr x, v => Value.isStrOf x v
def keyH (w : World) : Key → Int
  | .inl k => hashInt k
  | .inr x => hashStr w x
theorem keyIs_shape : ∀ {k : Key} {v : Value}, keyIs k v = true → (∃ i t, k = Sum.inl i ∧ v = Value.int i t) ∨ (∃ x t, k = Sum.inr x ∧ v = Value.str x t)
  | .inl i, v, h => by
    obtain ⟨t, e⟩ := Value.isInt_shape (k := i) (v := v) h
    exact .inl ⟨i, t, rfl, e⟩
  | .inr x, v, h => by
    obtain ⟨t, e⟩ := Value.isStrOf_shape (x := x) (v := v) h
    exact .inr ⟨x, t, rfl, e⟩
theorem key_ll (a b : Int) : decide ((Sum.inl a : Key) = Sum.inl b) = (a == b) := by
  by_cases e : a = b
  · subst e; simp
  · have h : ¬ (Sum.inl a : Key) = Sum.inl b := fun q => e (Sum.inl.inj q)
    rw [decide_eq_false h]
    exact (beq_eq_false_iff_ne.mpr e).symm
theorem key_rr (a b : Str) : decide ((Sum.inr a : Key) = Sum.inr b) = decide (a = b) := by
  by_cases e : a = b
  · subst e; simp
  · have h : ¬ (Sum.inr a : Key) = Sum.inr b := fun q => e (Sum.inr.inj q)
    rw [decide_eq_false h, decide_eq_false e]
theorem key_lr (a : Int) (b : Str) : decide ((Sum.inl a : Key) = Sum.inr b) = false := decide_eq_false (fun q => nomatch q)
theorem key_rl (a : Str) (b : Int) : decide ((Sum.inr a : Key) = Sum.inl b) = false := decide_eq_false (fun q => nomatch q)

def mixKind (prog : Program) (w : World) : PySem.KeyKind prog w Key where
  is := keyIs
  hash := keyH w
  inj := fun v a b ha hb => by
    rcases keyIs_shape ha with ⟨i, t, rfl, rfl⟩ | ⟨x, t, rfl, rfl⟩
    · rcases keyIs_shape hb with ⟨j, u, rfl, e⟩ | ⟨y, u, rfl, e⟩
      · injection e with e1 _; rw [e1]
      · exact nomatch e
    · rcases keyIs_shape hb with ⟨j, u, rfl, e⟩ | ⟨y, u, rfl, e⟩
      · exact nomatch e
      · injection e with e1 _; rw [e1]
  byValue := fun k v h => by
    rcases keyIs_shape h with ⟨i, t, rfl, rfl⟩ | ⟨x, t, rfl, rfl⟩ <;> rfl
  pyHash := fun hv h => by
    rcases keyIs_shape hv with ⟨i, t, rfl, rfl⟩ | ⟨x, t, rfl, rfl⟩
    · exact wpAny_pyHash_int h
    · exact wpAny_pyHash_str h
  eqBool := fun hu hv h => by
    rcases keyIs_shape hu with ⟨i, t, rfl, rfl⟩ | ⟨x, t, rfl, rfl⟩
    · rcases keyIs_shape hv with ⟨j, u, rfl, rfl⟩ | ⟨y, u, rfl, rfl⟩
      · rw [key_ll] at h; exact wpAny_eqBool_int h
      · rw [key_lr] at h; exact SeqAt.EqAt.int_str i t y u _ _ _ _ h
    · rcases keyIs_shape hv with ⟨j, u, rfl, rfl⟩ | ⟨y, u, rfl, rfl⟩
      · rw [key_rl] at h; exact SeqAt.EqAt.str_int x t j u _ _ _ _ h
      · rw [key_rr] at h; exact wpAny_eqBool_str h
  «strs» := fun k x t v h => by
    rcases keyIs_shape h with ⟨i, u, rfl, e⟩ | ⟨y, u, rfl, e⟩
    · exact nomatch e
    · injection e with e1 _
      subst e1
      cases v <;> rfl

end L2

namespace L2
open PySem PySem.Spec PyProof.Rows

/-- a value, without the heap -/
inductive V where
  | non | bl (b : Bool) | int (i : Int) | str (x : Str) | byt (b : Array UInt8) | flt (b : UInt64) | ref (a : Addr) | ty (n : String)
  deriving DecidableEq

def RelV : V → Value → Prop
  | .non, u => u = Value.none
  | .bl b, u => u = Value.bool b
  | .int i, u => ∃ t, u = Value.int i t
  | .str x, u => ∃ t, u = Value.str x t
  | .byt b, u => ∃ t, u = Value.bytes b t
  | .flt b, u => ∃ t, u = Value.float b t
  | .ref a, u => u = Value.ref a
  | .ty n, u => u = Value.type n

abbrev Vals : List V → List Value → Prop := Paired RelV
theorem Vals.length {xs : List V} {us : List Value} (r : Vals xs us) : xs.length = us.length := Paired.length r
theorem Vals.get : ∀ {xs : List V} {us : List Value} {i : Nat} {x : V}, Vals xs us → xs[i]? = some x → ∃ u, us[i]? = some u ∧ RelV x u
  | _, _, _, _, .nil, e => by simp at e
  | _, _, 0, _, .cons r _, e => by simp at e; subst e; exact ⟨_, rfl, r⟩
  | _, _, i + 1, x, .cons _ t, e => by
    obtain ⟨u, h1, h2⟩ := Vals.get (i := i) (x := x) t (by simpa using e)
    exact ⟨u, by simpa using h1, h2⟩
theorem Vals.set {x : V} {u : Value} (r : RelV x u) : ∀ {xs : List V} {us : List Value} (i : Nat), Vals xs us → Vals (xs.set i x) (us.set i u)
  | _, _, _, .nil => .nil
  | _, _, 0, .cons _ t => .cons r t
  | _, _, i + 1, .cons q t => .cons q (Vals.set r i t)
theorem Vals.append : ∀ {xs ys : List V} {us ws : List Value}, Vals xs us → Vals ys ws → Vals (xs ++ ys) (us ++ ws)
  | _, _, _, _, .nil, s => s
  | _, _, _, _, .cons r t, s => .cons r (Vals.append t s)
theorem Vals.take : ∀ {xs : List V} {us : List Value} (n : Nat), Vals xs us → Vals (xs.take n) (us.take n)
  | _, _, 0, _ => .nil
  | _, _, _ + 1, .nil => .nil
  | _, _, n + 1, .cons r t => .cons r (Vals.take n t)
theorem Vals.drop : ∀ {xs : List V} {us : List Value} (n : Nat), Vals xs us → Vals (xs.drop n) (us.drop n)
  | _, _, 0, r => r
  | _, _, _ + 1, .nil => .nil
  | _, _, n + 1, .cons _ t => Vals.drop n t
def RelO : Option V → Option Value → Prop
  | some v, some u => RelV v u
  | none, none => True
  | _, _ => False
def KV {κ : Type} : List (κ × V) → List (κ × Value) → Prop := Paired fun (p : κ × V) (q : κ × Value) => p.1 = q.1 ∧ RelV p.2 q.2

/-- a key of a dict (00_mix): an int or a text -/
def kV : Key → V
  | .inl i => .int i
  | .inr x => .str x

/-- what stands at a tracked address -/
inductive HO where
  /-- a list -/
  | lst (xs : List V)
  /-- a tuple (never changes) -/
  | tup (xs : List V)
  /-- a dict whose keys are ints and texts; one whose keys are tuples of ints and texts (the empty one is both) -/
  | dK (kvs : List (Key × V)) | dT (kvs : List (List Key × V))
  /-- a set of ints: its members, its size -/
  | set (S : Int → Bool) (n : Nat)
  /-- an instance of the class at C, its dict at dx, its attributes -/
  | ins (C dx : Addr) (fs : List (Str × V))
  /-- the dict of the instance at x -/
  | own (x : Addr)
  /-- the dict of an exception -/
  | xd (fs : List (Str × V))
  /-- a bound method, f of x -/
  | met (f x : Addr)
  /-- a range object lo, lo + 1, .. below hi -/
  | rng (lo hi : Int)
  /-- a thing that is known to the object (the script; a dict while a loop walks it): read, never written while it is so -/
  | frz (o : Obj) (u : HO)
  /-- a code object's table -/
  | tbl (ps : Array Value)
  /-- any other thing, by what is true of its one object (a def of one's own: SetO a S n := HO.ext fun h => ..) -/
  | ext (φ : Heap → Prop)

abbrev Hp := Addr → Option HO
def upd (H : Hp) (a : Addr) (o : HO) : Hp := fun b => if b = a then some o else H b
theorem upd_same {H : Hp} {a : Addr} {o : HO} : upd H a o a = some o := by unfold upd; rw [if_pos rfl]
theorem upd_ne {H : Hp} {a b : Addr} {o : HO} (h : b ≠ a) : upd H a o b = H b := by unfold upd; rw [if_neg h]
theorem upd_upd {H : Hp} {a : Addr} {o u : HO} : upd (upd H a o) a u = upd H a u := by
  funext b; unfold upd; split <;> rfl
theorem ne_of_none {H : Hp} {a b : Addr} {o : HO} (h : H a = some o) (h' : H b = none) : a ≠ b := by
  intro e; subst e; rw [h] at h'; cases h'

section
variable (P : Program) (w : World)
def ObjOk (H : Hp) (h : Heap) (a : Addr) : HO → Prop
  | .lst xs => xs.length ≤ sizeLine ∧ ∃ (its : List Value) (n : Nat), Vals xs its ∧ h.get? a = some { cls := .type "list", data := .seq its.toArray n }
  | .tup xs => xs.length ≤ sizeLine ∧ ∃ its : List Value, Vals xs its ∧ IsTup h a its.toArray
  | .dK kvs => kvs.length ≤ sizeLine ∧ (a == sysModules) = false ∧ ∃ vs, KV kvs vs ∧ h.DictOf (mixKind P w) a vs
  | .dT kvs => kvs.length ≤ sizeLine ∧ (a == sysModules) = false ∧ ∃ xs : List (List Key × Addr × Value),
      Paired (fun (p : List Key × V) (q : List Key × Addr × Value) => p.1 = q.1 ∧ H q.2.1 = some (.tup (p.1.map kV)) ∧ RelV p.2 q.2.2) kvs xs ∧
      ∃ o es ep, h.get? a = some o ∧ o.ExactDict ∧ o.data = .dict es ep ∧ es.toList = xs.map (entryOfKey (tupleKind (mixKind P w))) ∧ (xs.map (·.1)).Nodup
  | .set S n => h.SetOf (intKind P w) a S n
  | .ins C dx fs => H dx = some (.own a) ∧ fs.length ≤ 1000 ∧ dx ≠ a ∧ h.get? a = some (PySem.W.instObj C dx) ∧
      ∃ mA, h.Ns1 dx mA ∧ (∀ f, RelO (fs.lookup f) (mA f)) ∧ PySem.Within mA (fs.map (·.1))
  | .own _ => ∃ o, h.get? a = some o
  | .xd fs => ∃ mA, h.Ns1 a mA ∧ ∀ f, RelO (fs.lookup f) (mA f)
  | .rng lo hi => ∃ t u v, h.get? a = some { cls := .type "range", data := .fields #[.int lo t, .int hi u, .int 1 v] }
  | .frz o u => h.get? a = some o ∧ ObjOk H h a u
  | .tbl ps => h.get? a = some { cls := .none, data := .fields ps }
  | .met f x => h.get? a = some (PySem.W.methodObj (.ref f) (.ref x))
  | .ext φ => φ h ∧ (∃ o, h.get? a = some o) ∧ ∀ h1 h2 : Heap, φ h1 → (∀ o, h1.get? a = some o → h2.get? a = some o) → φ h2
/-- the abstract heap is held -/
def HOk (H : Hp) (h : Heap) : Prop := ∀ a o, H a = some o → ObjOk P w H h a o
end

section
variable {P : Program} {w : World} {H H' : Hp} {h h' : Heap} {a : Addr} {o : HO}
theorem ObjOk.lt (x : ObjOk P w H h a o) : a < h.objs.size := by
  cases o with
  | lst xs => obtain ⟨_, _, _, _, e⟩ := x; exact Heap.lt_size e
  | tup xs => obtain ⟨_, _, _, p⟩ := x; exact p.lt
  | dK kvs => obtain ⟨_, _, _, _, o, _, _, e, _⟩ := x; exact Heap.lt_size e
  | dT kvs => obtain ⟨_, _, _, _, o, _, _, e, _⟩ := x; exact Heap.lt_size e
  | set S n => obtain ⟨o, _, _, _, e, _⟩ := x; exact Heap.lt_size e
  | ins C dx fs => obtain ⟨_, _, _, e, _⟩ := x; exact Heap.lt_size e
  | own y => obtain ⟨_, e⟩ := x; exact Heap.lt_size e
  | xd fs => obtain ⟨_, ⟨_, _, _, e, _⟩, _⟩ := x; exact Heap.lt_size e
  | rng lo hi => obtain ⟨_, _, _, e⟩ := x; exact Heap.lt_size e
  | frz ob u => obtain ⟨e, _⟩ := x; exact Heap.lt_size e
  | tbl ps => exact Heap.lt_size (show h.get? a = some _ from x)
  | met f y => exact Heap.lt_size (show h.get? a = some _ from x)
  | ext φ => obtain ⟨_, ⟨_, e⟩, _⟩ := x; exact Heap.lt_size e
theorem Paired.mapP {α β : Type} {F G : α → β → Prop} : ∀ {l₁ : List α} {l₂ : List β}, Paired F l₁ l₂ → (∀ a b, F a b → G a b) → Paired G l₁ l₂
  | _, _, .nil, _ => .nil
  | _, _, .cons r t, f => .cons (f _ _ r) (Paired.mapP t f)
/-- what an object's description leans on: its own object, its own dict, the tuples -/
theorem ObjOk.stay (x : ObjOk P w H h a o) (k : ∀ b u, (b = a ∨ H b = some (.own a)) → h.get? b = some u → h'.get? b = some u)
    (ho : ∀ b, H b = some (.own a) → H' b = some (.own a)) (ht : ∀ b xs, H b = some (.tup xs) → H' b = some (.tup xs)) : ObjOk P w H' h' a o := by
  induction o with
  | lst xs => obtain ⟨z, its, n, r, e⟩ := x; exact ⟨z, its, n, r, k _ _ (.inl rfl) e⟩
  | tup xs => obtain ⟨z, its, r, ob, e, c⟩ := x; exact ⟨z, its, r, ob, k _ _ (.inl rfl) e, c⟩
  | dK kvs => obtain ⟨z, y, vs, r, ob, es, ep, e, c⟩ := x; exact ⟨z, y, vs, r, ob, es, ep, k _ _ (.inl rfl) e, c⟩
  | dT kvs =>
    obtain ⟨z, y, xs, r, ob, es, ep, e, c⟩ := x
    exact ⟨z, y, xs, Paired.mapP r fun p q z => ⟨z.1, ht _ _ z.2.1, z.2.2⟩, ob, es, ep, k _ _ (.inl rfl) e, c⟩
  | set S n => obtain ⟨ob, es, ep, t, e, c⟩ := x; exact ⟨ob, es, ep, t, k _ _ (.inl rfl) e, c⟩
  | ins C dx fs =>
    obtain ⟨d, z, ne, e, mA, ⟨od, es, ep, e2, c⟩, r⟩ := x
    exact ⟨ho _ d, z, ne, k _ _ (.inl rfl) e, mA, ⟨od, es, ep, k _ _ (.inr d) e2, c⟩, r⟩
  | own y => obtain ⟨ob, e⟩ := x; exact ⟨ob, k _ _ (.inl rfl) e⟩
  | xd fs => obtain ⟨mA, ⟨od, es, ep, e, c⟩, r⟩ := x; exact ⟨mA, ⟨od, es, ep, k _ _ (.inl rfl) e, c⟩, r⟩
  | rng lo hi => obtain ⟨t, u, v, e⟩ := x; exact ⟨t, u, v, k _ _ (.inl rfl) e⟩
  | frz ob u ih => obtain ⟨e, q⟩ := x; exact ⟨k _ _ (.inl rfl) e, ih q⟩
  | tbl ps =>
    have e : h.get? a = some { cls := .none, data := .fields ps } := x
    show h'.get? a = some { cls := .none, data := .fields ps }
    exact k a _ (.inl rfl) e
  | met f y =>
    have e : h.get? a = some (PySem.W.methodObj (.ref f) (.ref y)) := x
    show h'.get? a = some (PySem.W.methodObj (.ref f) (.ref y))
    exact k a _ (.inl rfl) e
  | ext φ => obtain ⟨p, ⟨o, e⟩, st⟩ := x; exact ⟨st _ _ p fun o q => k _ _ (.inl rfl) q, ⟨o, k _ _ (.inl rfl) e⟩, st⟩
theorem HOk.lt (x : HOk P w H h) (e : H a = some o) : a < h.objs.size := (x a o e).lt
theorem HOk.fresh (x : HOk P w H h) (e : h.objs.size ≤ a) : H a = none := by
  cases q : H a with
  | none => rfl
  | some u => exact absurd (Nat.lt_of_lt_of_le (x.lt q) e) (Nat.lt_irrefl _)
/-- every object of the heap is kept -/
theorem HOk.kept (x : HOk P w H h) (k : ∀ b u, h.get? b = some u → h'.get? b = some u) : HOk P w H h' := fun a o e =>
  (x a o e).stay (fun b u _ q => k b u q) (fun _ q => q) fun _ _ q => q
/-- a new object is laid and tracked -/
theorem HOk.laid (x : HOk P w H h) (k : ∀ b u, h.get? b = some u → h'.get? b = some u) (hp : h.objs.size ≤ a) (new : ObjOk P w (upd H a o) h' a o) : HOk P w (upd H a o) h' := fun b u e => by
  have hn := x.fresh hp
  by_cases hb : b = a
  · subst hb; rw [upd_same] at e; cases e; exact new
  · rw [upd_ne hb] at e
    exact (x b u e).stay (fun c v _ q => k c v q) (fun c q => by rw [upd_ne (ne_of_none q hn)]; exact q) fun c xs q => by rw [upd_ne (ne_of_none q hn)]; exact q
end

/-- what may be read as u: it is u, or a known u -/
def Rd (H : Hp) (a : Addr) (u : HO) : Prop := H a = some u ∨ ∃ o, H a = some (.frz o u)
theorem Rd.ok {P : Program} {w : World} {H : Hp} {h : Heap} {a : Addr} {u : HO} (r : Rd H a u) (x : HOk P w H h) : ObjOk P w H h a u := by
  rcases r with r | ⟨o, r⟩
  · exact x a u r
  · obtain ⟨_, q⟩ := x a _ r
    exact q
/-- what may be written -/
def Mut : Option HO → Prop
  | some (.lst _) => True
  | some (.dK _) => True
  | some (.dT _) => True
  | some (.set _ _) => True
  | some (.ins _ _ _) => True
  | some (.ext _) => True
  | _ => False
section
variable {P : Program} {w : World} {H : Hp} {h h' : Heap} {x e : Addr} {o' : HO}
/-- the object at e is changed: x itself, or the dict of the instance x -/
theorem HOk.write (ok : HOk P w H h) (mu : Mut (H x)) (he : e = x ∨ H e = some (.own x)) (k : ∀ b u, b ≠ e → h.get? b = some u → h'.get? b = some u) (heo : ∃ u, h'.get? e = some u)
    (new : ObjOk P w (upd H x o') h' x o') : HOk P w (upd H x o') h' := fun b u q => by
  have nown : ∀ c y, H c = some (.own y) → c ≠ x := fun c y r z => by subst z; rw [r] at mu; exact mu
  have ntup : ∀ c xs, H c = some (.tup xs) → c ≠ x := fun c xs r z => by subst z; rw [r] at mu; exact mu
  by_cases hb : b = x
  · subst hb; rw [upd_same] at q; cases q; exact new
  · rw [upd_ne hb] at q
    by_cases hbe : b = e
    · have q' : H b = some (.own x) := by
        rcases he with z | z
        · exact absurd (hbe.trans z) hb
        · rw [hbe]; exact z
      rw [q] at q'; cases q'
      obtain ⟨v, hv⟩ := heo
      exact ⟨v, by rw [hbe]; exact hv⟩
    · refine (ok b u q).stay (fun c v hc r => k c v ?_ r) (fun c r => by rw [upd_ne (nown c b r)]; exact r) fun c xs r => by rw [upd_ne (ntup c xs r)]; exact r
      rcases hc with rfl | hc
      · exact hbe
      · rintro rfl
        rcases he with z | z
        · exact nown c b hc z
        · rw [hc] at z; cases z; exact hb rfl
end

/-! ### kept unless tracked; of the frames at fs (the callers') the slots may change (an exception that passes writes there); of the records at ex (iterators) nothing is said -/
structure Un (fs ex : List Addr) (H H' : Hp) (h h' : Heap) : Prop where
  keep : ∀ b o, h.get? b = some o → H b = none → b ∉ fs → b ∉ ex → h'.get? b = some o
  slot : ∀ b o, h.get? b = some o → H b = none → b ∈ fs → b ∉ ex → ∃ sl, h'.get? b = some { o with slots := sl }
  free : ∀ b o, h.get? b = some o → H b = none → b ∉ ex → H' b = none
  there : ∀ b o, h.get? b = some o → b ∉ ex → ∃ o', h'.get? b = some o'
  tups : ∀ b xs, H b = some (.tup xs) → H' b = some (.tup xs)
  frzs : ∀ b o u, H b = some (.frz o u) → H' b = some (.frz o u)
  tbls : ∀ b ps, H b = some (.tbl ps) → ∃ more, H' b = some (.tbl (ps ++ more))
section
variable {fs fs' ex ex' : List Addr} {H H1 H2 : Hp} {h h1 h2 h' : Heap} {a x e : Addr} {o : HO}
theorem Un.any (u : Un fs ex H H1 h h1) {b : Addr} {ob : Obj} (q : h.get? b = some ob) (n : H b = none) (hx : b ∉ ex) : ∃ sl, h1.get? b = some { ob with slots := sl } := by
  by_cases hb : b ∈ fs
  · exact u.slot b ob q n hb hx
  · exact ⟨ob.slots, u.keep b ob q n hb hx⟩
theorem Un.kept (k : ∀ b u, h.get? b = some u → h'.get? b = some u) : Un fs ex H H h h' :=
  ⟨fun b ob q _ _ _ => k b ob q, fun b ob q _ _ _ => ⟨ob.slots, k b ob q⟩, fun _ _ _ n _ => n, fun b ob q _ => ⟨ob, k b ob q⟩, fun _ _ q => q, fun _ _ _ q => q, fun _ ps q => ⟨#[], by rw [q]; simp⟩⟩
theorem Un.refl : Un fs ex H H h h := Un.kept fun _ _ q => q
theorem Un.laid (k : ∀ b u, h.get? b = some u → h'.get? b = some u) (hp : h.objs.size ≤ a) (hn : H a = none) : Un fs ex H (upd H a o) h h' where
  keep := fun b u q _ _ _ => k b u q
  slot := fun b u q _ _ _ => ⟨u.slots, k b u q⟩
  free := fun b u q n _ => by rw [upd_ne (Nat.ne_of_lt (Nat.lt_of_lt_of_le (Heap.lt_size q) hp))]; exact n
  there := fun b u q _ => ⟨u, k b u q⟩
  tups := fun b xs q => by rw [upd_ne (ne_of_none q hn)]; exact q
  frzs := fun b u xs q => by rw [upd_ne (ne_of_none q hn)]; exact q
  tbls := fun b ps q => ⟨#[], by rw [upd_ne (ne_of_none q hn), q]; simp⟩
theorem Un.write (mu : Mut (H x)) (he : e = x ∨ H e = some (.own x)) (k : ∀ b u, b ≠ e → h.get? b = some u → h'.get? b = some u) (heo : ∃ u, h'.get? e = some u) : Un fs ex H (upd H x o) h h' := by
  have hx : ∀ b, H b = none → b ≠ x := fun b n z => by subst z; rw [n] at mu; exact mu
  have hb : ∀ b, H b = none → b ≠ e := fun b n z => by
    subst z
    rcases he with r | r
    · exact hx b n r
    · rw [n] at r; cases r
  have hm : ∀ b u, H b = some u → ¬ Mut (some u) → b ≠ x := fun b u q nm z => by subst z; rw [q] at mu; exact nm mu
  refine ⟨fun b u q n _ _ => k b u (hb b n) q, fun b u q n _ _ => ⟨u.slots, k b u (hb b n) q⟩, fun b u q n _ => by rw [upd_ne (hx b n)]; exact n, fun b u q _ => ?_,
    fun b xs q => by rw [upd_ne (hm b _ q fun z => z)]; exact q, fun b u xs q => by rw [upd_ne (hm b _ q fun z => z)]; exact q, fun b ps q => ⟨#[], by rw [upd_ne (hm b _ q fun z => z), q]; simp⟩⟩
  by_cases hbe : b = e
  · subst hbe; exact heo
  · exact ⟨u, k b u hbe q⟩
end

/-! ### the heap without what is tracked -/
def trk (h : Heap) (H : Hp) : List Addr := (List.range h.objs.size).filter fun a => (H a).isSome
def hidT (h : Heap) (H : Hp) : Heap := PySem.W.hideAll h (trk h H)
theorem hidT_size (h : Heap) (H : Hp) : (hidT h H).objs.size = h.objs.size := PySem.W.hideAll_size _ _
theorem hidT_get {h : Heap} {H : Hp} {b : Addr} {o : Obj} (e : h.get? b = some o) (n : H b = none) : (hidT h H).get? b = some o :=
  PySem.W.hideAll_get _ e fun hm => by
    have q : (H b).isSome = true := (List.mem_filter.mp hm).2
    rw [n] at q; simp at q
theorem of_hidT {h : Heap} {H : Hp} {b : Addr} {o : Obj} (e : (hidT h H).get? b = some o) : h.get? b = some o ∧ H b = none := by
  have e' : h.get? b = some o := PySem.W.of_hideAll (trk h H) e
  refine ⟨e', ?_⟩
  cases q : H b with
  | none => rfl
  | some x =>
    have hm : b ∈ trk h H := List.mem_filter.mpr ⟨List.mem_range.mpr (Heap.lt_size e'), by simp [q]⟩
    have z : (hidT h H).get? b = none := PySem.W.hideAll_none (trk h H) hm
    rw [z] at e; cases e

/-! ### OpenK's ledger, filled with every new object but one -/
def allNews (g h : Heap) (L : Addr) : List (Addr × Obj) := (List.range h.objs.size).filterMap fun a => if a = L ∨ (g.get? a).isSome = true then none else (h.get? a).map fun o => (a, o)
theorem mem_allNews {g h : Heap} {L a : Addr} {o : Obj} (h1 : a ≠ L) (h2 : g.get? a = none) (h3 : h.get? a = some o) : (a, o) ∈ allNews g h L :=
  List.mem_filterMap.mpr ⟨a, List.mem_range.mpr (Heap.lt_size h3), by simp [h1, h2, h3]⟩
theorem of_mem_allNews {g h : Heap} {L : Addr} {p : Addr × Obj} (hp : p ∈ allNews g h L) : p.1 ≠ L ∧ g.get? p.1 = none ∧ h.get? p.1 = some p.2 := by
  obtain ⟨b, _, e⟩ := List.mem_filterMap.mp hp
  split at e
  · cases e
  · rename_i hn
    cases q : h.get? b with
    | none => rw [q] at e; simp at e
    | some u =>
      rw [q] at e
      simp only [Option.map_some, Option.some.injEq] at e
      subst e
      refine ⟨fun z => hn (.inl z), ?_, q⟩
      show g.get? b = none
      cases r : g.get? b with
      | none => rfl
      | some v => exact (hn (.inr (by simp [r]))).elim
theorem news_all {g h : Heap} {L : Addr} : News g L h (allNews g h L) := fun p hp => let ⟨a, b, c⟩ := of_mem_allNews hp; ⟨c, a, b⟩
end L2

namespace L2
open PySem PySem.Spec PyProof.Rows

/-- the module's facts, over the base: the heap at the law's entry without what is tracked there -/
structure Mod (K : PySem.W.Frag) (mg : Str → Option Value) (base : Heap) : Prop where
  kin : K.In base
  glob : base.Ns mainGlobals mg
  blt : ∃ mb, base.Ns builtinsNs mb ∧ ∀ x : Str, x ≠ "__name__" → mb x = bootBuiltins x
  nolimit : base.NoLimit

/-- the context: a def's body (or a comprehension's block) running. base: fixed through the whole law; s₀, H₀: the entry; outer: the frames whose slots others may change (a def's callers); stack: all frames that run;
   ex: iterators that were made ahead of the entry and are walked here (a comprehension's); fn: the names whose cells were made at the entry (a def: all; a comprehension's block: its own); calm: not within an except suite; pn: pins that every state bears; xe: what is wanted of an exception that leaves the code -/
structure Cx where
  prog : Program
  w : World
  K : PySem.W.Frag
  mg : Str → Option Value
  base : Heap
  A : Around
  N : List Str
  s₀ : Shared
  H₀ : Hp
  env : Env
  outer : List Env
  stack : List Env
  ex : List Addr
  fn : Str → Bool
  calm : Bool
  pn : List (Addr × Obj)
  xe : Value → Shared → Prop
/-- the callers' frames -/
def frs (l : List Env) : List Addr := l.filterMap (·.frame)
abbrev Cx.fs (X : Cx) : List Addr := frs X.outer

def Vis (sc : Scope) (x : Str) : Prop := sc.names.lookup x = some .local ∨ sc.names.lookup x = some .cell ∨ sc.names.lookup x = some .free
def Loc (sc : Scope) (x : Str) : Prop := sc.names.lookup x = some .local ∨ sc.names.lookup x = some .cell
def Look (env : Env) (h : Heap) (m : Str → Option Value) (x : Str) (u : Value) : Prop :=
  (env.kindOf x = some .local ∧ m x = some u) ∨ ((env.kindOf x = some .cell ∨ env.kindOf x = some .free) ∧ ∃ c, env.cells.lookup x = some c ∧ h.IsCell c (some u))

structure Cx.Ok (X : Cx) : Prop where
  mod : Mod X.K X.mg X.base
  kind : X.env.scope.kind = .function
  glob : X.env.globals = mainGlobals
  blt : X.env.builtins = builtinsNs
  above : X.s₀.heap.objs.size ≤ X.env.locals
  inj : ∀ x y c, X.env.cells.lookup x = some c → X.env.cells.lookup y = some c → x = y
  has : ∀ x, (X.env.kindOf x = some .cell ∨ X.env.kindOf x = some .free) → ∃ c, X.env.cells.lookup x = some c
  cab : ∀ x c, X.fn x = true → X.env.cells.lookup x = some c → X.s₀.heap.objs.size ≤ c
  hd : X.calm = true → X.A.handled = none
  frames : X.A.frames = some X.stack
  stk : X.stack = X.outer ∨ (X.stack = X.env :: X.outer ∧ X.env.frame = some X.env.locals)
  exf : ∀ b ∈ X.ex, b ≠ X.env.locals ∧ ∀ x c, X.env.cells.lookup x = some c → c ≠ b
  bs : ∀ b o, X.base.get? b = some o → X.s₀.heap.get? b = some o ∧ X.H₀ b = none
  bsz : X.base.objs.size ≤ X.s₀.heap.objs.size
  noex : ∀ b o, X.base.get? b = some o → b ∉ X.ex
  exfs : ∀ b ∈ X.ex, b ∉ X.fs
  funs : X.s₀.heap.FunFrames X.base X.outer
  frf : ∀ b ∈ X.fs, X.H₀ b = none

structure Inv (X : Cx) (pins : List (Addr × Obj)) (σ : List (Option V)) (H : Hp) (s : Shared) : Prop where
  ok : X.Ok
  os : s.os = X.s₀.os
  bare : AllBare s.gens
  base : Un X.fs X.ex X.H₀ H X.s₀.heap s.heap
  loc : ∃ m, s.heap.Ns X.env.locals m ∧ ∀ (i : Nat) (x : Str) (v : V), X.N[i]? = some x → σ[i]? = some (some v) → Vis X.env.scope x → ∃ u, RelV v u ∧ Look X.env s.heap m x u
  cell : ∀ x c, X.env.cells.lookup x = some c → ∃ v, s.heap.IsCell c v
  free : H X.env.locals = none
  freeC : ∀ x c, X.env.cells.lookup x = some c → H c = none
  pin : ∀ p ∈ X.pn ++ pins, s.heap.get? p.1 = some p.2 ∧ H p.1 = none ∧ p.1 ≠ X.env.locals ∧ p.1 ∉ X.fs ∧ ∀ v, p.2.data ≠ .cell v
  hok : HOk X.prog X.w H s.heap
  len : σ.length = X.N.length

section
variable {X : Cx} {pins : List (Addr × Obj)} {σ : List (Option V)} {H H' : Hp} {s : Shared} {h' : Heap}

theorem Cx.Ok.nofr (ok : X.Ok) {b : Addr} {o : Obj} (e : X.base.get? b = some o) : b ∉ X.fs := fun hb => by
  have := (ok.funs.mem hb).1
  rw [e] at this; cases this
theorem Inv.bs (I : Inv X pins σ H s) : ∀ b o, X.base.get? b = some o → s.heap.get? b = some o ∧ H b = none := fun b o e =>
  ⟨I.base.keep b o (I.ok.bs b o e).1 (I.ok.bs b o e).2 (I.ok.nofr e) (I.ok.noex b o e), I.base.free b o (I.ok.bs b o e).1 (I.ok.bs b o e).2 (I.ok.noex b o e)⟩
theorem Inv.bk (I : Inv X pins σ H s) : ∀ b o, X.base.get? b = some o → s.heap.get? b = some o := fun b o e => (I.bs b o e).1
theorem Inv.mod (I : Inv X pins σ H s) : Mod X.K X.mg X.base := I.ok.mod
theorem Inv.kIn (I : Inv X pins σ H s) : X.K.In s.heap := I.ok.mod.kin.keeps I.bk
/-- the frame over the base: for OpenK's rules (K.In X.base is I.mod.kin) -/
theorem Inv.fr (I : Inv X pins σ H s) : ∃ m, Fr X.base X.env.locals s.heap m :=
  let ⟨m, hn, _⟩ := I.loc
  ⟨m, hn, I.bk, Nat.le_trans I.ok.bsz I.ok.above⟩
theorem Inv.lt (I : Inv X pins σ H s) : X.env.locals < s.heap.objs.size := let ⟨_, hn, _⟩ := I.loc; hn.lt
theorem Inv.sz (I : Inv X pins σ H s) : X.s₀.heap.objs.size ≤ s.heap.objs.size := Nat.le_trans I.ok.above (Nat.le_of_lt I.lt)
theorem Inv.nofs (I : Inv X pins σ H s) {a : Addr} (h : s.heap.objs.size ≤ a) : a ∉ X.fs := fun hb => by
  obtain ⟨_, o, ho, _⟩ := I.ok.funs.mem hb
  exact absurd (Nat.lt_of_lt_of_le (Heap.lt_size ho) (Nat.le_trans I.sz h)) (Nat.lt_irrefl _)
theorem Inv.cne (I : Inv X pins σ H s) : ∀ x c, X.env.cells.lookup x = some c → c ≠ X.env.locals := fun x c e z => by
  obtain ⟨v, o, ho, hd⟩ := I.cell x c e
  obtain ⟨m, ⟨o', es, ep, ho', hd', _⟩, _⟩ := I.loc
  rw [z, ho'] at ho; cases ho; rw [hd'] at hd; cases hd
theorem Inv.funs (I : Inv X pins σ H s) : s.heap.FunFrames X.base X.outer := by
  have all : ∀ (l : List Env), (∀ b ∈ frs l, b ∈ X.fs) → X.s₀.heap.FunFrames X.base l → s.heap.FunFrames X.base l := by
    intro l
    induction l with
    | nil => intro _ _; trivial
    | cons env r ih =>
      intro hs hl
      obtain ⟨hk, ⟨L, o, hf, hn, ho, hd⟩, hr⟩ := hl
      have hL : L ∈ X.fs := hs L (by unfold frs; rw [List.filterMap_cons, hf]; exact List.mem_cons_self)
      obtain ⟨sl, e⟩ := I.base.slot L o ho (I.ok.frf L hL) hL fun z => I.ok.exfs L z hL
      exact ⟨hk, ⟨L, _, hf, hn, e, hd⟩, ih (fun b hb => hs b (by unfold frs; rw [List.filterMap_cons, hf]; exact List.mem_cons_of_mem _ hb)) hr⟩
  exact all X.outer (fun _ hb => hb) I.ok.funs

/-- the frames that run, for a call -/
theorem Inv.stack (I : Inv X pins σ H s) : s.heap.FunFrames X.base X.stack := by
  rcases I.ok.stk with e | ⟨e, hf⟩
  · rw [e]; exact I.funs
  · rw [e]
    obtain ⟨m, hn, _⟩ := I.loc
    refine .cons (by rw [I.ok.kind]; decide) hf hn ?_ I.funs
    exact Heap.get?_none_of_le (Nat.le_trans I.ok.bsz I.ok.above)
theorem Inv.stkSub (I : Inv X pins σ H s) : ∀ b ∈ frs X.stack, b ∈ X.env.locals :: X.fs := fun b hb => by
  rcases I.ok.stk with e | ⟨e, hf⟩
  · rw [e] at hb; exact List.mem_cons_of_mem _ hb
  · rw [e] at hb
    unfold frs at hb
    rw [List.filterMap_cons, hf] at hb
    exact hb
theorem Inv.stkFree (I : Inv X pins σ H s) : ∀ b ∈ frs X.stack, H b = none := fun b hb => by
  rcases List.mem_cons.mp (I.stkSub b hb) with e | hb
  · rw [e]; exact I.free
  · obtain ⟨_, o, ho, _⟩ := I.ok.funs.mem hb
    exact I.base.free b o ho (I.ok.frf b hb) fun z => I.ok.exfs b z hb

/-- THE STEP: the untracked objects but the frame and the records at ch are kept (the callers' frames up to slots), the frame's map is kept, the new abstract heap is held -/
theorem Inv.step {g' : Array GenState} {t' : Nat} {d' : Drawn} {ch : List Addr} (I : Inv X pins σ H s)
    (hch : ∀ b ∈ ch, (b ∈ X.ex ∨ X.s₀.heap.objs.size ≤ b) ∧ b ≠ X.env.locals ∧ (∀ x c, X.env.cells.lookup x = some c → c ≠ b) ∧ ∀ p ∈ X.pn ++ pins, p.1 ≠ b)
    (keep : ∀ b o, b ≠ X.env.locals → b ∉ X.fs → b ∉ ch → s.heap.get? b = some o → H b = none → h'.get? b = some o)
    (slot : ∀ b o, b ≠ X.env.locals → b ∈ X.fs → b ∉ ch → s.heap.get? b = some o → H b = none → ∃ sl, h'.get? b = some { o with slots := sl }) (free : ∀ b o, b ∉ ch → s.heap.get? b = some o → H b = none → H' b = none)
    (there : ∀ b o, b ∉ ch → s.heap.get? b = some o → ∃ o', h'.get? b = some o')
    (tups : ∀ b xs, H b = some (.tup xs) → H' b = some (.tup xs)) (frzs : ∀ b o u, H b = some (.frz o u) → H' b = some (.frz o u)) (tbls : ∀ b ps, H b = some (.tbl ps) → ∃ more, H' b = some (.tbl (ps ++ more)))
    (ns : ∀ m, s.heap.Ns X.env.locals m → h'.Ns X.env.locals m) (hok : HOk X.prog X.w H' h') (hg : AllBare g') :
    Inv X pins σ H' { s with heap := h', gens := g', drawn := d', toks := t' } := by
  have neL : ∀ b o, X.s₀.heap.get? b = some o → b ≠ X.env.locals := fun b o e => Nat.ne_of_lt (Nat.lt_of_lt_of_le (Heap.lt_size e) I.ok.above)
  have neC : ∀ b o, X.s₀.heap.get? b = some o → b ∉ X.ex → b ∉ ch := fun b o e hx hb => by
    rcases (hch b hb).1 with z | z
    · exact hx z
    · exact absurd (Nat.lt_of_lt_of_le (Heap.lt_size e) z) (Nat.lt_irrefl _)
  have cellK : ∀ x c, X.env.cells.lookup x = some c → ∀ v, s.heap.IsCell c v → h'.IsCell c v := fun x c e v ⟨o, ho, hd⟩ => by
    have nch : c ∉ ch := fun z => (hch c z).2.2.1 x c e rfl
    by_cases hc : c ∈ X.fs
    · obtain ⟨sl, q⟩ := slot c o (I.cne x c e) hc nch ho (I.freeC x c e)
      exact ⟨_, q, hd⟩
    · exact ⟨o, keep c o (I.cne x c e) hc nch ho (I.freeC x c e), hd⟩
  refine ⟨I.ok, I.os, hg, ⟨fun b o e n hb hx => ?_, fun b o e n hb hx => ?_, fun b o e n hx => ?_, fun b o e hx => ?_, fun b xs e => tups b xs (I.base.tups b xs e), fun b o xs e => frzs b o xs (I.base.frzs b o xs e), fun b ps e => ?_⟩, ?_, fun x c e => ?_, ?_, fun x c e => ?_, fun p hp => ?_, hok, I.len⟩
  · exact keep b o (neL b o e) hb (neC b o e hx) (I.base.keep b o e n hb hx) (I.base.free b o e n hx)
  · obtain ⟨sl, e1⟩ := I.base.slot b o e n hb hx
    obtain ⟨sl', e2⟩ := slot b _ (neL b o e) hb (neC b o e hx) e1 (I.base.free b o e n hx)
    exact ⟨sl', e2⟩
  · obtain ⟨o', e1⟩ := I.base.there b o e hx
    exact free b o' (neC b o e hx) e1 (I.base.free b o e n hx)
  · obtain ⟨o', e1⟩ := I.base.there b o e hx
    exact there b o' (neC b o e hx) e1
  · obtain ⟨m1, e1⟩ := I.base.tbls b ps e
    obtain ⟨m2, e2⟩ := tbls b _ e1
    exact ⟨m1 ++ m2, by rw [e2, Array.append_assoc]⟩
  · obtain ⟨m, hn, hl⟩ := I.loc
    refine ⟨m, ns m hn, fun i x v e1 e2 e3 => ?_⟩
    obtain ⟨u, r, l⟩ := hl i x v e1 e2 e3
    refine ⟨u, r, ?_⟩
    rcases l with l | ⟨k, c, e, z⟩
    · exact .inl l
    · exact .inr ⟨k, c, e, cellK x c e _ z⟩
  · obtain ⟨v, z⟩ := I.cell x c e
    exact ⟨v, cellK x c e v z⟩
  · obtain ⟨m, ⟨o, _, _, ho, _⟩, _⟩ := I.loc
    exact free _ o (fun z => (hch _ z).2.1 rfl) ho I.free
  · obtain ⟨v, o, ho, hd⟩ := I.cell x c e
    exact free c o (fun z => (hch c z).2.2.1 x c e rfl) ho (I.freeC x c e)
  · obtain ⟨e, n, ne, nf, d⟩ := I.pin p hp
    have nch : p.1 ∉ ch := fun z => (hch p.1 z).2.2.2 p hp rfl
    exact ⟨keep p.1 p.2 ne nf nch e n, free p.1 p.2 nch e n, ne, nf, d⟩
/-- .. where the frame's own object is kept too -/
theorem Inv.un {t' : Nat} (I : Inv X pins σ H s) (u : Un X.fs [] H H' s.heap h') (hok : HOk X.prog X.w H' h') : Inv X pins σ H' { s with heap := h', toks := t' } := by
  obtain ⟨m, ⟨o, es, ep, ho, r⟩, _⟩ := id I.loc
  obtain ⟨sl, hL⟩ := u.any ho I.free (by simp)
  exact I.step (g' := s.gens) (d' := s.drawn) (ch := []) (fun _ z => nomatch z) (fun b o _ hb _ e n => u.keep b o e n hb (by simp)) (fun b o _ hb _ e n => u.slot b o e n hb (by simp)) (fun b o _ e n => u.free b o e n (by simp)) (fun b o _ e => u.there b o e (by simp)) u.tups u.frzs u.tbls (fun m' hm => by
    obtain ⟨o', es', ep', ho', r'⟩ := hm
    rw [ho] at ho'; cases ho'
    exact ⟨_, es', ep', hL, r'⟩) hok I.bare
/-- behind a call (or a comprehension's block): the slots of this frame may have changed too, the records at ch may have turned -/
theorem Inv.call {g' : Array GenState} {t' : Nat} {d' : Drawn} {ch : List Addr} (I : Inv X pins σ H s) (u : Un (frs X.stack) ch H H' s.heap h') (hok : HOk X.prog X.w H' h') (hg : AllBare g')
    (hch : ∀ b ∈ ch, (b ∈ X.ex ∨ X.s₀.heap.objs.size ≤ b) ∧ b ≠ X.env.locals ∧ (∀ x c, X.env.cells.lookup x = some c → c ≠ b) ∧ ∀ p ∈ X.pn ++ pins, p.1 ≠ b) :
    Inv X pins σ H' { s with heap := h', gens := g', drawn := d', toks := t' } := by
  obtain ⟨m, ⟨o, es, ep, ho, r⟩, _⟩ := id I.loc
  obtain ⟨sl, hL⟩ := u.any ho I.free fun z => (hch _ z).2.1 rfl
  exact I.step (ch := ch) hch (fun b o hL hb hc e n => u.keep b o e n (fun z => (List.mem_cons.mp (I.stkSub b z)).elim hL hb) hc) (fun b o _ _ hc e n => u.any e n hc) (fun b o hc e n => u.free b o e n hc) (fun b o hc e => u.there b o e hc) u.tups u.frzs u.tbls (fun m' hm => by
    obtain ⟨o', es', ep', ho', r'⟩ := hm
    rw [ho] at ho'; cases ho'
    exact ⟨_, es', ep', hL, r'⟩) hok hg
/-- an untracked record of ours (an iterator) has turned -/
theorem Inv.turned {t' : Nat} {it : Addr} (I : Inv X pins σ H s) (k : ∀ b o, b ≠ it → s.heap.get? b = some o → h'.get? b = some o) (hn : H it = none) (hL : it ≠ X.env.locals)
    (h1 : it ∈ X.ex ∨ X.s₀.heap.objs.size ≤ it) (h2 : ∀ x c, X.env.cells.lookup x = some c → c ≠ it) (h3 : ∀ p ∈ X.pn ++ pins, p.1 ≠ it) : Inv X pins σ H { s with heap := h', toks := t' } := by
  have nit : ∀ b u, H b = some u → b ≠ it := fun b u e z => by rw [z, hn] at e; cases e
  refine I.step (g' := s.gens) (d' := s.drawn) (ch := [it]) (fun b hb => ?_) (fun b o _ _ hc e _ => k b o (fun z => hc (by simp [z])) e) (fun b o _ _ hc e _ => ⟨o.slots, k b o (fun z => hc (by simp [z])) e⟩) (fun _ _ _ _ n => n)
    (fun b o hc e => ⟨o, k b o (fun z => hc (by simp [z])) e⟩) (fun _ _ e => e) (fun _ _ _ e => e) (fun b ps e => ⟨#[], by rw [e]; simp⟩) (fun m hm => ?_) (fun b u e => ?_) I.bare
  · have e : b = it := by simpa using hb
    subst e
    exact ⟨h1, hL, h2, h3⟩
  · obtain ⟨o, es, ep, ho, r⟩ := hm
    exact ⟨o, es, ep, k _ o (Ne.symm hL) ho, r⟩
  · refine (I.hok b u e).stay (fun c v hc q => k c v ?_ q) (fun _ q => q) fun _ _ q => q
    rcases hc with z | z
    · rw [z]; exact nit b u e
    · exact nit c _ z
theorem Inv.tok (I : Inv X pins σ H s) (t : Nat) : Inv X pins σ H { s with toks := t } := I.un (h' := s.heap) (t' := t) Un.refl I.hok
/-- all objects kept -/
theorem Inv.kept {t' : Nat} (I : Inv X pins σ H s) (k : ∀ b u, s.heap.get? b = some u → h'.get? b = some u) : Inv X pins σ H { s with heap := h', toks := t' } := I.un (Un.kept k) (I.hok.kept k)
/-- a new object laid and tracked -/
theorem Inv.laid {a : Addr} {o : HO} {t' : Nat} (I : Inv X pins σ H s) (k : ∀ b u, s.heap.get? b = some u → h'.get? b = some u) (hp : s.heap.objs.size ≤ a) (new : ObjOk X.prog X.w (upd H a o) h' a o) :
    Inv X pins σ (upd H a o) { s with heap := h', toks := t' } := I.un (Un.laid k hp (I.hok.fresh hp)) (I.hok.laid k hp new)
/-- an object written -/
theorem Inv.write {x e : Addr} {o : HO} {t' : Nat} (I : Inv X pins σ H s) (mu : Mut (H x)) (he : e = x ∨ H e = some (.own x)) (k : ∀ b u, b ≠ e → s.heap.get? b = some u → h'.get? b = some u) (heo : ∃ u, h'.get? e = some u)
    (new : ObjOk X.prog X.w (upd H x o) h' x o) : Inv X pins σ (upd H x o) { s with heap := h', toks := t' } := I.un (Un.write mu he k heo) (I.hok.write mu he k heo new)
theorem Inv.pins_of {pins' : List (Addr × Obj)} (I : Inv X pins σ H s) (h : ∀ p ∈ pins', s.heap.get? p.1 = some p.2 ∧ H p.1 = none ∧ p.1 ≠ X.env.locals ∧ p.1 ∉ X.fs ∧ ∀ v, p.2.data ≠ .cell v) : Inv X pins' σ H s :=
  ⟨I.ok, I.os, I.bare, I.base, I.loc, I.cell, I.free, I.freeC, fun p hp => (List.mem_append.mp hp).elim (fun z => I.pin p (List.mem_append_left _ z)) (h p), I.hok, I.len⟩

theorem nodup_ix {N : List Str} (hN : N.Nodup) {i j : Nat} {x : Str} (a : N[i]? = some x) (b : N[j]? = some x) : i = j := by
  obtain ⟨h1, e1⟩ := List.getElem?_eq_some_iff.mp a
  obtain ⟨h2, e2⟩ := List.getElem?_eq_some_iff.mp b
  exact (List.getElem_inj hN).mp (e1.trans e2.symm)

/-- a name is stored; what changed -/
theorem store_ok2 {M : Model} {A : Around} {E : Value → Shared → Prop} {i : Nat} {x : Str} {v : V} {u : Value} {Q : Unit → Shared → Prop} (I : Inv X pins σ H s) (hN : X.N.Nodup) (hi : X.N[i]? = some x) (hx : Loc X.env.scope x) (r : RelV v u)
    (h : ∀ s', Inv X pins (σ.set i (some v)) H s' → (∃ a, Heap.SameBut a s.heap s'.heap ∧ (a = X.env.locals ∨ X.env.cells.lookup x = some a)) → Q () s') (hf : X.fn x = true ∨ X.env.scope.names.lookup x = some .local := by first | exact .inl rfl | exact .inr rfl | assumption) : wpAny M A (storeName X.env x u) Q E s := by
  obtain ⟨m, hn, hl⟩ := id I.loc
  have hcls : (X.env.scope.kind == .class || (X.env.scope.kind == .module && X.env.locals != X.env.globals)) = false := by rw [I.ok.kind]; rfl
  have hiσ : i < σ.length := by rw [I.len]; exact (List.getElem?_eq_some_iff.mp hi).1
  have cne := I.cne
  have tracked : ∀ {a : Addr} {h' : Heap}, (∃ o, s.heap.get? a = some o ∧ H a = none) → Heap.SameBut a s.heap h' → HOk X.prog X.w H h' := fun {a h'} ha hs b ob e => by
    obtain ⟨_, _, hfree⟩ := ha
    refine (I.hok b ob e).stay (fun c w' hc q => (hs.2 c ?_).trans q) (fun _ q => q) fun _ _ q => q
    rintro rfl
    rcases hc with rfl | hc
    · rw [hfree] at e; cases e
    · rw [hfree] at hc; cases hc
  rcases hx with hk | hk
  · refine wpAny_storeName_local hk hn (fun h' hn' hs => ?_) hcls
    obtain ⟨oL, _, _, hoL, _⟩ := id hn
    refine h _ ⟨I.ok, I.os, I.bare, ⟨fun b o e n hb hx => ?_, fun b o e n hb hx => ?_, I.base.free, fun b o e hx => ?_, I.base.tups, I.base.frzs, I.base.tbls⟩, ⟨_, hn', fun j y v' e1 e2 e3 => ?_⟩, fun y c e => ?_, I.free, I.freeC, fun p hp => ?_, tracked ⟨oL, hoL, I.free⟩ hs, by simpa using I.len⟩ ⟨_, hs, .inl rfl⟩
    · exact (hs.2 b (Nat.ne_of_lt (Nat.lt_of_lt_of_le (Heap.lt_size e) I.ok.above))).trans (I.base.keep b o e n hb hx)
    · obtain ⟨sl, e1⟩ := I.base.slot b o e n hb hx
      exact ⟨sl, (hs.2 b (Nat.ne_of_lt (Nat.lt_of_lt_of_le (Heap.lt_size e) I.ok.above))).trans e1⟩
    · obtain ⟨o', e1⟩ := I.base.there b o e hx
      exact ⟨o', (hs.2 b (Nat.ne_of_lt (Nat.lt_of_lt_of_le (Heap.lt_size e) I.ok.above))).trans e1⟩
    · by_cases hj : j = i
      · subst hj
        rw [hi] at e1; cases e1
        rw [List.getElem?_set_self hiσ] at e2
        cases e2
        exact ⟨u, r, .inl ⟨hk, by simp⟩⟩
      · rw [List.getElem?_set_ne (Ne.symm hj)] at e2
        obtain ⟨u', r', q⟩ := hl j y v' e1 e2 e3
        refine ⟨u', r', ?_⟩
        rcases q with ⟨k, e⟩ | ⟨k, c, e, z⟩
        · refine .inl ⟨k, ?_⟩
          have : y ≠ x := fun e => hj (nodup_ix hN e1 (e ▸ hi))
          simp [this, e]
        · exact .inr ⟨k, c, e, z.sameBut hs (cne y c e)⟩
    · obtain ⟨w', z⟩ := I.cell y c e
      exact ⟨w', z.sameBut hs (cne y c e)⟩
    · obtain ⟨e, n, ne, nf, d⟩ := I.pin p hp
      exact ⟨(hs.2 p.1 ne).trans e, n, ne, nf, d⟩
  · have hfn : X.fn x = true := by
      rcases hf with z | z
      · exact z
      · rw [z] at hk; cases hk
    obtain ⟨c, hc⟩ := I.ok.has x (.inl hk)
    obtain ⟨w', z⟩ := I.cell x c hc
    refine wpAny_storeName_cell I.ok.kind hk hc z (fun h' hc' hs => ?_)
    obtain ⟨oc, hoc, hocd⟩ := id z
    refine h { s with heap := h' } ⟨I.ok, I.os, I.bare, ⟨fun b o e n hb hx => ?_, fun b o e n hb hx => ?_, I.base.free, fun b o e hx => ?_, I.base.tups, I.base.frzs, I.base.tbls⟩, ⟨m, hn.sameBut hs (Ne.symm (cne x c hc)), fun j y v' e1 e2 e3 => ?_⟩, fun y c' e => ?_, I.free, I.freeC, fun p hp => ?_, tracked ⟨oc, hoc, I.freeC x c hc⟩ hs, by simpa using I.len⟩ ⟨c, hs, .inr hc⟩
    · exact (hs.2 b (Nat.ne_of_lt (Nat.lt_of_lt_of_le (Heap.lt_size e) (I.ok.cab x c hfn hc)))).trans (I.base.keep b o e n hb hx)
    · obtain ⟨sl, e1⟩ := I.base.slot b o e n hb hx
      exact ⟨sl, (hs.2 b (Nat.ne_of_lt (Nat.lt_of_lt_of_le (Heap.lt_size e) (I.ok.cab x c hfn hc)))).trans e1⟩
    · obtain ⟨o', e1⟩ := I.base.there b o e hx
      exact ⟨o', (hs.2 b (Nat.ne_of_lt (Nat.lt_of_lt_of_le (Heap.lt_size e) (I.ok.cab x c hfn hc)))).trans e1⟩
    · by_cases hj : j = i
      · subst hj
        rw [hi] at e1; cases e1
        rw [List.getElem?_set_self hiσ] at e2
        cases e2
        exact ⟨u, r, .inr ⟨.inl hk, c, hc, hc'⟩⟩
      · rw [List.getElem?_set_ne (Ne.symm hj)] at e2
        obtain ⟨u', r', q⟩ := hl j y v' e1 e2 e3
        refine ⟨u', r', ?_⟩
        rcases q with q | ⟨k, c', e, z'⟩
        · exact .inl q
        · refine .inr ⟨k, c', e, z'.sameBut hs ?_⟩
          rintro rfl
          exact hj (nodup_ix hN e1 (I.ok.inj _ _ _ e hc ▸ hi))
    · by_cases hcc : c' = c
      · subst hcc; exact ⟨_, hc'⟩
      · obtain ⟨w2, z2⟩ := I.cell y c' e
        exact ⟨w2, z2.sameBut hs hcc⟩
    · obtain ⟨e, n, ne, nf, d⟩ := I.pin p hp
      refine ⟨(hs.2 p.1 ?_).trans e, n, ne, nf, d⟩
      intro q
      rw [q, hoc] at e
      have q' : oc = p.2 := Option.some.inj e
      exact d w' (by rw [← q']; exact hocd)
theorem store_ok {M : Model} {A : Around} {E : Value → Shared → Prop} {i : Nat} {x : Str} {v : V} {u : Value} {Q : Unit → Shared → Prop} (I : Inv X pins σ H s) (hN : X.N.Nodup) (hi : X.N[i]? = some x) (hx : Loc X.env.scope x) (r : RelV v u)
    (h : ∀ s', Inv X pins (σ.set i (some v)) H s' → Q () s') (hf : X.fn x = true ∨ X.env.scope.names.lookup x = some .local := by first | exact .inl rfl | exact .inr rfl | assumption) : wpAny M A (storeName X.env x u) Q E s :=
  store_ok2 I hN hi hx r (fun s' I' _ => h s' I') hf
/-- behind a call or a block, the state as it is -/
theorem Inv.call' {s' : Shared} {ch : List Addr} (I : Inv X pins σ H s) (ho : s'.os = s.os) (u : Un (frs X.stack) ch H H' s.heap s'.heap) (hok : HOk X.prog X.w H' s'.heap) (hg : AllBare s'.gens)
    (hch : ∀ b ∈ ch, (b ∈ X.ex ∨ X.s₀.heap.objs.size ≤ b) ∧ b ≠ X.env.locals ∧ (∀ x c, X.env.cells.lookup x = some c → c ≠ b) ∧ ∀ p ∈ X.pn ++ pins, p.1 ≠ b) : Inv X pins σ H' s' := by
  obtain ⟨h', g', d', t', o'⟩ := s'
  have e : o' = s.os := ho
  subst e
  exact I.call (g' := g') (t' := t') (d' := d') u hok hg hch
end

/-! ### the judgements -/
/-- an exception: its class, its own dict's address (where it has one), the abstract heap behind it -/
abbrev XK := Value → Option Addr → Hp → Prop
abbrev St := List (Option V)
abbrev VK := V → Hp → Prop
/-- an expression's reading; a test's; an argument list's -/
abbrev TE := St → Hp → VK → Prop
abbrev TT := St → Hp → (Bool → Hp → Prop) → Prop
abbrev TA := St → Hp → (List V → Hp → Prop) → Prop
/-- what is wanted behind a statement -/
structure Ends where
  nx : St → Hp → Prop
  rt : VK
  bk : St → Hp → Prop := fun _ _ => False
  ct : St → Hp → Prop := fun _ _ => False
abbrev TS := Ends → St → Hp → Prop

def EP (X : Cx) (pins : List (Addr × Obj)) (σ : St) (Q : VK) (u : Value) (s' : Shared) : Prop := ∃ v H', Inv X pins σ H' s' ∧ RelV v u ∧ Q v H'
def TP (X : Cx) (pins : List (Addr × Obj)) (σ : St) (Q : Bool → Hp → Prop) (b : Bool) (s' : Shared) : Prop := ∃ H', Inv X pins σ H' s' ∧ Q b H'
def AP (X : Cx) (pins : List (Addr × Obj)) (σ : St) (Q : List V → Hp → Prop) (us : List Value) (s' : Shared) : Prop := ∃ vs H', Inv X pins σ H' s' ∧ Vals vs us ∧ Q vs H'
def SP (X : Cx) (pins : List (Addr × Obj)) (D : Ends) (f : Flow) (s' : Shared) : Prop :=
  match f with
  | .next => ∃ σ' H', Inv X pins σ' H' s' ∧ D.nx σ' H'
  | .brk => ∃ σ' H', Inv X pins σ' H' s' ∧ D.bk σ' H'
  | .cont => ∃ σ' H', Inv X pins σ' H' s' ∧ D.ct σ' H'
  | .ret u => ∃ v σ' H', Inv X pins σ' H' s' ∧ RelV v u ∧ D.rt v H'

def PE (X : Cx) (e : Expr) (t : TE) : Prop :=
  ∀ (pins : List (Addr × Obj)) (s : Shared) (σ : St) (H : Hp) (Q : VK), Inv X pins σ H s → t σ H Q → wpAny (model X.prog X.w) X.A (eval e X.env) (EP X pins σ Q) X.xe s
def PT (X : Cx) (e : Expr) (t : TT) : Prop :=
  ∀ (pins : List (Addr × Obj)) (s : Shared) (σ : St) (H : Hp) (Q : Bool → Hp → Prop), Inv X pins σ H s → t σ H Q → wpAny (model X.prog X.w) X.A (isTrue e X.env (eval e X.env)) (TP X pins σ Q) X.xe s
/-- a test whatever its 'whole' is (and, or) -/
def PW (X : Cx) (e : Expr) (t : TT) : Prop :=
  ∀ (whole : Sem Value) (pins : List (Addr × Obj)) (s : Shared) (σ : St) (H : Hp) (Q : Bool → Hp → Prop), Inv X pins σ H s → t σ H Q → wpAny (model X.prog X.w) X.A (isTrue e X.env whole) (TP X pins σ Q) X.xe s
theorem PW.pt {X : Cx} {e : Expr} {t : TT} (h : PW X e t) : PT X e t := h _
/-- an argument list (no star), from the left -/
def PA (X : Cx) (es : List Expr) (t : TA) : Prop :=
  ∀ (pos : Pos) (pins : List (Addr × Obj)) (s : Shared) (σ : St) (H : Hp) (Q : List V → Hp → Prop), Inv X pins σ H s → t σ H Q → wpAny (model X.prog X.w) X.A (spliced (backTo pos (starEach es X.env))) (AP X pins σ Q) X.xe s
def PS (X : Cx) (st : Stmt) (t : TS) : Prop :=
  ∀ (pins : List (Addr × Obj)) (s : Shared) (σ : St) (H : Hp) (D : Ends), Inv X pins σ H s → t D σ H → wpAny (model X.prog X.w) X.A (exec st X.env) (SP X pins D) X.xe s
def PSs (X : Cx) (st : List Stmt) (t : TS) : Prop :=
  ∀ (pins : List (Addr × Obj)) (s : Shared) (σ : St) (H : Hp) (D : Ends), Inv X pins σ H s → t D σ H → wpAny (model X.prog X.w) X.A (execs st X.env) (SP X pins D) X.xe s
/-- weaken the end -/
theorem thn {α : Type} {t : Sem α} {Q Q' : α → Shared → Prop} {M : Model} {A : Around} {E : Value → Shared → Prop} {s : Shared} (h : wpAny M A t Q E s) (hQ : ∀ a s, Q a s → Q' a s) : wpAny M A t Q' E s := wpAny_mono h hQ fun _ _ x => x
end L2

namespace L2
open PySem PySem.Spec PyProof.Rows
section
variable {X : Cx}

/-- two expressions in a row -/
theorem bin {a b : Expr} {ta tb : TE} (ha : PE X a ta) (hb : PE X b tb) {pins : List (Addr × Obj)} {s : Shared} {σ : St} {H : Hp} {R : V → V → Hp → Prop} (I : Inv X pins σ H s) (h : ta σ H fun x H1 => tb σ H1 fun y H2 => R x y H2)
    {α : Type} {Q : α → Shared → Prop} {f : Value → Value → Sem α}
    (hf : ∀ v u s2 x y H2, Inv X pins σ H2 s2 → RelV x v → RelV y u → R x y H2 → wpAny (model X.prog X.w) X.A (f v u) Q X.xe s2) :
    wpAny (model X.prog X.w) X.A (eval a X.env) (fun v s₁ => wpAny (model X.prog X.w) X.A (eval b X.env) (fun u s₂ => wpAny (model X.prog X.w) X.A (f v u) Q X.xe s₂) X.xe s₁) X.xe s := by
  refine thn (ha pins s σ H _ I h) fun v s1 ⟨x, H1, I1, r1, q1⟩ => ?_
  refine thn (hb pins s1 σ H1 _ I1 q1) fun u s2 ⟨y, H2, I2, r2, q2⟩ => ?_
  exact hf v u s2 x y H2 I2 r1 r2 q2

/-! ### names and constants -/
def tVar (i : Nat) : TE := fun σ H Q => ∃ v, σ[i]? = some (some v) ∧ Q v H
def tC (v : V) : TE := fun _ H Q => Q v H
theorem pe_var {i : Nat} {x : Str} {pos : Pos} (hN : X.N[i]? = some x) (hv : Vis X.env.scope x) (hd : (x == ("__debug__" : Str)) = false := by decide) (hcd : (x == ("__classdict__" : Str)) = false := by decide) : PE X (.Name x pos) (tVar i) := by
  intro pins s σ H Q I h
  obtain ⟨v, e, h⟩ := h
  obtain ⟨m, hn, hl⟩ := I.loc
  obtain ⟨u, r, l⟩ := hl i x v hN e hv
  have fin : EP X pins σ Q u s := ⟨v, H, I, r, h⟩
  rcases l with ⟨hk, hm⟩ | ⟨hk, c, hc, hcell⟩
  · exact wpAny_Name (wpAny_loadName_local I.ok.kind hk hn hm fin) hd
  · rcases hk with hk | hk
    · exact wpAny_Name (wpAny_loadName_cell I.ok.kind hk hc hcell fin) hd
    · exact wpAny_Name (wpAny_loadName_free I.ok.kind hk hc hcell fin hcd) hd
theorem pe_int {i j pos} : PE X (.Constant (.int i) j pos) (tC (.int i)) := fun _ _ _ H _ I h => wpAny_Constant_int ⟨.int i, H, I.tok _, ⟨_, rfl⟩, h⟩
theorem pe_bl {b j pos} : PE X (.Constant (.bool b) j pos) (tC (.bl b)) := fun _ _ _ H _ I h => Constant_bool ⟨.bl b, H, I, rfl, h⟩
theorem pe_non {j pos} : PE X (.Constant .none j pos) (tC .non) := fun _ _ _ H _ I h => Constant_none ⟨.non, H, I, rfl, h⟩
/-- a global name of the def -/
def Gl (X : Cx) (x : Str) : Prop := X.env.kindOf x = some .globalImplicit
theorem ld_glob {E : Value → Shared → Prop} {pins : List (Addr × Obj)} {s : Shared} {σ : St} {H : Hp} {x : Str} {u : Value} {pos : Pos} {Q : Value → Shared → Prop} (I : Inv X pins σ H s) (hg : Gl X x) (hm : X.mg x = some u) (h : Q u s)
    (hd : (x == ("__debug__" : Str)) = false := by decide) : wpAny (model X.prog X.w) X.A (eval (.Name x pos) X.env) Q E s :=
  Calls.Name_function_global I.ok.kind hg (Calls.loadGlobal_global (by rw [I.ok.glob]; exact I.mod.glob.keeps I.bk) hm h) hd
theorem ld_blt {E : Value → Shared → Prop} {pins : List (Addr × Obj)} {s : Shared} {σ : St} {H : Hp} {x : Str} {u : Value} {pos : Pos} {Q : Value → Shared → Prop} (I : Inv X pins σ H s) (hg : Gl X x) (hm : X.mg x = none) (hv : bootBuiltins x = some u) (h : Q u s)
    (hn : x ≠ "__name__" := by decide) (hd : (x == ("__debug__" : Str)) = false := by decide) : wpAny (model X.prog X.w) X.A (eval (.Name x pos) X.env) Q E s := by
  obtain ⟨mb, h1, h2⟩ := I.mod.blt
  exact Calls.Name_function_global I.ok.kind hg (Calls.loadGlobal_builtin (by rw [I.ok.glob]; exact I.mod.glob.keeps I.bk) hm (by rw [I.ok.blt]; exact h1.keeps I.bk) ((h2 x hn).trans hv) h) hd
/-- a module's constant, a class, a function, as a value -/
theorem pe_glob {x : Str} {v : V} {u : Value} {pos : Pos} (hg : Gl X x) (hm : X.mg x = some u) (r : RelV v u) (hd : (x == ("__debug__" : Str)) = false := by decide) : PE X (.Name x pos) (tC v) :=
  fun _ _ _ H _ I h => ld_glob I hg hm ⟨v, H, I, r, h⟩ hd
theorem pe_bltn {x : Str} {v : V} {u : Value} {pos : Pos} (hg : Gl X x) (hm : X.mg x = none) (hv : bootBuiltins x = some u) (r : RelV v u) (hn : x ≠ "__name__" := by decide) (hd : (x == ("__debug__" : Str)) = false := by decide) : PE X (.Name x pos) (tC v) :=
  fun _ _ _ H _ I h => ld_blt I hg hm hv ⟨v, H, I, r, h⟩ hn hd

/-! ### arithmetic -/
variable {a b : Expr} {ta tb : TE} {pos : Pos}
/-! ### comparisons -/
def PC (X : Cx) (op : CmpOp) (a b : Expr) (t : TE) : Prop :=
  ∀ (pins : List (Addr × Obj)) (s : Shared) (σ : St) (H : Hp) (Q : VK), Inv X pins σ H s → t σ H Q →
    wpAny (model X.prog X.w) X.A (eval a X.env) (fun v s₁ => wpAny (model X.prog X.w) X.A (eval b X.env) (fun u s₂ => wpAny (model X.prog X.w) X.A (compareOp op v u) (EP X pins σ Q) X.xe s₂) X.xe s₁) X.xe s
theorem nobehind (b : Expr) {op : CmpOp} (h : op ≠ .In) (h2 : op ≠ .NotIn) : behindInMarks op b = false := by
  have e1 : (op == CmpOp.In) = false := by cases op <;> first | rfl | exact absurd rfl h
  have e2 : (op == CmpOp.NotIn) = false := by cases op <;> first | rfl | exact absurd rfl h2
  cases b <;> simp [behindInMarks, e1, e2]
/-- is None -/
def tIsN (ta : TE) : TE := fun σ H Q => ta σ H fun x H1 => Q (.bl (decide (x = .non))) H1
def tNotN (ta : TE) : TE := fun σ H Q => ta σ H fun x H1 => Q (.bl (!decide (x = .non))) H1
theorem RelV.none_iff {x : V} {v : Value} (r : RelV x v) : (v == Value.none) = decide (x = .non) := by
  cases x with
  | non => cases r; rfl
  | bl _ => cases r; rfl
  | int _ => obtain ⟨t, rfl⟩ := r; rfl
  | str _ => obtain ⟨t, rfl⟩ := r; rfl
  | byt _ => obtain ⟨t, rfl⟩ := r; rfl
  | flt _ => obtain ⟨t, rfl⟩ := r; rfl
  | ref _ => cases r; rfl
  | ty _ => cases r; rfl
theorem pc_isN {j pos'} (ha : PE X a ta) : PC X .Is a (.Constant .none j pos') (tIsN ta) := by
  intro pins s σ H Q I h
  refine thn (ha pins s σ H _ I h) fun v s1 ⟨x, H1, I1, r1, q1⟩ => ?_
  exact Constant_none (is_none_gen ⟨.bl _, H1, I1, by rw [r1.none_iff]; rfl, q1⟩)
theorem pc_notN {j pos'} (ha : PE X a ta) : PC X .IsNot a (.Constant .none j pos') (tNotN ta) := by
  intro pins s σ H Q I h
  refine thn (ha pins s σ H _ I h) fun v s1 ⟨x, H1, I1, r1, q1⟩ => ?_
  exact Constant_none (isnot_none_gen ⟨.bl _, H1, I1, by rw [r1.none_iff]; rfl, q1⟩)
/-- a comparison as a value, as a test -/
def tB (t : TE) : TT := fun σ H Q => t σ H fun x H1 => ∃ c, x = .bl c ∧ Q c H1
theorem pt_cmp {op : CmpOp} {t : TE} (h : PC X op a b t) (h1 : behindInMarks op b = false := by first | exact nobehind _ (by decide) (by decide) | rfl) : PT X (.Compare a [op] [b] pos) (tB t) := by
  intro pins s σ H Q I hw
  refine wpAny_isTrue_Compare1 (thn (h pins s σ H _ I hw) fun v s1 h1 => thn h1 fun u s2 h2 => thn h2 fun c s3 ⟨x, H1, I1, r1, q1⟩ => ?_) h1
  obtain ⟨d, rfl, q⟩ := q1
  cases r1
  exact wpAny_truthy_bool ⟨H1, I1, q⟩
/-- an expression whose value is a bool, as a test -/
theorem pt_val {e : Expr} {t : TE} (h : PE X e t) (he : ∀ whole, isTrue e X.env whole = (do let v ← whole; standAt e.pos; holding [v] (truthy v)) := by intro _; rfl) : PT X e (tB t) := by
  intro pins s σ H Q I hw
  refine isTrue_plain (thn (h pins s σ H _ I hw) fun v s1 ⟨x, H1, I1, r1, q1⟩ => ?_) (he _)
  obtain ⟨d, rfl, q⟩ := q1
  cases r1
  exact wpAny_truthy_bool ⟨H1, I1, q⟩

/-! ### and, or, not -/
variable {tA tB' : TT} {rest : List Expr}
def tAnd (t u : TT) : TT := fun σ H Q => t σ H fun c H1 => if c = true then u σ H1 Q else Q false H1
def tOr (t u : TT) : TT := fun σ H Q => t σ H fun c H1 => if c = true then Q true H1 else u σ H1 Q
def tNot (t : TT) : TT := fun σ H Q => t σ H fun c H1 => Q (!c) H1
theorem pw_and1 (ha : PT X a tA) : PW X (.BoolOp .And [a] pos) tA := by
  intro wh pins s σ H Q I h
  refine isTrue_and (thn (ha pins s σ H Q I h) fun c s1 e => ?_)
  cases c with
  | true => exact isTrue_and_nil e
  | false => exact e
theorem pw_or1 (ha : PT X a tA) : PW X (.BoolOp .Or [a] pos) tA := by
  intro wh pins s σ H Q I h
  refine isTrue_or (thn (ha pins s σ H Q I h) fun c s1 e => ?_)
  cases c with
  | false => exact isTrue_or_nil e
  | true => exact e
theorem pw_and (ha : PT X a tA) (hb : PW X (.BoolOp .And (b :: rest) pos) tB') : PW X (.BoolOp .And (a :: b :: rest) pos) (tAnd tA tB') := by
  intro wh pins s σ H Q I h
  refine isTrue_and (thn (ha pins s σ H _ I h) fun c s1 ⟨H1, I1, q1⟩ => ?_)
  cases c with
  | true => exact hb wh pins s1 σ H1 Q I1 q1
  | false => exact ⟨H1, I1, q1⟩
theorem pw_or (ha : PT X a tA) (hb : PW X (.BoolOp .Or (b :: rest) pos) tB') : PW X (.BoolOp .Or (a :: b :: rest) pos) (tOr tA tB') := by
  intro wh pins s σ H Q I h
  refine isTrue_or (thn (ha pins s σ H _ I h) fun c s1 ⟨H1, I1, q1⟩ => ?_)
  cases c with
  | true => exact ⟨H1, I1, q1⟩
  | false => exact hb wh pins s1 σ H1 Q I1 q1
theorem pt_not (ha : PT X a tA) : PT X (.UnaryOp .Not a pos) (tNot tA) := by
  intro pins s σ H Q I h
  exact isTrue_not (ha pins s σ H (fun c H1 => Q (!c) H1) I h)
/-- .. as values (bools) -/
def tAndV (ta tb : TE) : TE := fun σ H Q => ta σ H fun x H1 => ∃ c, x = .bl c ∧ if c = true then tb σ H1 Q else Q (.bl false) H1
def tNotV (ta : TE) : TE := fun σ H Q => ta σ H fun x H1 => ∃ c, x = .bl c ∧ Q (.bl (!c)) H1
theorem pe_one {op} {t : TE} (h : PE X a t) : PE X (.BoolOp op [a] pos) t := fun pins s σ H Q I hw => BoolOp_one (h pins s σ H Q I hw)
theorem pe_and (ha : PE X a ta) (hb : PE X (.BoolOp .And (b :: rest) pos) tb) : PE X (.BoolOp .And (a :: b :: rest) pos) (tAndV ta tb) := by
  intro pins s σ H Q I h
  refine BoolOp_and (thn (ha pins s σ H _ I h) fun v s1 ⟨x, H1, I1, r1, q1⟩ => ?_)
  obtain ⟨c, rfl, q1⟩ := q1
  cases r1
  refine wpAny_truthy_bool ?_
  cases c with
  | true => exact hb pins s1 σ H1 Q I1 q1
  | false => exact ⟨.bl false, H1, I1, rfl, q1⟩
theorem pe_not (ha : PE X a ta) : PE X (.UnaryOp .Not a pos) (tNotV ta) := by
  intro pins s σ H Q I h
  refine UnaryOp_ (thn (ha pins s σ H _ I h) fun v s1 ⟨x, H1, I1, r1, q1⟩ => ?_)
  obtain ⟨c, rfl, q1⟩ := q1
  cases r1
  exact not_of (wpAny_truthy_bool ⟨.bl (!c), H1, I1, rfl, q1⟩)
end
end L2

namespace L2
open PySem PySem.Spec PyProof.Rows

/-! ### a list, a tuple that is read: tracked, frozen, or an object of the module -/
def SqL (K : PySem.W.Frag) (H : Hp) (a : Addr) (xs : List V) : Prop :=
  Rd H a (.lst xs) ∨
    ∃ (o : Obj) (its : Array Value) (n : Nat), K.lookup a = some o ∧ o.cls = .type "list" ∧ o.dict = none ∧ o.data = .seq its n ∧ its.size ≤ sizeLine ∧ Vals xs its.toList
def SqT (K : PySem.W.Frag) (H : Hp) (a : Addr) (xs : List V) : Prop :=
  Rd H a (.tup xs) ∨
    ∃ (o : Obj) (its : Array Value) (n : Nat), K.lookup a = some o ∧ o.cls = .type "tuple" ∧ o.data = .seq its n ∧ its.size ≤ sizeLine ∧ Vals xs its.toList
def absV : Value → Option V
  | .none => some .non
  | .bool b => some (.bl b)
  | .int i _ => some (.int i)
  | .str x _ => some (.str x)
  | .bytes b _ => some (.byt b)
  | .float b _ => some (.flt b)
  | .ref a => some (.ref a)
  | .type n => some (.ty n)
  | _ => none
theorem RelV.abs {x : V} {u : Value} (r : RelV x u) : absV u = some x := by
  cases x with
  | non => cases r; rfl
  | bl _ => cases r; rfl
  | int _ => obtain ⟨t, rfl⟩ := r; rfl
  | str _ => obtain ⟨t, rfl⟩ := r; rfl
  | byt _ => obtain ⟨t, rfl⟩ := r; rfl
  | flt _ => obtain ⟨t, rfl⟩ := r; rfl
  | ref _ => cases r; rfl
  | ty _ => cases r; rfl
theorem RelV.inj {x y : V} {u : Value} (r : RelV x u) (q : RelV y u) : x = y := Option.some.inj (r.abs.symm.trans q.abs)
theorem Vals.inj : ∀ {xs ys : List V} {us : List Value}, Vals xs us → Vals ys us → xs = ys
  | _, _, _, .nil, .nil => rfl
  | _, _, _, .cons r t, .cons r' t' => by rw [r.inj r', Vals.inj t t']
section
variable {X : Cx} {pins : List (Addr × Obj)} {σ : St} {H : Hp} {s : Shared} {a : Addr} {xs ys : List V}
theorem SqL.of {K : PySem.W.Frag} (h : H a = some (.lst xs)) : SqL K H a xs := .inl (.inl h)
theorem SqT.of {K : PySem.W.Frag} (h : H a = some (.tup xs)) : SqT K H a xs := .inl (.inl h)
theorem Inv.list (I : Inv X pins σ H s) (h : SqL X.K H a xs) : ∃ its : List Value, Vals xs its ∧ PlainL s.heap a its.toArray ∧ xs.length ≤ sizeLine := by
  rcases h with h | ⟨o, its, n, hk, hc, hd, hs, hz, r⟩
  · obtain ⟨z, its, n, r, e⟩ := h.ok I.hok
    exact ⟨its, r, ⟨_, n, e, rfl, rfl, rfl⟩, z⟩
  · refine ⟨its.toList, r, ⟨o, n, I.kIn a o hk, hc, hd, by simpa using hs⟩, ?_⟩
    have e := r.length
    simp only [Array.length_toList] at e
    omega
theorem Inv.tuple (I : Inv X pins σ H s) (h : SqT X.K H a xs) : ∃ its : List Value, Vals xs its ∧ IsTup s.heap a its.toArray ∧ xs.length ≤ sizeLine := by
  rcases h with h | ⟨o, its, n, hk, hc, hs, hz, r⟩
  · obtain ⟨z, its, r, p⟩ := h.ok I.hok
    exact ⟨its, r, p, z⟩
  · refine ⟨its.toList, r, ⟨o, I.kIn a o hk, hc, n, by simpa using hs⟩, ?_⟩
    have e := r.length
    simp only [Array.length_toList] at e
    omega
theorem Inv.list_inj (I : Inv X pins σ H s) (h : SqL X.K H a xs) (h' : SqL X.K H a ys) : xs = ys := by
  obtain ⟨its, r, ⟨o, n, e, _, _, d⟩, _⟩ := I.list h
  obtain ⟨its', r', ⟨o', n', e', _, _, d'⟩, _⟩ := I.list h'
  rw [e] at e'; cases e'
  rw [d] at d'
  injection d' with d1 _
  have : its = its' := by simpa using congrArg Array.toList d1
  subst this
  exact r.inj r'
end

/-! ### another wish about exceptions -/
abbrev Cx.wish (X : Cx) (E : Value → Shared → Prop) : Cx := { X with xe := E }
/-- no exception leaves -/
abbrev Cx.nox (X : Cx) : Cx := X.wish fun _ _ => False
theorem Cx.Ok.wish {X : Cx} (ok : X.Ok) (E : Value → Shared → Prop) : (X.wish E).Ok :=
  ⟨ok.mod, ok.kind, ok.glob, ok.blt, ok.above, ok.inj, ok.has, ok.cab, ok.hd, ok.frames, ok.stk, ok.exf, ok.bs, ok.bsz, ok.noex, ok.exfs, ok.funs, ok.frf⟩
theorem Cx.Ok.unwish {X : Cx} {E : Value → Shared → Prop} (ok : (X.wish E).Ok) : X.Ok :=
  ⟨ok.mod, ok.kind, ok.glob, ok.blt, ok.above, ok.inj, ok.has, ok.cab, ok.hd, ok.frames, ok.stk, ok.exf, ok.bs, ok.bsz, ok.noex, ok.exfs, ok.funs, ok.frf⟩
section
variable {X : Cx} {pins : List (Addr × Obj)} {σ : St} {H : Hp} {s : Shared} {E : Value → Shared → Prop}
theorem Inv.wish (I : Inv X pins σ H s) (E : Value → Shared → Prop) : Inv (X.wish E) pins σ H s := ⟨I.ok.wish E, I.os, I.bare, I.base, I.loc, I.cell, I.free, I.freeC, I.pin, I.hok, I.len⟩
theorem Inv.unwish (I : Inv (X.wish E) pins σ H s) : Inv X pins σ H s := ⟨I.ok.unwish, I.os, I.bare, I.base, I.loc, I.cell, I.free, I.freeC, I.pin, I.hok, I.len⟩
theorem SP.unwish {D : Ends} {f : Flow} {s' : Shared} (h : SP (X.wish E) pins D f s') : SP X pins D f s' := by
  cases f with
  | next => obtain ⟨σ', H', I, q⟩ := h; exact ⟨σ', H', I.unwish, q⟩
  | brk => obtain ⟨σ', H', I, q⟩ := h; exact ⟨σ', H', I.unwish, q⟩
  | cont => obtain ⟨σ', H', I, q⟩ := h; exact ⟨σ', H', I.unwish, q⟩
  | ret u => obtain ⟨v, σ', H', I, r, q⟩ := h; exact ⟨v, σ', H', I.unwish, r, q⟩
theorem PSs.nox {st : List Stmt} {t : TS} (h : PSs X.nox st t) : PSs X st t := fun pins s σ H D I hw =>
  wpAny_mono (h pins s σ H D (I.wish _) hw) (fun _ _ q => q.unwish) fun _ _ z => False.elim z
end

/-! ### blocks and small statements -/
section
variable {X : Cx} {st : Stmt} {rest : List Stmt} {t u : TS} {e : Expr} {te : TE} {pos : Pos}
def tNext : TS := fun D σ H => D.nx σ H
def tSeq (t u : TS) : TS := fun D σ H => t { D with nx := u D } σ H
theorem pss_nil : PSs X [] tNext := fun _ _ σ H _ I h => wpAny_execs_nil ⟨σ, H, I, h⟩
theorem pss_cons (h1 : PS X st t) (h2 : PSs X rest u) : PSs X (st :: rest) (tSeq t u) := by
  intro pins s σ H D I h
  refine wpAny_execs_cons (thn (h1 pins s σ H { D with nx := u D } I h) fun f s1 q => ?_)
  cases f with
  | next =>
    obtain ⟨σ', H', I', q⟩ := q
    exact h2 pins s1 σ' H' D I' q
  | ret v => exact q
  | brk => exact q
  | cont => exact q
theorem pss_one (h1 : PS X st t) : PSs X [st] t := by
  intro pins s σ H D I h
  refine wpAny_execs_cons (thn (h1 pins s σ H D I h) fun f s1 q => ?_)
  cases f with
  | next => exact wpAny_execs_nil q
  | ret v => exact q
  | brk => exact q
  | cont => exact q
/-- in a def's body nothing is shown -/
theorem Inv.quiet {pins : List (Addr × Obj)} {σ : St} {H : Hp} {s : Shared} (I : Inv X pins σ H s) : interactive X.env = false := by simp [interactive, I.ok.kind]
/-- an expression whose value is dropped -/
def tDrop (te : TE) : TS := fun D σ H => te σ H fun _ H1 => D.nx σ H1
theorem ps_expr (he : PE X e te) (hs : swapsWith e none pos.line X.env = pure false := by rfl) : PS X (.Expr e pos) (tDrop te) := by
  intro pins s σ H D I h
  exact wpAny_Expr_any (thn (he pins s σ H _ I h) fun v s1 ⟨x, H1, I1, r1, q1⟩ => ⟨σ, H1, I1, q1⟩) I.quiet hs
def tRet (te : TE) : TS := fun D σ H => te σ H D.rt
theorem ps_ret (he : PE X e te) : PS X (.Return (some e) pos) (tRet te) := by
  intro pins s σ H D I h
  exact wpAny_Return_some (thn (he pins s σ H _ I h) fun v s1 ⟨x, H1, I1, r1, q1⟩ => ⟨x, σ, H1, I1, r1, q1⟩)
def tIfS (c : TT) (t u : TS) : TS := fun D σ H => c σ H fun b H1 => if b = true then t D σ H1 else u D σ H1
theorem ps_if {c : Expr} {a b : List Stmt} {tc : TT} (hc : PT X c tc) (ha : PSs X a t) (hb : PSs X b u) : PS X (.If c a b pos) (tIfS tc t u) := by
  intro pins s σ H D I h
  refine wpAny_If (thn (hc pins s σ H _ I h) fun d s1 ⟨H1, I1, q1⟩ => ?_)
  cases d with
  | true => exact ha pins s1 σ H1 D I1 q1
  | false => exact hb pins s1 σ H1 D I1 q1
/-- code that the proof never comes to -/
def tNever : TS := fun _ _ _ => False
theorem pss_never {sts : List Stmt} : PSs X sts tNever := fun _ _ _ _ _ _ h => h.elim
end

/-! ### targets -/
abbrev TG := V → St → Hp → (St → Hp → Prop) → Prop
abbrev TGs := List V → St → Hp → (St → Hp → Prop) → Prop
def PG (X : Cx) (target : Expr) (t : TG) : Prop :=
  ∀ (pins : List (Addr × Obj)) (s : Shared) (σ : St) (H : Hp) (v : V) (u : Value) (Q : St → Hp → Prop), Inv X pins σ H s → RelV v u → t v σ H Q →
    wpAny (model X.prog X.w) X.A (assign target X.env u) (fun _ s' => ∃ σ' H', Inv X pins σ' H' s' ∧ Q σ' H') X.xe s
/-- several targets, one after another -/
def PGs (X : Cx) (ts : List Expr) (t : TGs) : Prop :=
  ∀ (pins : List (Addr × Obj)) (s : Shared) (σ : St) (H : Hp) (vs : List V) (us : List Value) (Q : St → Hp → Prop), Inv X pins σ H s → Vals vs us → t vs σ H Q →
    wpAny (model X.prog X.w) X.A (assignInOrder ((assignEach ts X.env).map (·.2)) us) (fun _ s' => ∃ σ' H', Inv X pins σ' H' s' ∧ Q σ' H') X.xe s
/-- o[i] = v, by values -/
abbrev TSet := V → V → V → Hp → (Hp → Prop) → Prop
def PSet (X : Cx) (t : TSet) : Prop :=
  ∀ (pins : List (Addr × Obj)) (s : Shared) (σ : St) (H : Hp) (o i v : V) (ov iv u : Value) (Q : Hp → Prop), Inv X pins σ H s → RelV o ov → RelV i iv → RelV v u → t o i v H Q →
    wpAny (model X.prog X.w) X.A (setItem ov iv u) (fun _ s' => ∃ H', Inv X pins σ H' s' ∧ Q H') X.xe s
section
variable {X : Cx} {pos : Pos}
def gName (i : Nat) : TG := fun v σ H Q => Q (σ.set i (some v)) H
theorem pg_name {i : Nat} {x : Str} (hN : X.N.Nodup) (hi : X.N[i]? = some x) (hx : Loc X.env.scope x) (hf : X.fn x = true ∨ X.env.scope.names.lookup x = some .local := by first | exact .inl rfl | exact .inr rfl | assumption) : PG X (.Name x pos) (gName i) := by
  intro pins s σ H v u Q I r h
  exact wpAny_assign_Name (store_ok I hN hi hx r (fun s' I' => ⟨_, H, I', h⟩) hf)
def gNil : TGs := fun vs σ H Q => vs = [] ∧ Q σ H
def gCons (t : TG) (u : TGs) : TGs := fun vs σ H Q => ∃ v r, vs = v :: r ∧ t v σ H fun σ' H' => u r σ' H' Q
theorem pgs_nil : PGs X [] gNil := by
  intro pins s σ H vs us Q I r h
  obtain ⟨e, h⟩ := h
  subst e
  cases r
  exact assignInOrder_nil ⟨σ, H, I, h⟩
theorem pgs_cons {e : Expr} {es : List Expr} {t : TG} {u : TGs} (h1 : PG X e t) (h2 : PGs X es u)
    (hs : (assignEach (e :: es) X.env).map (·.2) = assign e X.env :: (assignEach es X.env).map (·.2) := by rfl) : PGs X (e :: es) (gCons t u) := by
  intro pins s σ H vs us Q I r h
  obtain ⟨v, vr, e1, h⟩ := h
  subst e1
  cases r with
  | cons r rr =>
    rw [hs]
    refine assignInOrder_cons (thn (h1 pins s σ H _ _ _ I r h) fun _ s1 ⟨σ1, H1, I1, q1⟩ => ?_)
    exact h2 pins s1 σ1 H1 _ _ Q I1 rr q1
/-- (a, b, ..) = a tuple of that length -/
def gTup (K : PySem.W.Frag) (n : Nat) (t : TGs) : TG := fun v σ H Q => ∃ a xs, v = .ref a ∧ SqT K H a xs ∧ xs.length = n ∧ t xs σ H Q
theorem pg_tup {es : List Expr} {k : Nat} {t : TGs} {n : Nat} (hc : X.calm = true) (h : PGs X es t)
    (hn : (assignEach es X.env).length = n := by rfl) (hst : (assignEach es X.env).findIdx? (·.1) = none := by rfl) : PG X (.Tuple es k pos) (gTup X.K n t) := by
  intro pins s σ H v u Q I r hw
  obtain ⟨a, xs, e1, hq, hl, hw⟩ := hw
  subst e1
  cases r
  obtain ⟨its, rv, ht, hz⟩ := I.tuple hq
  refine assign_Tuple_tuple (I.ok.hd hc) ht (by simp [hn, ← hl, rv.length]) hst fun h' hx => ?_
  have I1 : Inv X pins σ H { s with heap := h' } := I.kept (t' := s.toks) fun b o e => hx b o (Nat.ne_of_lt (Heap.lt_size e)) e
  exact h pins _ σ H xs _ Q I1 (by simpa using rv) hw
/-- o[i] = .. -/
def gSub (to ti : TE) (t : TSet) : TG := fun v σ H Q => to σ H fun o H1 => ti σ H1 fun i H2 => t o i v H2 fun H3 => Q σ H3
theorem pg_sub {o i : Expr} {to ti : TE} {t : TSet} (ho : PE X o to) (hi : PE X i ti) (hs : PSet X t)
    (ha : ∀ v, assign (.Subscript o i pos) X.env v = (do
      let ov ← holding [v] (eval o X.env)
      let iv ← holding [v, ov] (eval i X.env)
      standAt pos
      holding [v, ov, iv] (setItem ov iv v)
      release [v, ov, iv] []) := by intro _; rfl) : PG X (.Subscript o i pos) (gSub to ti t) := by
  intro pins s σ H v u Q I r h
  rw [ha]
  refine wpAny_bind (wpAny_holding (thn (ho pins s σ H _ I h) fun ov s1 ⟨x, H1, I1, r1, q1⟩ => ?_))
  refine wpAny_bind (wpAny_holding (thn (hi pins s1 σ H1 _ I1 q1) fun iv s2 ⟨y, H2, I2, r2, q2⟩ => ?_))
  refine wpAny_bind (wpAny_standAt (wpAny_bind (wpAny_holding (thn (hs pins s2 σ H2 x y v ov iv u _ I2 r1 r2 r q2) fun _ s3 ⟨H3, I3, q3⟩ => ?_))))
  exact wpAny_release ⟨σ, H3, I3, q3⟩
/-- target = value -/
def tAsg (te : TE) (g : TG) : TS := fun D σ H => te σ H fun x H1 => g x σ H1 D.nx
theorem ps_asg {tg e : Expr} {te : TE} {g : TG} (he : PE X e te) (hg : PG X tg g) (hs : swapsWithSole [tg] e pos.line X.env = pure false := by rfl) (hw : swappedStores [tg] e X.env = pure none := by rfl)
    (h1 : (assignEach [tg] X.env).map (·.2) = [assign tg X.env] := by rfl) : PS X (.Assign [tg] e pos) (tAsg te g) := by
  intro pins s σ H D I h
  refine wpAny_Assign_stores (thn (he pins s σ H _ I h) fun v s1 ⟨x, H1, I1, r1, q1⟩ => ?_) hs hw
  rw [h1]
  exact thn (hg pins s1 σ H1 x v _ I1 r1 q1) fun _ s2 q => q
/-- name = value -/
theorem ps_set {i : Nat} {x : Str} {e : Expr} {te : TE} {pos' : Pos} (hN : X.N.Nodup) (hi : X.N[i]? = some x) (hx : Loc X.env.scope x) (he : PE X e te) (hs : swapsWith e (some (.Name x pos')) pos.line X.env = pure false := by rfl) (hf : X.fn x = true ∨ X.env.scope.names.lookup x = some .local := by first | exact .inl rfl | exact .inr rfl | assumption) :
    PS X (.Assign [.Name x pos'] e pos) (tAsg te (gName i)) := by
  intro pins s σ H D I h
  refine wpAny_Assign_Name (thn (he pins s σ H _ I h) fun v s1 ⟨y, H1, I1, r1, q1⟩ => ?_) hs
  exact store_ok I1 hN hi hx r1 (fun s2 I2 => ⟨_, H1, I2, q1⟩) hf
end

/-! ### while -/
section
variable {X : Cx} {pos : Pos}
/-- the invariant W with its measure -/
def tWhile (c : TT) (tb : TS) : TS := fun D σ H => ∃ W : Nat → St → Hp → Prop, (∃ m, W m σ H) ∧ ∀ m σ H, W m σ H →
  c σ H fun b H1 => if b = true then ∃ N : St → Hp → Prop, (∀ σ' H', N σ' H' → ∃ m', m' < m ∧ W m' σ' H') ∧ tb { D with nx := N, ct := N, bk := D.nx } σ H1 else D.nx σ H1
theorem ps_while {c : Expr} {body : List Stmt} {tc : TT} {tb : TS} (hp : PassesOwn (model X.prog X.w) X.A X.env X.xe) (hc : PT X c tc) (hb : PSs X body tb) : PS X (.While c body [] pos) (tWhile tc tb) := by
  intro pins s σ H D I h
  obtain ⟨W, ⟨m0, w0⟩, turn⟩ := h
  refine wpAny_While (codeAny_whileLoop (fun n s' => ∃ σ' H', Inv X pins σ' H' s' ∧ W n σ' H') ?_ m0 ⟨σ, H, I, w0⟩)
  rintro n s1 ⟨σ1, H1, I1, w1⟩
  refine wpAny_passesOwn hp (thn (hc pins s1 σ1 H1 _ I1 (turn n σ1 H1 w1)) fun b s2 ⟨H2, I2, q2⟩ => ?_)
  cases b with
  | true =>
    obtain ⟨N, hN, q2⟩ := q2
    rw [if_pos rfl]
    refine wpAny_passesOwn hp (thn (hb pins s2 σ1 H2 _ I2 q2) fun f s3 q3 => ?_)
    cases f with
    | next =>
      obtain ⟨σ3, H3, I3, n3⟩ := q3
      obtain ⟨m', hm, w3⟩ := hN σ3 H3 n3
      exact ⟨m', hm, σ3, H3, I3, w3⟩
    | cont =>
      obtain ⟨σ3, H3, I3, n3⟩ := q3
      obtain ⟨m', hm, w3⟩ := hN σ3 H3 n3
      exact ⟨m', hm, σ3, H3, I3, w3⟩
    | brk => exact q3
    | ret v => exact q3
  | false =>
    rw [if_neg Bool.false_ne_true]
    exact wpAny_execs_nil ⟨σ1, H2, I2, q2⟩
end

/-! ### what a loop or a comprehension walks -/
/-- at turn i: it yields x (the heap may grow), or it stops -/
structure It where
  go : Nat → Hp → Prop
  yld : Nat → Hp → V → Hp → Prop
  stop : Nat → Hp → Prop
/-- the iterator's own objects may turn: they are not the frame's, not pinned, younger than the entry (or a comprehension's own) -/
def FpOk (X : Cx) (pins : List (Addr × Obj)) (H : Hp) (b : Addr) : Prop :=
  H b = none ∧ b ≠ X.env.locals ∧ b ∉ X.fs ∧ (b ∈ X.ex ∨ X.s₀.heap.objs.size ≤ b) ∧ (∀ x c, X.env.cells.lookup x = some c → c ≠ b) ∧ ∀ p ∈ X.pn ++ pins, p.1 ≠ b
theorem Inv.fpOk {X : Cx} {pins : List (Addr × Obj)} {σ : St} {H H' : Hp} {s : Shared} {b : Addr} (I : Inv X pins σ H s) (hb : s.heap.objs.size ≤ b) (hn : H' b = none) : FpOk X pins H' b := by
  refine ⟨hn, Nat.ne_of_gt (Nat.lt_of_lt_of_le I.lt hb), I.nofs hb, .inr (Nat.le_trans I.sz hb), fun x c e z => ?_, fun p hp z => ?_⟩
  · obtain ⟨v, q⟩ := I.cell x c e
    exact absurd (Nat.lt_of_lt_of_le q.lt (by rw [z]; exact hb)) (Nat.lt_irrefl _)
  · exact absurd (Nat.lt_of_lt_of_le (Heap.lt_size (I.pin p hp).1) (by rw [z]; exact hb)) (Nat.lt_irrefl _)
structure Turn (P : Program) (w : World) (K : PySem.W.Frag) (tg : Expr) (J : It) (fp : List Addr) (it : Addr) (tn : Nat → Heap → Prop) : Prop where
  mem : it ∈ fp
  obj : ∀ i h, tn i h → ∀ b ∈ fp, ∃ o, h.get? b = some o ∧ ∀ v, o.data ≠ .cell v
  keep : ∀ i h h', tn i h → (∀ b ∈ fp, ∀ o, h.get? b = some o → h'.get? b = some o) → tn i h'
  item : ∀ (X : Cx), X.prog = P → X.w = w → X.K = K → X.calm = true → ∀ (i : Nat) (pins : List (Addr × Obj)) (s : Shared) (σ : St) (H : Hp) (E : Value → Shared → Prop), Inv X pins σ H s → (∀ b ∈ fp, FpOk X pins H b) → tn i s.heap → J.go i H →
    wpAny (model P w) X.A (pyNext (.ref it)) (fun r s1 => ∃ u, r = some u ∧
      wpAny (model P w) X.A (letOwnedTupleGo tg (.ref it) u) (fun _ s2 => ∃ x H', Inv X pins σ H' s2 ∧ RelV x u ∧ J.yld i H x H' ∧ tn (i + 1) s2.heap ∧ ∀ b ∈ fp, H' b = none) E s1) E s
  done : ∀ (X : Cx), X.prog = P → X.w = w → X.K = K → X.calm = true → ∀ (i : Nat) (pins : List (Addr × Obj)) (s : Shared) (σ : St) (H : Hp) (E : Value → Shared → Prop), Inv X pins σ H s → (∀ b ∈ fp, FpOk X pins H b) → tn i s.heap → J.stop i H →
    wpAny (model P w) X.A (pyNext (.ref it)) (fun r s1 => r = none ∧ Inv X pins σ H s1) E s
  self : ∀ (A : Around) (i : Nat) (s : Shared) (Q : Value → Shared → Prop) (E : Value → Shared → Prop), tn i s.heap → Q (.ref it) s → wpAny (model P w) A (pyIter (.ref it)) Q E s
abbrev TI := St → Hp → (It → Hp → Prop) → Prop
/-- an iterator has come -/
def PIE (X : Cx) (pins : List (Addr × Obj)) (σ : St) (tg : Expr) (R : It → Hp → Prop) (itv : Value) (s2 : Shared) : Prop :=
  ∃ (it : Addr) (fp : List Addr) (tn : Nat → Heap → Prop) (J : It) (H' : Hp), itv = .ref it ∧ Inv X pins σ H' s2 ∧ Turn X.prog X.w X.K tg J fp it tn ∧ tn 0 s2.heap ∧ (∀ b ∈ fp, FpOk X pins H' b) ∧ R J H'
def PI (X : Cx) (tg iter : Expr) (wi : TI) : Prop :=
  ∀ (pins : List (Addr × Obj)) (s : Shared) (σ : St) (H : Hp) (R : It → Hp → Prop), Inv X pins σ H s → wi σ H R →
    wpAny (model X.prog X.w) X.A (eval iter X.env) (fun v s1 => wpAny (model X.prog X.w) X.A (pyIter v) (PIE X pins σ tg R) X.xe s1) X.xe s

/-- the step ahead of the store is nothing for an iterator that keeps no tuple -/
theorem go_of {M : Model} {A : Around} {E : Value → Shared → Prop} {s : Shared} {tg : Expr} {it : Addr} {u : Value} {o : Obj} {n : String} {vs : Array Value} {Q : Unit → Shared → Prop} (ho : s.heap.get? it = some o) (hc : o.cls = .type n) (hd : o.data = .fields vs)
    (hn : ["enumerate", "zip", "dict_itemiterator", "dict_reverseitemiterator", "odict_iterator", "itertools.zip_longest", "itertools.pairwise"].contains n = false) (hQ : Q () s) : wpAny M A (letOwnedTupleGo tg (.ref it) u) Q E s := by
  unfold letOwnedTupleGo
  cases tg <;> first
    | exact wpAny_pure hQ
    | (cases u <;> first
        | exact wpAny_pure hQ
        | (refine wpAny_bind (wpAny_load ho ?_)
           rw [hc, hd]
           show wpAny M A (if (["enumerate", "zip", "dict_itemiterator", "dict_reverseitemiterator", "odict_iterator", "itertools.zip_longest", "itertools.pairwise"].contains n && vs[0]? == some (rawInt _)) = true then _ else _) Q E s
           rw [if_neg (by intro h; rw [hn, Bool.false_and] at h; cases h)]
           exact wpAny_pure hQ))

/-- the list at a, as it stands at each turn (a loop may append to it) -/
def Itl (K : PySem.W.Frag) (a : Addr) : It :=
  ⟨fun i H => ∃ xs x, SqL K H a xs ∧ xs[i]? = some x, fun i H x H' => H' = H ∧ ∀ xs, SqL K H a xs → xs[i]? = some x, fun i H => ∃ xs, SqL K H a xs ∧ xs.length ≤ i⟩
/-- lo, lo + 1, .. (n of them) -/
def Itr (lo : Int) (n : Nat) : It := ⟨fun i _ => i < n, fun i H x H' => H' = H ∧ x = .int (lo + i), fun i _ => n ≤ i⟩
theorem turn_list {P : Program} {w : World} {K : PySem.W.Frag} {tg : Expr} (a it : Addr) : Turn P w K tg (Itl K a) [it] it (fun i h => h.IsListIter it a i) where
  mem := by simp
  obj := fun i h st b hb => by
    have e : b = it := by simpa using hb
    subst e
    obtain ⟨o, e, c, d⟩ := st
    exact ⟨o, e, fun v z => by rw [d] at z; cases z⟩
  keep := fun i h h' st k => st.at fun o e => k it (by simp) o e
  item := by
    intro X hP hw hK hc i pins s σ H E I hf st hg
    subst hP hw hK
    obtain ⟨xs, x, hq, hx⟩ := hg
    obtain ⟨its, rv, p, hz⟩ := I.list hq
    obtain ⟨u, hu, ru⟩ := rv.get hx
    obtain ⟨f0, f1, f2, f3, f4, f5⟩ := hf it (by simp)
    refine wpAny_pyNext_list_item st p.isList (x := u) (by simpa using hu) fun h' st' sb => ?_
    have I1 : Inv X pins σ H { s with heap := h' } := I.turned (t' := s.toks) (fun b o hb e => (sb.2 b hb).trans e) f0 f1 f3 f4 f5
    obtain ⟨o, e, c, d⟩ := id st'
    exact ⟨u, rfl, go_of (s := { s with heap := h' }) e c d (by decide) ⟨x, H, I1, ru, ⟨rfl, fun ys hy => by rw [I.list_inj hy hq]; exact hx⟩, st', fun b hb => (hf b hb).1⟩⟩
  done := by
    intro X hP hw hK hc i pins s σ H E I hf st hg
    subst hP hw hK
    obtain ⟨xs, hq, hx⟩ := hg
    obtain ⟨its, rv, p, hz⟩ := I.list hq
    obtain ⟨f0, f1, f2, f3, f4, f5⟩ := hf it (by simp)
    have hl := rv.length
    exact wpAny_pyNext_list_end (I.ok.hd hc) st p.isList (by simp; omega) fun h' eb => ⟨rfl, I.turned (t' := s.toks) (fun b o hb e => eb b o hb e) f0 f1 f3 f4 f5⟩
  self := fun _ _ _ _ _ st h => wpAny_pyIter_listiter st h
theorem turn_range {P : Program} {w : World} {K : PySem.W.Frag} {tg : Expr} (it : Addr) (lo : Int) (n : Nat) : Turn P w K tg (Itr lo n) [it] it (fun i h => IsRangeIter h it (lo + (i : Nat) * 1) ((n : Int) - (i : Nat)) 1) where
  mem := by simp
  obj := fun i h st b hb => by
    have e : b = it := by simpa using hb
    subst e
    exact ⟨_, st, fun v z => by
      have z' : Data.fields _ = Data.cell v := z
      cases z'⟩
  keep := fun i h h' st k => k it (by simp) _ st
  item := by
    intro X hP hw hK hc i pins s σ H E I hf st hg
    subst hP hw hK
    obtain ⟨f0, f1, f2, f3, f4, f5⟩ := hf it (by simp)
    have W := Walks.range (prog := X.prog) (w := X.w) (I.ok.hd hc) it lo 1 n
    refine W.item i s _ _ hg st fun v h' tk hv st' kk => ?_
    obtain ⟨t, rfl⟩ := hv
    have I1 : Inv X pins σ H { s with heap := h', toks := tk } := I.turned (fun b o hb e => kk b o (by simpa using hb) e) f0 f1 f3 f4 f5
    refine ⟨_, rfl, go_of (s := { s with heap := h', toks := tk }) (n := "range_iterator") st' rfl rfl (by decide) ⟨.int (lo + i), H, I1, ⟨t, ?_⟩, ⟨rfl, rfl⟩, st', fun b hb => (hf b hb).1⟩⟩
    rw [Int.mul_one]
  done := by
    intro X hP hw hK hc i pins s σ H E I hf st hg
    subst hP hw hK
    obtain ⟨f0, f1, f2, f3, f4, f5⟩ := hf it (by simp)
    exact wpAny_pyNext_range_end (I.ok.hd hc) st (by have : n ≤ i := hg; omega) fun h' eb => ⟨rfl, I.turned (t' := s.toks) (fun b o hb e => eb b o hb e) f0 f1 f3 f4 f5⟩
  self := fun _ _ _ _ _ st h => wpAny_pyIter_rangeiter st h
end L2

namespace L2
open PySem PySem.Spec PyProof.Rows
section
variable {X : Cx} {tg : Expr}
def iList (K : PySem.W.Frag) (tl : TE) : TI := fun σ H R => tl σ H fun x H1 => ∃ a, x = .ref a ∧ (∃ xs, SqL K H1 a xs) ∧ R (Itl K a) H1
theorem pi_list {l : Expr} {tl : TE} (hl : PE X l tl) : PI X tg l (iList X.K tl) := by
  intro pins s σ H R I h
  refine thn (hl pins s σ H _ I h) fun v s1 ⟨x, H1, I1, r1, q1⟩ => ?_
  obtain ⟨a, e, ⟨xs, hq⟩, q⟩ := q1
  subst e
  cases r1
  obtain ⟨its, rv, p, hz⟩ := I1.list hq
  refine wpAny_pyIter_list p.isList ?_
  refine ⟨s1.heap.objs.size, [s1.heap.objs.size], _, _, H1, rfl, I1.kept (t' := s1.toks) fun b o e => Heap.get?_push_of_some _ e, turn_list a _, ⟨_, Heap.get?_push_size _ rfl, rfl, rfl⟩, fun b hb => ?_, q⟩
  have e : b = s1.heap.objs.size := by simpa using hb
  subst e
  exact I1.fpOk (Nat.le_refl _) (I1.hok.fresh (Nat.le_refl _))
/-- a range object just made, walked -/
theorem range_it {pins : List (Addr × Obj)} {σ : St} {H : Hp} {s : Shared} {R : It → Hp → Prop} {E : Value → Shared → Prop} {lo hi : Int} {t u v : Tok} {tk : Nat} (I : Inv X pins σ H s) (h1 : -(2 ^ 62) ≤ lo) (h2 : lo < 2 ^ 62) (h3 : -(2 ^ 62) ≤ hi) (h4 : hi < 2 ^ 62)
    (q : R (Itr lo (hi - lo).toNat) H) : wpAny (model X.prog X.w) X.A (pyIter (.ref s.heap.objs.size)) (PIE X pins σ tg R) E { s with heap := s.heap.push { cls := .type "range", data := .fields #[.int lo t, .int hi u, .int 1 v] }, toks := tk } := by
  refine wpAny_pyIter_range (IsRange.new ..) (small_one h1 h2 h3 h4) ?_
  have I1 : Inv X pins σ H { s with heap := s.heap.push { cls := .type "range", data := .fields #[.int lo t, .int hi u, .int 1 v] }, toks := tk } := I.kept fun b o e => Heap.get?_push_of_some _ e
  refine ⟨(s.heap.push { cls := .type "range", data := .fields #[.int lo t, .int hi u, .int 1 v] }).objs.size, [(s.heap.push { cls := .type "range", data := .fields #[.int lo t, .int hi u, .int 1 v] }).objs.size], _, _, H, rfl,
    I1.kept (t' := tk) fun b o e => Heap.get?_push_of_some _ e, turn_range _ lo (hi - lo).toNat, ?_, fun b hb => ?_, q⟩
  · have e1 : lo + ((0 : Nat) : Int) * 1 = lo := by simp
    have e2 : (((hi - lo).toNat : Nat) : Int) - ((0 : Nat) : Int) = Builtin.Range.rangeSize lo hi 1 := by rw [rangeSize_one]; split <;> omega
    show IsRangeIter _ _ (lo + ((0 : Nat) : Int) * 1) ((((hi - lo).toNat : Nat) : Int) - ((0 : Nat) : Int)) 1
    rw [e1, e2]
    exact Heap.get?_push_size _ rfl
  · have e : b = (s.heap.push { cls := .type "range", data := .fields #[.int lo t, .int hi u, .int 1 v] }).objs.size := by simpa using hb
    subst e
    exact I1.fpOk (Nat.le_refl _) (I1.hok.fresh (Nat.le_refl _))
def iRng1 (ta : TA) : TI := fun σ H R => ta σ H fun vs H1 => ∃ j : Int, vs = [.int j] ∧ -(2 ^ 62) ≤ j ∧ j < 2 ^ 62 ∧ R (Itr 0 j.toNat) H1
def iRng2 (ta : TA) : TI := fun σ H R => ta σ H fun vs H1 => ∃ i j : Int, vs = [.int i, .int j] ∧ (-(2 ^ 62) ≤ i ∧ i < 2 ^ 62 ∧ -(2 ^ 62) ≤ j ∧ j < 2 ^ 62) ∧ R (Itr i (j - i).toNat) H1
theorem pi_range1 {a : Expr} {ta : TA} {p pos : Pos} (hg : Gl X "range") (hm : X.mg "range" = none) (ha : PA X [a] ta) (hs : starEach [a] X.env = [(false, eval a X.env)] := by rfl) : PI X tg (.Call (.Name "range" p) [a] [] pos) (iRng1 ta) := by
  intro pins s σ H R I h
  refine Call_ (ld_blt I hg hm boot_range (PyProof.Rows.callWith_type1 (thn (ha pos pins s σ H _ I h) fun us s1 ⟨vs, H1, I1, r1, q1⟩ => ?_) hs rfl))
  obtain ⟨j, e, q1, q2, q⟩ := q1
  subst e
  cases r1 with
  | cons r rr =>
    cases rr
    obtain ⟨t, rfl⟩ := r
    exact call_range_1 (range_it I1 (by omega) (by omega) q1 q2 (by simpa using q))
theorem pi_range2 {a b : Expr} {ta : TA} {p pos : Pos} (hg : Gl X "range") (hm : X.mg "range" = none) (ha : PA X [a, b] ta) (hs : starEach [a, b] X.env = [(false, eval a X.env), (false, eval b X.env)] := by rfl) (hs2 : starEach [b] X.env = [(false, eval b X.env)] := by rfl) :
    PI X tg (.Call (.Name "range" p) [a, b] [] pos) (iRng2 ta) := by
  intro pins s σ H R I h
  refine Call_ (ld_blt I hg hm boot_range (PyProof.Rows.callWith_type1 (thn (ha pos pins s σ H _ I h) fun us s1 ⟨vs, H1, I1, r1, q1⟩ => ?_) (by rw [hs, hs2]) (by rw [hs2]; rfl)))
  obtain ⟨i, j, e, ⟨q1, q2, q3, q4⟩, q⟩ := q1
  subst e
  cases r1 with
  | cons r rr =>
    cases rr with
    | cons r' rr =>
      cases rr
      obtain ⟨t, rfl⟩ := r
      obtain ⟨t', rfl⟩ := r'
      exact call_range_2 (range_it I1 q1 q2 q3 q4 q)

/-! ### for -/
/-- W: the invariant by the turn and a measure; N: what the body is to reach -/
def tFor (wi : TI) (g : TG) (tb : TS) : TS := fun D σ H => wi σ H fun J H1 => ∃ W : Nat → Nat → St → Hp → Prop, (∃ m, W 0 m σ H1) ∧ ∀ i m σ H, W i m σ H →
  (J.stop i H ∧ D.nx σ H) ∨ (J.go i H ∧ ∃ N : St → Hp → Prop, (∀ σ' H', N σ' H' → ∃ m', m' < m ∧ W (i + 1) m' σ' H') ∧ ∀ x H', J.yld i H x H' → g x σ H' fun σ2 H2 => tb { D with nx := N, ct := N, bk := D.nx } σ2 H2)
/-- the records at fp as they stand -/
def pinsAt (fp : List Addr) (h : Heap) : List (Addr × Obj) := fp.filterMap fun b => (h.get? b).map fun o => (b, o)
theorem mem_pinsAt {fp : List Addr} {h : Heap} {b : Addr} {o : Obj} (hb : b ∈ fp) (e : h.get? b = some o) : (b, o) ∈ pinsAt fp h := List.mem_filterMap.mpr ⟨b, hb, by rw [e]; rfl⟩
theorem of_pinsAt {fp : List Addr} {h : Heap} {p : Addr × Obj} (hp : p ∈ pinsAt fp h) : p.1 ∈ fp ∧ h.get? p.1 = some p.2 := by
  obtain ⟨b, hb, e⟩ := List.mem_filterMap.mp hp
  cases q : h.get? b with
  | none => rw [q] at e; cases e
  | some o =>
    rw [q] at e
    have e' : (b, o) = p := Option.some.inj e
    subst e'
    exact ⟨hb, q⟩
theorem Inv.pinned {pins : List (Addr × Obj)} {σ : St} {H : Hp} {s : Shared} {fp : List Addr} (I : Inv X pins σ H s) (hf : ∀ b ∈ fp, FpOk X pins H b) (ho : ∀ b ∈ fp, ∃ o, s.heap.get? b = some o ∧ ∀ v, o.data ≠ .cell v) : Inv X (pins ++ pinsAt fp s.heap) σ H s :=
  I.pins_of fun p hp => (List.mem_append.mp hp).elim (fun z => I.pin p (List.mem_append_right _ z)) fun z => by
    obtain ⟨hb, e⟩ := of_pinsAt z
    obtain ⟨f0, f1, f2, _⟩ := hf p.1 hb
    obtain ⟨o, e', d⟩ := ho p.1 hb
    rw [e] at e'; cases e'
    exact ⟨e, f0, f1, f2, d⟩
theorem Inv.unpinned {pins pl : List (Addr × Obj)} {σ : St} {H : Hp} {s : Shared} (I : Inv X (pins ++ pl) σ H s) : Inv X pins σ H s := I.pins_of fun p hp => I.pin p (List.mem_append_right _ (List.mem_append_left _ hp))
theorem ps_for {iter : Expr} {body : List Stmt} {wi : TI} {g : TG} {tb : TS} {pos : Pos} (hp : PassesOwn (model X.prog X.w) X.A X.env X.xe) (hc : X.calm = true) (hi : PI X tg iter wi) (hg : PG X tg g) (hb : PSs X body tb)
    (hs : ∀ x, foldedSetIterable iter X.env x = pure x := by intro _; rfl) : PS X (.For tg iter body [] pos) (tFor wi g tb) := by
  intro pins s σ H D I h
  refine wpAny_For (thn (hi pins s σ H _ I h) fun v s1 h1 => thn h1 fun itv s2 h2 => ?_) hs
  obtain ⟨it, fp, tn, J, H2, e, I2, T, st2, f2, W, ⟨m0, w0⟩, turn⟩ := h2
  subst e
  -- what stays true of the iterator's objects through the loop
  have stat : ∀ {H' : Hp}, (∀ b ∈ fp, H' b = none) → ∀ b ∈ fp, FpOk X pins H' b := fun hn b hb => ⟨hn b hb, (f2 b hb).2⟩
  refine codeAny_forLoop_any (fun n s' => ∃ i σ' H', Inv X pins σ' H' s' ∧ tn i s'.heap ∧ (∀ b ∈ fp, H' b = none) ∧ W i n σ' H') ?_ m0 ⟨0, σ, H2, I2, st2, fun b hb => (f2 b hb).1, w0⟩
  rintro n s3 ⟨i, σ3, H3, I3, st3, fr3, w3⟩
  rcases turn i n σ3 H3 w3 with ⟨stop, qn⟩ | ⟨go, N, hN, step⟩
  · refine wpAny_passesOwn hp (thn (T.done X rfl rfl rfl hc i pins s3 σ3 H3 X.xe I3 (stat fr3) st3 stop) fun r s4 ⟨hr, I4⟩ => ?_)
    subst hr
    exact wpAny_execs_nil ⟨σ3, H3, I4, qn⟩
  · refine wpAny_passesOwn hp (thn (T.item X rfl rfl rfl hc i pins s3 σ3 H3 X.xe I3 (stat fr3) st3 go) fun r s4 ⟨u, hr, h4⟩ => ?_)
    subst hr
    refine wpAny_passesOwn hp (thn h4 fun _ s5 ⟨x, H5, I5, r5, y5, st5, fr5⟩ => ?_)
    have I5' := I5.pinned (stat fr5) (T.obj _ _ st5)
    refine wpAny_passesOwn hp (thn (hg _ s5 σ3 H5 x u _ I5' r5 (step x H5 y5)) fun _ s6 ⟨σ6, H6, I6, q6⟩ => ?_)
    refine wpAny_passesOwn hp (thn (hb _ s6 σ6 H6 _ I6 q6) fun f s7 q7 => ?_)
    have again : ∀ {σ7 : St} {H7 : Hp}, Inv X (pins ++ pinsAt fp s5.heap) σ7 H7 s7 → N σ7 H7 → ∃ m, m < n ∧ ∃ i σ' H', Inv X pins σ' H' s7 ∧ tn i s7.heap ∧ (∀ b ∈ fp, H' b = none) ∧ W i m σ' H' := fun {σ7 H7} I7 n7 => by
      obtain ⟨m', hm, w7⟩ := hN σ7 H7 n7
      refine ⟨m', hm, i + 1, σ7, H7, I7.unpinned, T.keep _ _ _ st5 fun b hb o e => (I7.pin (b, o) (List.mem_append_right _ (List.mem_append_right _ (mem_pinsAt hb e)))).1, fun b hb => ?_, w7⟩
      obtain ⟨o, e, d⟩ := T.obj _ _ st5 b hb
      exact (I7.pin (b, o) (List.mem_append_right _ (List.mem_append_right _ (mem_pinsAt hb e)))).2.1
    cases f with
    | next => obtain ⟨σ7, H7, I7, n7⟩ := q7; exact again I7 n7
    | cont => obtain ⟨σ7, H7, I7, n7⟩ := q7; exact again I7 n7
    | brk => obtain ⟨σ7, H7, I7, q7⟩ := q7; exact ⟨σ7, H7, I7.unpinned, q7⟩
    | ret v => obtain ⟨x7, σ7, H7, I7, r7, q7⟩ := q7; exact ⟨x7, σ7, H7, I7.unpinned, r7, q7⟩
end

/-! ### the forms one uses -/
/-- over a list that the body leaves as it is -/
theorem for_list {K : PySem.W.Frag} {a : Addr} {xs : List V} {g : TG} {tb : TS} {D : Ends} {σ : St} {H : Hp} (Pv : Nat → St → Hp → Prop) (h0 : Pv 0 σ H) (hl : ∀ i σ H, i ≤ xs.length → Pv i σ H → SqL K H a xs)
    (hs : ∀ i x σ H, xs[i]? = some x → Pv i σ H → g x σ H fun σ2 H2 => tb { D with nx := Pv (i + 1), ct := Pv (i + 1), bk := D.nx } σ2 H2) (hd : ∀ σ H, Pv xs.length σ H → D.nx σ H) :
    ∃ W : Nat → Nat → St → Hp → Prop, (∃ m, W 0 m σ H) ∧ ∀ i m σ H, W i m σ H →
      ((Itl K a).stop i H ∧ D.nx σ H) ∨ ((Itl K a).go i H ∧ ∃ N : St → Hp → Prop, (∀ σ' H', N σ' H' → ∃ m', m' < m ∧ W (i + 1) m' σ' H') ∧ ∀ x H', (Itl K a).yld i H x H' → g x σ H' fun σ2 H2 => tb { D with nx := N, ct := N, bk := D.nx } σ2 H2) := by
  refine ⟨fun i m σ H => m = xs.length - i ∧ i ≤ xs.length ∧ Pv i σ H, ⟨xs.length, by simp, Nat.zero_le _, h0⟩, ?_⟩
  rintro i m σ H ⟨rfl, hi, p⟩
  have q := hl i σ H hi p
  by_cases hlt : i < xs.length
  · refine .inr ⟨⟨xs, xs[i], q, by simp [hlt]⟩, Pv (i + 1), fun σ' H' p' => ⟨xs.length - (i + 1), by omega, rfl, hlt, p'⟩, fun x H' y => ?_⟩
    obtain ⟨e, y⟩ := y
    subst e
    exact hs i x σ _ (y xs q) p
  · have e : i = xs.length := by omega
    subst e
    exact .inl ⟨⟨xs, q, Nat.le_refl _⟩, hd σ H p⟩
theorem for_range {lo : Int} {n : Nat} {g : TG} {tb : TS} {D : Ends} {σ : St} {H : Hp} (Pv : Nat → St → Hp → Prop) (h0 : Pv 0 σ H)
    (hs : ∀ i σ H, i < n → Pv i σ H → g (.int (lo + i)) σ H fun σ2 H2 => tb { D with nx := Pv (i + 1), ct := Pv (i + 1), bk := D.nx } σ2 H2) (hd : ∀ σ H, Pv n σ H → D.nx σ H) :
    ∃ W : Nat → Nat → St → Hp → Prop, (∃ m, W 0 m σ H) ∧ ∀ i m σ H, W i m σ H →
      ((Itr lo n).stop i H ∧ D.nx σ H) ∨ ((Itr lo n).go i H ∧ ∃ N : St → Hp → Prop, (∀ σ' H', N σ' H' → ∃ m', m' < m ∧ W (i + 1) m' σ' H') ∧ ∀ x H', (Itr lo n).yld i H x H' → g x σ H' fun σ2 H2 => tb { D with nx := N, ct := N, bk := D.nx } σ2 H2) := by
  refine ⟨fun i m σ H => m = n - i ∧ i ≤ n ∧ Pv i σ H, ⟨n, by simp, Nat.zero_le _, h0⟩, ?_⟩
  rintro i m σ H ⟨rfl, hi, p⟩
  by_cases hlt : i < n
  · refine .inr ⟨hlt, Pv (i + 1), fun σ' H' p' => ⟨n - (i + 1), by omega, rfl, hlt, p'⟩, fun x H' y => ?_⟩
    obtain ⟨e, y⟩ := y
    subst e y
    exact hs i σ _ hlt p
  · have e : i = n := by omega
    subst e
    exact .inl ⟨Nat.le_refl _, hd σ H p⟩
/-- while, by a word and a measure of the state -/
theorem while_by {c : TT} {tb : TS} {D : Ends} {σ : St} {H : Hp} (Pv : St → Hp → Prop) (μ : St → Hp → Nat) (h0 : Pv σ H)
    (hs : ∀ σ H, Pv σ H → c σ H fun b H1 => if b = true then tb { D with nx := fun σ' H' => Pv σ' H' ∧ μ σ' H' < μ σ H, ct := fun σ' H' => Pv σ' H' ∧ μ σ' H' < μ σ H, bk := D.nx } σ H1 else D.nx σ H1)
    (mono : ∀ σ H Q Q', (∀ b H1, Q b H1 → Q' b H1) → c σ H Q → c σ H Q') : tWhile c tb D σ H := by
  refine ⟨fun m σ H => m = μ σ H ∧ Pv σ H, ⟨_, rfl, h0⟩, ?_⟩
  rintro m σ H ⟨rfl, p⟩
  refine mono σ H _ _ (fun b H1 q => ?_) (hs σ H p)
  cases b with
  | true => exact ⟨_, fun σ' H' ⟨p', l⟩ => ⟨_, l, rfl, p'⟩, q⟩
  | false => exact q
end L2

namespace L2
open PySem PySem.Spec PyProof.Rows

abbrev R2 := V → V → Hp → VK → Prop
/-- a two-place operation on values: f is binaryOp op, inplaceOp op or compareOp op -/
def OpR (X : Cx) (f : Value → Value → Sem Value) (r : R2) : Prop :=
  ∀ (pins : List (Addr × Obj)) (s : Shared) (σ : St) (H : Hp) (x y : V) (v u : Value) (Q : VK), Inv X pins σ H s → RelV x v → RelV y u → r x y H Q →
    wpAny (model X.prog X.w) X.A (f v u) (EP X pins σ Q) X.xe s
/-- a one-place operation -/
def UnR (X : Cx) (f : Value → Sem Value) (r : V → Hp → VK → Prop) : Prop :=
  ∀ (pins : List (Addr × Obj)) (s : Shared) (σ : St) (H : Hp) (x : V) (v : Value) (Q : VK), Inv X pins σ H s → RelV x v → r x H Q →
    wpAny (model X.prog X.w) X.A (f v) (EP X pins σ Q) X.xe s
/-- a call of a value that is known (a builtin, a type) with values -/
def CallR (X : Cx) (f : Value) (r : List V → Hp → VK → Prop) : Prop :=
  ∀ (pins : List (Addr × Obj)) (s : Shared) (σ : St) (H : Hp) (xs : List V) (us : List Value) (Q : VK), Inv X pins σ H s → Vals xs us → r xs H Q →
    wpAny (model X.prog X.w) X.A (call f us) (EP X pins σ Q) X.xe s
/-- a value's truth -/
def TruR (X : Cx) (r : V → Hp → (Bool → Hp → Prop) → Prop) : Prop :=
  ∀ (pins : List (Addr × Obj)) (s : Shared) (σ : St) (H : Hp) (x : V) (v : Value) (Q : Bool → Hp → Prop), Inv X pins σ H s → RelV x v → r x H Q →
    wpAny (model X.prog X.w) X.A (truthy v) (TP X pins σ Q) X.xe s

def tOp (r : R2) (ta tb : TE) : TE := fun σ H Q => ta σ H fun x H1 => tb σ H1 fun y H2 => r x y H2 Q
def tUn (r : V → Hp → VK → Prop) (ta : TE) : TE := fun σ H Q => ta σ H fun x H1 => r x H1 Q
/-- ints in, under C, and a value out -/
def rI (C : Int → Int → Prop) (g : Int → Int → V) : R2 := fun x y H Q => ∃ i j, x = .int i ∧ y = .int j ∧ C i j ∧ Q (g i j) H
def rI0 (g : Int → Int → V) : R2 := fun x y H Q => ∃ i j, x = .int i ∧ y = .int j ∧ Q (g i j) H
def rU (g : Int → V) : V → Hp → VK → Prop := fun x H Q => ∃ i, x = .int i ∧ Q (g i) H

section
variable {X : Cx} {a b c : Expr} {ta tb tc : TE} {pos : Pos}

theorem binT (ha : PE X a ta) (hb : PE X b tb) {pins : List (Addr × Obj)} {s : Shared} {σ : St} {H : Hp} {R : V → V → Hp → Prop} (I : Inv X pins σ H s)
    (h : ta σ H fun x H1 => tb σ H1 fun y H2 => R x y H2) {Q : Value → Shared → Prop} {f : Value → Value → Sem Value}
    (hf : ∀ v u s2 x y H2, Inv X pins σ H2 s2 → RelV x v → RelV y u → R x y H2 → wpAny (model X.prog X.w) X.A (f v u) Q X.xe s2) :
    wpAny (model X.prog X.w) X.A (eval a X.env) (fun v s₁ => wpAny (model X.prog X.w) X.A (eval b X.env) (fun u s₂ => wpAny (model X.prog X.w) X.A (f v u) Q X.xe s₂) X.xe s₁) X.xe s := by
  refine thn (ha pins s σ H _ I h) fun v s1 ⟨x, H1, I1, r1, q1⟩ => ?_
  refine thn (hb pins s1 σ H1 _ I1 q1) fun u s2 ⟨y, H2, I2, r2, q2⟩ => ?_
  exact hf v u s2 x y H2 I2 r1 r2 q2

theorem pe_op {op : Operator} {r : R2} (ho : OpR X (binaryOp op) r) (ha : PE X a ta) (hb : PE X b tb) : PE X (.BinOp a op b pos) (tOp r ta tb) := by
  intro pins s σ H Q I h
  exact wpAny_BinOp (binT ha hb I h fun v u s2 x y H2 I2 rx ry q => ho pins s2 σ H2 x y v u Q I2 rx ry q)
theorem pe_un {op : UnaryOp} {r : V → Hp → VK → Prop} (ho : UnR X (unaryOp op) r) (ha : PE X a ta) : PE X (.UnaryOp op a pos) (tUn r ta) := by
  intro pins s σ H Q I h
  exact UnaryOp_ (thn (ha pins s σ H _ I h) fun v s1 ⟨x, H1, I1, r1, q1⟩ => ho pins s1 σ H1 x v Q I1 r1 q1)
/-! ### ints -/
theorem opI {f : Value → Value → Sem Value} {C : Int → Int → Prop} {g : Int → Int → Int}
    (rule : ∀ (i j : Int) (t u : Tok) (s : Shared) (Q : Value → Shared → Prop) (E : Value → Shared → Prop), C i j → Q (.int (g i j) s.toks) { s with toks := s.toks + 1 } → wpAny (model X.prog X.w) X.A (f (.int i t) (.int j u)) Q E s) :
    OpR X f (rI C fun i j => .int (g i j)) := by
  intro pins s σ H x y v u Q I rx ry h
  obtain ⟨i, j, rfl, rfl, hc, q⟩ := h
  obtain ⟨t, rfl⟩ := rx
  obtain ⟨t', rfl⟩ := ry
  exact rule i j t t' s _ _ hc ⟨.int (g i j), H, I.tok _, ⟨_, rfl⟩, q⟩
theorem opI0 {f : Value → Value → Sem Value} {g : Int → Int → Int}
    (rule : ∀ (i j : Int) (t u : Tok) (s : Shared) (Q : Value → Shared → Prop) (E : Value → Shared → Prop), Q (.int (g i j) s.toks) { s with toks := s.toks + 1 } → wpAny (model X.prog X.w) X.A (f (.int i t) (.int j u)) Q E s) :
    OpR X f (rI0 fun i j => .int (g i j)) := by
  intro pins s σ H x y v u Q I rx ry h
  obtain ⟨i, j, rfl, rfl, q⟩ := h
  obtain ⟨t, rfl⟩ := rx
  obtain ⟨t', rfl⟩ := ry
  exact rule i j t t' s _ _ ⟨.int (g i j), H, I.tok _, ⟨_, rfl⟩, q⟩
theorem opB0 {f : Value → Value → Sem Value} {g : Int → Int → Bool}
    (rule : ∀ (i j : Int) (t u : Tok) (s : Shared) (Q : Value → Shared → Prop) (E : Value → Shared → Prop), Q (.bool (g i j)) s → wpAny (model X.prog X.w) X.A (f (.int i t) (.int j u)) Q E s) :
    OpR X f (rI0 fun i j => .bl (g i j)) := by
  intro pins s σ H x y v u Q I rx ry h
  obtain ⟨i, j, rfl, rfl, q⟩ := h
  obtain ⟨t, rfl⟩ := rx
  obtain ⟨t', rfl⟩ := ry
  exact rule i j t t' s _ _ ⟨.bl (g i j), H, I, rfl, q⟩

def CDiv (i j : Int) : Prop := 0 < j ∧ j < 1073741824
def CPow (i j : Int) : Prop := 0 ≤ j ∧ j ≤ 1000000 ∧ i.natAbs < 2 ^ 64
def CMul (i j : Int) : Prop := (-(2 ^ 64) < i ∧ i < 2 ^ 64) ∨ (-(2 ^ 64) < j ∧ j < 2 ^ 64)
theorem CMul.ok {i j : Int} (h : CMul i j) : IntMulOk i j := by
  rcases h with ⟨h1, h2⟩ | ⟨h1, h2⟩
  · exact .of_left (intBits_le_64 h1 h2)
  · exact .of_right (intBits_le_64 h1 h2)
theorem op_add : OpR X (binaryOp .Add) (rI0 fun i j => .int (i + j)) := opI0 fun _ _ _ _ _ _ _ q => add_int q
theorem op_sub : OpR X (binaryOp .Sub) (rI0 fun i j => .int (i - j)) := opI0 fun _ _ _ _ _ _ _ q => sub_int q
theorem op_mul : OpR X (binaryOp .Mult) (rI CMul fun i j => .int (i * j)) := opI fun _ _ _ _ _ _ _ hc q => mul_int q hc.ok
/-- // by a positive divisor -/
theorem op_fdiv : OpR X (binaryOp .FloorDiv) (rI CDiv fun i j => .int (i / j)) := opI fun i j _ _ _ _ _ hc q => by
  have h1 : (0 : Int) < j := hc.1
  have h2 : j < 1073741824 := hc.2
  exact floordiv_int (by omega) (by rw [Int.fdiv_eq_ediv_of_nonneg i (by omega)]; exact q) (.inl (PyProof.noPylong_small (by omega)))
/-- % by a positive divisor of any size -/
theorem op_mod : OpR X (binaryOp .Mod) (rI (fun _ j => 0 < j) fun i j => .int (i % j)) := opI fun i j _ _ _ _ _ hc q => by
  have h1 : (0 : Int) < j := hc
  exact mod_int' (by omega) (by rw [Int.fmod_eq_emod_of_nonneg i (by omega)]; exact q)
theorem op_pow : OpR X (binaryOp .Pow) (rI CPow fun i j => .int (i ^ j.toNat)) := opI fun _ _ _ _ _ _ _ hc q => pow_int_small hc.1 hc.2.1 hc.2.2 q
theorem unI {f : Value → Sem Value} {g : Int → Int}
    (rule : ∀ (i : Int) (t : Tok) (s : Shared) (Q : Value → Shared → Prop) (E : Value → Shared → Prop), Q (.int (g i) s.toks) { s with toks := s.toks + 1 } → wpAny (model X.prog X.w) X.A (f (.int i t)) Q E s) :
    UnR X f (rU fun i => .int (g i)) := by
  intro pins s σ H x v Q I rx h
  obtain ⟨i, rfl, q⟩ := h
  obtain ⟨t, rfl⟩ := rx
  exact rule i t s _ _ ⟨.int (g i), H, I.tok _, ⟨_, rfl⟩, q⟩
theorem un_neg : UnR X (unaryOp .USub) (rU fun i => .int (-i)) := unI fun _ _ _ _ _ q => neg_int q
/-! ### bools among ints: n += (a < b) -/
end

/-! ### comparisons -/
/-- the scalars that == tells apart as data does -/
def scal : V → V → Bool
  | .non, .non => true | .non, .int _ => true | .int _, .non => true | .non, .bl _ => true | .bl _, .non => true | .non, .str _ => true | .str _, .non => true
  | .int _, .int _ => true | .bl _, .bl _ => true | .str _, .str _ => true | .byt _, .byt _ => true
  | .int _, .str _ => true | .str _, .int _ => true | .bl _, .str _ => true | .str _, .bl _ => true
  | _, _ => false
def rEq : R2 := fun x y H Q => scal x y = true ∧ Q (.bl (decide (x = y))) H
def rNe : R2 := fun x y H Q => scal x y = true ∧ Q (.bl (!decide (x = y))) H

theorem dec_int {i j : Int} : decide (V.int i = V.int j) = (i == j) := by
  rw [Bool.eq_iff_iff]
  simp
theorem dec_bl {i j : Bool} : decide (V.bl i = V.bl j) = (i == j) := by
  rw [Bool.eq_iff_iff]
  simp
theorem dec_str {i j : Str} : decide (V.str i = V.str j) = (i == j) := by
  rw [Bool.eq_iff_iff]
  simp
theorem dec_byt {i j : Array UInt8} : decide (V.byt i = V.byt j) = (i.toList == j.toList) := by
  rw [Bool.eq_iff_iff]
  cases i
  cases j
  simp

section
variable {X : Cx} {a b c : Expr} {ta tb tc : TE} {pos : Pos}
theorem fin_bl {pins : List (Addr × Obj)} {σ : St} {H : Hp} {s : Shared} {Q : VK} {k k' : Bool} (I : Inv X pins σ H s) (q : Q (.bl k) H) (e : k = k') : EP X pins σ Q (.bool k') s := by
  subst e
  exact ⟨.bl k, H, I, rfl, q⟩
theorem op_eq : OpR X (compareOp .Eq) rEq := by
  intro pins s σ H x y v u Q I rx ry h
  obtain ⟨hs, q⟩ := h
  cases x with
  | non =>
    cases rx
    cases y with
    | non => cases ry; exact PySem.EqNone.eq_none_none (fin_bl I q (by simp))
    | bl j => cases ry; exact PySem.EqNone.eq_none_bool (fin_bl I q (by simp))
    | int j => obtain ⟨t', rfl⟩ := ry; exact PySem.EqNone.eq_none_int (fin_bl I q (by simp))
    | str j => obtain ⟨t', rfl⟩ := ry; exact PySem.EqNone.eq_none_str (fin_bl I q (by simp))
    | _ => exact absurd (show false = true from hs) Bool.false_ne_true
  | bl i =>
    cases rx
    cases y with
    | non => cases ry; exact PySem.EqNone.eq_bool_none (fin_bl I q (by simp))
    | bl j => cases ry; exact eq_bool (fin_bl I q dec_bl)
    | str j => obtain ⟨t', rfl⟩ := ry; exact PySem.EqMixed.eq_bool_str (fin_bl I q (by simp))
    | _ => exact absurd (show false = true from hs) Bool.false_ne_true
  | int i =>
    obtain ⟨t, rfl⟩ := rx
    cases y with
    | non => cases ry; exact PySem.EqNone.eq_int_none (fin_bl I q (by simp))
    | int j => obtain ⟨t', rfl⟩ := ry; exact eq_int (fin_bl I q dec_int)
    | str j => obtain ⟨t', rfl⟩ := ry; exact PySem.EqMixed.eq_int_str (fin_bl I q (by simp))
    | _ => exact absurd (show false = true from hs) Bool.false_ne_true
  | str i =>
    obtain ⟨t, rfl⟩ := rx
    cases y with
    | non => cases ry; exact PySem.EqNone.eq_str_none (fin_bl I q (by simp))
    | bl j => cases ry; exact PySem.EqMixed.eq_str_bool (fin_bl I q (by simp))
    | int j => obtain ⟨t', rfl⟩ := ry; exact PySem.EqMixed.eq_str_int (fin_bl I q (by simp))
    | str j => obtain ⟨t', rfl⟩ := ry; exact eq_str (fin_bl I q dec_str)
    | _ => exact absurd (show false = true from hs) Bool.false_ne_true
  | byt i =>
    obtain ⟨t, rfl⟩ := rx
    cases y with
    | byt j => obtain ⟨t', rfl⟩ := ry; exact PySem.W.eq_bytes (fin_bl I q dec_byt)
    | _ => exact absurd (show false = true from hs) Bool.false_ne_true
  | _ => cases y <;> exact absurd (show false = true from hs) Bool.false_ne_true
theorem op_ne : OpR X (compareOp .NotEq) rNe := by
  intro pins s σ H x y v u Q I rx ry h
  obtain ⟨hs, q⟩ := h
  cases x with
  | non =>
    cases rx
    cases y with
    | non => cases ry; exact PySem.EqNone.ne_none_none (fin_bl I q (by simp))
    | bl j => cases ry; exact PySem.EqNone.ne_none_bool (fin_bl I q (by simp))
    | int j => obtain ⟨t', rfl⟩ := ry; exact PySem.EqNone.ne_none_int (fin_bl I q (by simp))
    | str j => obtain ⟨t', rfl⟩ := ry; exact PySem.EqNone.ne_none_str (fin_bl I q (by simp))
    | _ => exact absurd (show false = true from hs) Bool.false_ne_true
  | bl i =>
    cases rx
    cases y with
    | non => cases ry; exact PySem.EqNone.ne_bool_none (fin_bl I q (by simp))
    | bl j => cases ry; exact ne_bool (fin_bl I q (congrArg not dec_bl))
    | str j => obtain ⟨t', rfl⟩ := ry; exact PySem.EqMixed.ne_bool_str (fin_bl I q (by simp))
    | _ => exact absurd (show false = true from hs) Bool.false_ne_true
  | int i =>
    obtain ⟨t, rfl⟩ := rx
    cases y with
    | non => cases ry; exact PySem.EqNone.ne_int_none (fin_bl I q (by simp))
    | int j => obtain ⟨t', rfl⟩ := ry; exact ne_int (fin_bl I q (congrArg not dec_int))
    | str j => obtain ⟨t', rfl⟩ := ry; exact PySem.EqMixed.ne_int_str (fin_bl I q (by simp))
    | _ => exact absurd (show false = true from hs) Bool.false_ne_true
  | str i =>
    obtain ⟨t, rfl⟩ := rx
    cases y with
    | non => cases ry; exact PySem.EqNone.ne_str_none (fin_bl I q (by simp))
    | bl j => cases ry; exact PySem.EqMixed.ne_str_bool (fin_bl I q (by simp))
    | int j => obtain ⟨t', rfl⟩ := ry; exact PySem.EqMixed.ne_str_int (fin_bl I q (by simp))
    | str j => obtain ⟨t', rfl⟩ := ry; exact ne_str (fin_bl I q (congrArg not dec_str))
    | _ => exact absurd (show false = true from hs) Bool.false_ne_true
  | byt i =>
    obtain ⟨t, rfl⟩ := rx
    cases y with
    | byt j => obtain ⟨t', rfl⟩ := ry; exact PySem.W.ne_bytes (fin_bl I q (congrArg not dec_byt))
    | _ => exact absurd (show false = true from hs) Bool.false_ne_true
  | _ => cases y <;> exact absurd (show false = true from hs) Bool.false_ne_true

theorem op_lt : OpR X (compareOp .Lt) (rI0 fun i j => .bl (decide (i < j))) := opB0 fun _ _ _ _ _ _ _ q => lt_int q
theorem op_le : OpR X (compareOp .LtE) (rI0 fun i j => .bl (decide (i ≤ j))) := opB0 fun _ _ _ _ _ _ _ q => le_int q
theorem op_gt : OpR X (compareOp .Gt) (rI0 fun i j => .bl (decide (j < i))) := opB0 fun _ _ _ _ _ _ _ q => gt_int q
theorem nomark (b : Expr) {op : CmpOp} (h : op ≠ .In := by decide) (h2 : op ≠ .NotIn := by decide) : behindInMarks op b = false := by
  have e1 : (op == CmpOp.In) = false := by cases op <;> first | rfl | exact absurd rfl h
  have e2 : (op == CmpOp.NotIn) = false := by cases op <;> first | rfl | exact absurd rfl h2
  cases b <;> simp [behindInMarks, e1, e2]
/-- a comparison as a value; hm: nomark b, or (for in, not in) by with_unfolding_all rfl -/
theorem pe_cmpR {op : CmpOp} {r : R2} (ho : OpR X (compareOp op) r) (ha : PE X a ta) (hb : PE X b tb) (hm : behindInMarks op b = false) : PE X (.Compare a [op] [b] pos) (tOp r ta tb) := by
  intro pins s σ H Q I h
  exact wpAny_Compare1 (binT ha hb I h fun v u s2 x y H2 I2 rx ry q => ho pins s2 σ H2 x y v u Q I2 rx ry q) hm
/-- a reading of a value as a test -/
def tTest (t : TE) : TT := fun σ H Q => t σ H fun x H' => ∃ k, x = .bl k ∧ Q k H'
theorem pt_cmpR {op : CmpOp} {r : R2} (ho : OpR X (compareOp op) r) (ha : PE X a ta) (hb : PE X b tb) (hm : behindInMarks op b = false) : PT X (.Compare a [op] [b] pos) (tTest (tOp r ta tb)) := by
  intro pins s σ H Q I h
  refine wpAny_isTrue_Compare1 (thn (ha pins s σ H _ I h) fun v s1 ⟨x, H1, I1, r1, q1⟩ => thn (hb pins s1 σ H1 _ I1 q1) fun u s2 ⟨y, H2, I2, r2, q2⟩ =>
    thn (ho pins s2 σ H2 x y v u _ I2 r1 r2 q2) fun c s3 ⟨z, H3, I3, r3, k, e, q3⟩ => ?_) hm
  subst e
  cases r3
  exact wpAny_truthy_bool ⟨H3, I3, q3⟩
/-- a op1 b op2 c -/
def tChain (r r' : R2) (ta tb tc : TE) : TE := fun σ H Q => ta σ H fun x H1 => tb σ H1 fun y H2 => r x y H2 fun z H3 => ∃ k, z = .bl k ∧
  (if k = true then tc σ H3 fun w' H4 => r' y w' H4 Q else Q (.bl false) H3)
theorem pe_chain {op op' : CmpOp} {r r' : R2} (ho : OpR X (compareOp op) r) (ho' : OpR X (compareOp op') r') (ha : PE X a ta) (hb : PE X b tb) (hc : PE X c tc)
    (hm : lastMarks [op, op'] [b, c] = false := by with_unfolding_all rfl) : PE X (.Compare a [op, op'] [b, c] pos) (tChain r r' ta tb tc) := by
  intro pins s σ H Q I h
  refine Compare_chain (thn (ha pins s σ H _ I h) fun v s1 ⟨x, H1, I1, r1, q1⟩ => chain_link (thn (hb pins s1 σ H1 _ I1 q1) fun u s2 ⟨y, H2, I2, r2, q2⟩ =>
    thn (ho pins s2 σ H2 x y v u _ I2 r1 r2 q2) fun d s3 ⟨z, H3, I3, r3, k, e, q3⟩ => ?_)) hm
  subst e
  cases r3
  refine wpAny_truthy_bool ?_
  cases k with
  | false => exact ite_ff ⟨.bl false, H3, I3, rfl, q3⟩
  | true => exact ite_tt (chain_last (thn (hc pins s3 σ H3 _ I3 q3) fun w' s4 ⟨z', H4, I4, r4, q4⟩ => ho' pins s4 σ H4 y z' u w' Q I4 r2 r4 q4))
theorem pt_chain {op op' : CmpOp} {r r' : R2} (ho : OpR X (compareOp op) r) (ho' : OpR X (compareOp op') r') (ha : PE X a ta) (hb : PE X b tb) (hc : PE X c tc)
    (hm : lastMarks [op, op'] [b, c] = false := by with_unfolding_all rfl) : PT X (.Compare a [op, op'] [b, c] pos) (tTest (tChain r r' ta tb tc)) := by
  intro pins s σ H Q I h
  refine isTrue_chain (thn (ha pins s σ H _ I h) fun v s1 ⟨x, H1, I1, r1, q1⟩ => test_link (thn (hb pins s1 σ H1 _ I1 q1) fun u s2 ⟨y, H2, I2, r2, q2⟩ =>
    thn (ho pins s2 σ H2 x y v u _ I2 r1 r2 q2) fun d s3 ⟨z, H3, I3, r3, k, e, q3⟩ => ?_)) hm
  subst e
  cases r3
  refine wpAny_truthy_bool ?_
  cases k with
  | false =>
    obtain ⟨k', e', q'⟩ := q3
    cases e'
    exact ite_ff ⟨H3, I3, q'⟩
  | true =>
    refine ite_tt (test_last (thn (hc pins s3 σ H3 _ I3 q3) fun w' s4 ⟨z', H4, I4, r4, q4⟩ => thn (ho' pins s4 σ H4 y z' u w' _ I4 r2 r4 q4) fun d' s5 ⟨z2, H5, I5, r5, k2, e2, q5⟩ => ?_))
    subst e2
    cases r5
    exact wpAny_truthy_bool ⟨H5, I5, q5⟩

/-! ### truth -/
/-- a value's truth by the abstract heap -/
def TruV (K : PySem.W.Frag) (x : V) (H : Hp) (k : Bool) : Prop :=
  match x with
  | .non => k = false
  | .bl b => k = b
  | .int i => k = (i != 0)
  | .str y => y.length ≤ sizeLine ∧ k = ((y.length : Int) != 0)
  | .byt y => y.size ≤ sizeLine ∧ k = ((y.size : Int) != 0)
  | .ref p => (∃ xs, SqL K H p xs ∧ k = !xs.isEmpty) ∨ (∃ xs, SqT K H p xs ∧ k = !xs.isEmpty) ∨ ∃ kvs, H p = some (.dK kvs) ∧ k = !kvs.isEmpty
  | _ => False
theorem isEmpty_kv {κ : Type} {kvs : List (κ × V)} {vs : List (κ × Value)} (r : KV kvs vs) : (!vs.isEmpty) = !kvs.isEmpty := by
  cases r <;> rfl
theorem isEmpty_of {xs : List V} {its : List Value} (r : Vals xs its) : (!its.toArray.isEmpty) = !xs.isEmpty := by
  cases r <;> simp
theorem line63 : (sizeLine : Nat) < 2 ^ 63 := by rw [sizeLine_eq]; decide
theorem tru_ok : TruR X (fun x H Q => ∃ k, TruV X.K x H k ∧ Q k H) := by
  intro pins s σ H x v Q I rx h
  obtain ⟨k, e, q⟩ := h
  have hl := line63
  have hs : sizeLine = 16777216 := sizeLine_eq
  cases x with
  | non =>
    cases rx
    have e' : k = false := e
    subst e'
    exact truthy_none ⟨H, I, q⟩
  | bl b =>
    cases rx
    have e' : k = b := e
    subst e'
    exact wpAny_truthy_bool ⟨H, I, q⟩
  | int i =>
    obtain ⟨t, rfl⟩ := rx
    have e' : k = (i != 0) := e
    subst e'
    exact PySem.P.truthy_int ⟨H, I, q⟩
  | str y =>
    obtain ⟨t, rfl⟩ := rx
    obtain ⟨hy, e'⟩ : y.length ≤ sizeLine ∧ k = ((y.length : Int) != 0) := e
    subst e'
    exact PySem.P.truthy_str (by omega) ⟨H, I.tok _, q⟩
  | byt y =>
    obtain ⟨t, rfl⟩ := rx
    obtain ⟨hy, e'⟩ : y.size ≤ sizeLine ∧ k = ((y.size : Int) != 0) := e
    subst e'
    exact PySem.W.truthy_bytes (by omega) ⟨H, I.tok _, q⟩
  | ref p =>
    cases rx
    have e' : (∃ xs, SqL X.K H p xs ∧ k = !xs.isEmpty) ∨ (∃ xs, SqT X.K H p xs ∧ k = !xs.isEmpty) ∨ ∃ kvs, H p = some (.dK kvs) ∧ k = !kvs.isEmpty := e
    rcases e' with ⟨xs, hx, e'⟩ | ⟨xs, hx, e'⟩ | ⟨kvs, hx, e'⟩
    · subst e'
      obtain ⟨its, r, pl, hz⟩ := I.list hx
      have hlen := r.length
      exact wpAny_truthy_list pl.isList (by simp only [List.size_toArray]; omega) ⟨H, I.tok _, by rw [isEmpty_of r]; exact q⟩
    · subst e'
      obtain ⟨its, r, pl, hz⟩ := I.tuple hx
      have hlen := r.length
      exact truthy_tuple pl (by simp only [List.size_toArray]; omega) ⟨H, I.tok _, by rw [isEmpty_of r]; exact q⟩
    · subst e'
      obtain ⟨hz, hS, vs, r, m⟩ : kvs.length ≤ sizeLine ∧ (p == sysModules) = false ∧ ∃ vs, KV kvs vs ∧ s.heap.DictOf (mixKind X.prog X.w) p vs := I.hok p _ hx
      have hlen : kvs.length = vs.length := Paired.length r
      exact wpAny_truthy_dict hS m (by omega) ⟨H, I.tok _, by rw [isEmpty_kv r]; exact q⟩
  | _ => exact (show False from e).elim
/-- any expression whose test is its value's truth (a name, a call, a subscript, a field ..: he by fun _ => rfl) -/
theorem pt_truth (ha : PE X a ta) (he : ∀ whole, isTrue a X.env whole = (do let v ← whole; standAt a.pos; holding [v] (truthy v))) :
    PT X a (fun σ H Q => ta σ H fun x H' => ∃ k, TruV X.K x H' k ∧ Q k H') := by
  intro pins s σ H Q I h
  exact isTrue_plain (thn (ha pins s σ H _ I h) fun v s1 ⟨x, H1, I1, r1, q1⟩ => tru_ok pins s1 σ H1 x v Q I1 r1 q1) (he _)

/-! ### strs and bytes -/
/-! ### scalar builtins, by CallR -/
theorem vals1 {x : V} {us : List Value} (r : Vals [x] us) : ∃ u, us = [u] ∧ RelV x u := by
  cases r with
  | cons r1 r2 => cases r2; exact ⟨_, rfl, r1⟩
theorem vals2 {x y : V} {us : List Value} (r : Vals [x, y] us) : ∃ u w', us = [u, w'] ∧ RelV x u ∧ RelV y w' := by
  cases r with
  | cons r1 r2 =>
    cases r2 with
    | cons r3 r4 => cases r4; exact ⟨_, _, rfl, r1, r3⟩
theorem call_max2 (hc : X.calm = true) : CallR X (.builtin "max") (fun xs H Q => ∃ i j, xs = [.int i, .int j] ∧ Q (.int (if j > i then j else i)) H) := by
  intro pins s σ H xs us Q I r h
  obtain ⟨i, j, rfl, q⟩ := h
  obtain ⟨u, w', rfl, ⟨t, rfl⟩, ⟨t', rfl⟩⟩ := vals2 r
  refine max_two_ints (I.ok.hd hc) fun h' tk k => ⟨_, H, I.kept k, ?_, q⟩
  by_cases hj : j > i
  · rw [if_pos hj, if_pos hj]; exact ⟨_, rfl⟩
  · rw [if_neg hj, if_neg hj]; exact ⟨_, rfl⟩
theorem call_min2 (hc : X.calm = true) : CallR X (.builtin "min") (fun xs H Q => ∃ i j, xs = [.int i, .int j] ∧ Q (.int (if j < i then j else i)) H) := by
  intro pins s σ H xs us Q I r h
  obtain ⟨i, j, rfl, q⟩ := h
  obtain ⟨u, w', rfl, ⟨t, rfl⟩, ⟨t', rfl⟩⟩ := vals2 r
  refine min_two_ints (I.ok.hd hc) fun h' tk k => ⟨_, H, I.kept k, ?_, q⟩
  by_cases hj : j < i
  · rw [if_pos hj, if_pos hj]; exact ⟨_, rfl⟩
  · rw [if_neg hj, if_neg hj]; exact ⟨_, rfl⟩
theorem call_int1 : CallR X (.type "int") (fun xs H Q => (∃ i, xs = [.int i] ∧ Q (.int i) H) ∨ ∃ k, xs = [.bl k] ∧ Q (.int (if k then 1 else 0)) H) := by
  intro pins s σ H xs us Q I r h
  rcases h with ⟨i, rfl, q⟩ | ⟨k, rfl, q⟩
  · obtain ⟨u, rfl, t, rfl⟩ := vals1 r
    exact call_int_int ⟨.int i, H, I, ⟨_, rfl⟩, q⟩
  · obtain ⟨u, rfl, r1⟩ := vals1 r
    cases r1
    exact call_int_bool ⟨.int (if k then 1 else 0), H, I.tok _, ⟨_, rfl⟩, q⟩
end
end L2

namespace L2
open PySem PySem.Spec PyProof.Rows

/-! ### an instance, its attributes a map -/
structure ObjM (h : Heap) (x dx C : Addr) (mA : Str → Option Value) : Prop where
  obj : h.get? x = some (PySem.W.instObj C dx)
  ns : h.Ns1 dx mA
  ne : dx ≠ x

theorem lookIn_ns {h : Heap} {dx : Addr} {mA : Str → Option Value} (n : h.Ns1 dx mA) : ∃ od, h.get? dx = some od ∧ ∀ name, PySem.W.lookIn name od = some (mA name) := by
  obtain ⟨o, es, ep, ho, hd, hk, _, hm⟩ := n
  refine ⟨o, ho, fun name => ?_⟩
  have e := hm name
  unfold nsFind findBy at e
  rw [← Array.find?_toList] at e
  unfold PySem.W.lookIn
  rw [hd]
  dsimp only
  split
  · rename_i y q
    rw [q] at e
    exact congrArg some e
  · rename_i q
    rw [q] at e
    have a : es.toList.any (·.refKey) = false := by
      rw [List.any_eq_false]
      intro y hy
      obtain ⟨z, t, hkey⟩ := hk y (Array.mem_toList_iff.mp hy)
      simp [DictEntry.refKey, hkey]
    have a' : ¬ es.toList.any (·.refKey) = true := by rw [a]; exact Bool.false_ne_true
    rw [if_neg a']
    exact congrArg some e

theorem ObjM.look {h : Heap} {x dx C : Addr} {mA : Str → Option Value} (I : ObjM h x dx C mA) : ∃ od, PySem.W.InstAt h x (PySem.W.instObj C dx) C (some od) ∧ ∀ name, PySem.W.lookIn name od = some (mA name) :=
  let ⟨od, ho, hl⟩ := lookIn_ns I.ns
  ⟨od, ⟨I.obj, rfl, rfl, ho⟩, hl⟩

section
variable {prog : Program} {w : World} {A : Around} {E : Value → Shared → Prop} {s : Shared} {K : PySem.W.Frag} {x dx C f : Addr} {mA : Str → Option Value} {name : Str} {v : Value}

theorem get_map {expr : Bool} {Q : Value → Shared → Prop} (X : K.In s.heap) (I : ObjM s.heap x dx C mA) (hg : PySem.W.plainGet K C name = true) (hh : PySem.W.hasDictIn K C = true)
    (ha : PySem.W.findIn K (.ref C) name = some none) (hv : mA name = some v) (hv' : PySem.W.handedIn v = true) (h : Q v { s with toks := s.toks + 1 }) :
    wpAny (model prog w) A (getAttr (.ref x) name expr) Q E s := by
  obtain ⟨od, J, hl⟩ := I.look
  exact PySem.W.get_value X J (PySem.W.plainGet_of hg).1 (PySem.W.findObj_own hh ha rfl (by rw [hl, hv])) hv' h

theorem get_meth {pl : Sem Bool} {Q : Value × List Value → Shared → Prop} (X : K.In s.heap) (I : ObjM s.heap x dx C mA) (hg : PySem.W.plainGet K C name = true)
    (hf : PySem.W.findIn K (.ref C) name = some (some (.ref f))) (ht : PySem.W.isFn K (.ref f) = true) (hv : mA name = none) (h : Q (.ref f, [.ref x]) s) :
    wpAny (model prog w) A (getMethod (.ref x) name pl) Q E s := by
  obtain ⟨od, J, hl⟩ := I.look
  exact PySem.W.method_fn X J (PySem.W.plainGet_of hg).1 (PySem.W.plainGet_of hg).2 hf (beq_iff_eq.mp ht) (by show (PySem.W.lookIn name od).map (·.isSome) = some false; rw [hl, hv]; rfl) h

theorem set_map {ns : List Str} {Q : Unit → Shared → Prop} (X : K.In s.heap) (I : ObjM s.heap x dx C mA)
    (hs : PySem.W.findIn K (.ref C) "__setattr__" = some (some (.builtin "object.__setattr__"))) (hp : PySem.W.plainOver K C = true) (ht : PySem.W.takerIn K C name = some none) (hh : PySem.W.hasDictIn K C = true)
    (hw : PySem.Within mA ns) (hsz : ns.length ≤ sizeLine)
    (h : ∀ h', ObjM h' x dx C (fun y => if y = name then some v else mA y) → Heap.SameBut dx s.heap h' → Q () { s with heap := h', toks := s.toks + 2 }) :
    wpAny (model prog w) A (setAttr (.ref x) name v) Q E s := by
  obtain ⟨od, J, hl⟩ := I.look
  refine PySem.W.set_plain X J hs (PySem.W.osa_open (s := { s with toks := s.toks + 1 }) (r := none) X J hp ht fun b => ?_)
  obtain ⟨cd, hc, hd'⟩ := PySem.W.any_some hh
  have hx : s.heap.get? x = some ⟨.ref C, some dx, .plain, #[]⟩ := I.obj
  refine wpAny_bind (wpAny_pure (wpAny_bind (wpAny_bind (wpAny_loadPart hx (wpAny_bind (PySem.W.Looks.here (s := { s with toks := s.toks + 1 }) (PySem.W.looks_clsIn X hc) ?_))))))
  rw [hd']
  refine wpAny_pure (a := some dx) (wpAny_bind (wpAny_pure (wpAny_bind ?_)))
  refine wpAny_nsSet1 (s := { s with toks := s.toks + 1 }) I.ns fun h' hn2 hs2 => ?_
  obtain ⟨oD, esD, epD, hoD, hdD, hcD⟩ := hn2.count (PySem.Within.cons name v hw)
  refine wpAny_bind (wpAny_lookBehind hoD (by rw [hdD]; exact pastItsLine_dict (Nat.le_trans hcD (by rw [List.length_cons]; omega))) ?_)
  exact wpAny_pure (h _ ⟨(hs2.2 _ (Ne.symm I.ne)).trans I.obj, hn2, I.ne⟩ hs2)

/-- C(..): the dict at the heap's end, the instance behind it; then its __init__ -/
theorem make_map {R : Result → Shared → Prop} {vs : List Value} {kw : List (Str × Value)} (X : K.In s.heap) (hm : PySem.W.makesIn K C = true)
    (hi : PySem.W.findIn K (.ref C) "__init__" = some (some (.ref f))) (hf : PySem.W.typeIn K (.ref f) = some (.type "function"))
    (h : codeAny (model prog w) (A.under (.builtin "type.__call__" ⟨.ref C :: vs, kw⟩)) (.call (.ref f) ⟨.ref (s.heap.objs.size + 1) :: vs, kw⟩) (PySem.W.InitBack (s.heap.objs.size + 1) R)
      { s with heap := (s.heap.push PySem.W.emptyDict).push (PySem.W.instObj C s.heap.objs.size) }) :
    codeAny (model prog w) A (.call (.ref C) ⟨vs, kw⟩) R s := by
  obtain ⟨hh, g, d, t, os⟩ := s
  exact PySem.W.make_core (PySem.W.makes_of X hm) (PySem.W.looks_findIn X hi) (fun self => PySem.W.bind_fn X self hf) (.inl rfl) h
end

/-! ### the attributes as a list of pairs -/
def putF (f : Str) (v : V) : List (Str × V) → List (Str × V)
  | [] => [(f, v)]
  | (g, x) :: r => if g = f then (g, v) :: r else (g, x) :: putF f v r
theorem lookup_putF (f g : Str) (v : V) : ∀ fs : List (Str × V), (putF f v fs).lookup g = if g = f then some v else fs.lookup g
  | [] => by
    show List.lookup g [(f, v)] = _
    by_cases h : g = f
    · have hb : (g == f) = true := beq_iff_eq.mpr h
      simp only [List.lookup, hb, if_pos h]
    · have hb : (g == f) = false := beq_eq_false_iff_ne.mpr h
      simp only [List.lookup, hb, if_neg h]
  | (k, x) :: r => by
    have ih := lookup_putF f g v r
    rw [show putF f v ((k, x) :: r) = (if k = f then (k, v) :: r else (k, x) :: putF f v r) from rfl]
    by_cases hk : k = f
    · rw [if_pos hk]
      by_cases h : g = k
      · have hb : (g == k) = true := beq_iff_eq.mpr h
        simp only [List.lookup, hb, if_pos (h.trans hk)]
      · have hb : (g == k) = false := beq_eq_false_iff_ne.mpr h
        simp only [List.lookup, hb, if_neg (fun e : g = f => h (e.trans hk.symm))]
    · rw [if_neg hk]
      by_cases h : g = k
      · have hb : (g == k) = true := beq_iff_eq.mpr h
        simp only [List.lookup, hb, if_neg (fun e : g = f => hk (h.symm.trans e))]
      · have hb : (g == k) = false := beq_eq_false_iff_ne.mpr h
        simp only [List.lookup, hb]
        exact ih
theorem keys_putF (f : Str) (v : V) : ∀ fs : List (Str × V), f ∈ (putF f v fs).map (·.1) ∧ ∀ g, g ∈ fs.map (·.1) → g ∈ (putF f v fs).map (·.1)
  | [] => ⟨by simp [putF], fun g h => by simp at h⟩
  | (k, x) :: r => by
    obtain ⟨i1, i2⟩ := keys_putF f v r
    rw [show putF f v ((k, x) :: r) = (if k = f then (k, v) :: r else (k, x) :: putF f v r) from rfl]
    by_cases hk : k = f
    · rw [if_pos hk]
      subst hk
      exact ⟨by simp, fun g h => by simpa using h⟩
    · rw [if_neg hk]
      refine ⟨?_, fun g h => ?_⟩
      · rw [List.map_cons]
        exact List.mem_cons_of_mem _ i1
      · rw [List.map_cons] at h ⊢
        rcases List.mem_cons.mp h with e | e
        · exact List.mem_cons.mpr (.inl e)
        · exact List.mem_cons_of_mem _ (i2 g e)
theorem length_putF (f : Str) (v : V) : ∀ fs : List (Str × V), (putF f v fs).length ≤ fs.length + 1
  | [] => by simp [putF]
  | (k, x) :: r => by
    have ih := length_putF f v r
    rw [show putF f v ((k, x) :: r) = (if k = f then (k, v) :: r else (k, x) :: putF f v r) from rfl]
    by_cases hk : k = f
    · rw [if_pos hk, List.length_cons, List.length_cons]; omega
    · rw [if_neg hk, List.length_cons, List.length_cons]; omega

theorem RelO.some_of {v : V} {o : Option Value} (r : RelO (some v) o) : ∃ u, o = some u ∧ RelV v u := by
  cases o with
  | none => exact (show False from r).elim
  | some u => exact ⟨u, rfl, r⟩
theorem RelO.none_of {o : Option Value} (r : RelO none o) : o = none := by
  cases o with
  | none => rfl
  | some u => exact (show False from r).elim
theorem handed_of {v : V} {u : Value} (r : RelV v u) : PySem.W.handedIn u = true := by
  cases v with
  | non => cases (show u = Value.none from r); rfl
  | bl b => cases (show u = Value.bool b from r); rfl
  | int i => obtain ⟨t, e⟩ := (show ∃ t, u = Value.int i t from r); cases e; rfl
  | str x => obtain ⟨t, e⟩ := (show ∃ t, u = Value.str x t from r); cases e; rfl
  | byt b => obtain ⟨t, e⟩ := (show ∃ t, u = Value.bytes b t from r); cases e; rfl
  | flt b => obtain ⟨t, e⟩ := (show ∃ t, u = Value.float b t from r); cases e; rfl
  | ref a => cases (show u = Value.ref a from r); rfl
  | ty n => cases (show u = Value.type n from r); rfl

section
variable {P : Program} {w : World} {H H' : Hp} {h h' : Heap} {a C dx : Addr} {fs fs' : List (Str × V)}
theorem ins_get (hok : HOk P w H h) (e : H a = some (.ins C dx fs)) : ∃ mA, ObjM h a dx C mA ∧ (∀ f, RelO (fs.lookup f) (mA f)) ∧ PySem.Within mA (fs.map (·.1)) ∧ fs.length ≤ 1000 ∧ H dx = some (.own a) := by
  obtain ⟨d, z, ne, ob, mA, n, r, q⟩ := (show ObjOk P w H h a (.ins C dx fs) from hok a _ e)
  exact ⟨mA, ⟨ob, n, ne⟩, r, q, z, d⟩
end

/-! ### what of the text a class must have -/
structure Cls (K : PySem.W.Frag) (C : Addr) : Prop where
  pg : PySem.W.plainGet K C Str.empty = true
  hd : PySem.W.hasDictIn K C = true
  po : PySem.W.plainOver K C = true
  sa : PySem.W.findIn K (.ref C) "__setattr__" = some (some (.builtin "object.__setattr__"))
theorem Cls.get {K : PySem.W.Frag} {C : Addr} (c : Cls K C) (f : Str) : PySem.W.plainGet K C f = true := c.pg
/-- no class of it has the name -/
def NoAttr (K : PySem.W.Frag) (C : Addr) (f : Str) : Prop := PySem.W.findIn K (.ref C) f = some none
theorem NoAttr.taker {K : PySem.W.Frag} {C : Addr} {f : Str} (n : NoAttr K C f) : PySem.W.takerIn K C f = some none := by
  unfold PySem.W.takerIn
  rw [show PySem.W.findIn K (.ref C) f = some none from n]
  rfl
/-- a method: a plain def of the class or of one above it -/
structure Meth (K : PySem.W.Frag) (C : Addr) (m : Str) (f : Addr) : Prop where
  at_ : PySem.W.findIn K (.ref C) m = some (some (.ref f))
  fn : PySem.W.isFn K (.ref f) = true
  kp : PySem.W.keepIn K (.ref f) = true

section
variable {X : Cx} {pins : List (Addr × Obj)} {σ : St} {H : Hp} {s : Shared} {a C dx : Addr} {fs : List (Str × V)} {f : Str} {v : V} {A : Around} {E : Value → Shared → Prop}

theorem getattr_ok {b : Bool} {Q : Value → Shared → Prop} (I : Inv X pins σ H s) (e : H a = some (.ins C dx fs)) (c : Cls X.K C) (n : NoAttr X.K C f) (l : fs.lookup f = some v)
    (h : ∀ u s', Inv X pins σ H s' → RelV v u → Q u s') : wpAny (model X.prog X.w) A (getAttr (.ref a) f b) Q E s := by
  obtain ⟨mA, O, r, _, _, _⟩ := ins_get I.hok e
  obtain ⟨u, hu, ru⟩ := RelO.some_of (v := v) (o := mA f) (by rw [← l]; exact r f)
  exact get_map I.kIn O (c.get f) c.hd n hu (handed_of ru) (h u _ (I.tok _) ru)

theorem getmeth_ok {m : Str} {g : Addr} {pl : Sem Bool} {Q : Value × List Value → Shared → Prop} (I : Inv X pins σ H s) (e : H a = some (.ins C dx fs)) (c : Cls X.K C) (k : Meth X.K C m g) (l : fs.lookup m = none)
    (h : Q (.ref g, [.ref a]) s) : wpAny (model X.prog X.w) A (getMethod (.ref a) m pl) Q E s := by
  obtain ⟨mA, O, r, _, _, _⟩ := ins_get I.hok e
  have hn : mA m = none := RelO.none_of (by rw [← l]; exact r m)
  exact get_meth I.kIn O (c.get m) k.at_ k.fn hn h

theorem setattr_ok {y : V} {u : Value} {Q : Unit → Shared → Prop} (I : Inv X pins σ H s) (e : H a = some (.ins C dx fs)) (c : Cls X.K C) (n : NoAttr X.K C f) (hl : fs.length < 1000) (ry : RelV y u)
    (h : ∀ s', Inv X pins σ (upd H a (.ins C dx (putF f y fs))) s' → Q () s') : wpAny (model X.prog X.w) A (setAttr (.ref a) f u) Q E s := by
  obtain ⟨mA, O, r, wi, _, ho⟩ := ins_get I.hok e
  have hz : (fs.map (·.1)).length ≤ sizeLine := by rw [List.length_map, sizeLine_eq]; omega
  refine set_map I.kIn O c.sa c.po n.taker c.hd wi hz fun h' O' sb => h _ ?_
  have hd : ∃ o, h'.get? dx = some o := let ⟨o, _, _, e', _⟩ := O'.ns; ⟨o, e'⟩
  refine I.write (x := a) (e := dx) (by rw [e]; exact True.intro) (.inr ho) (fun b q hb z => (sb.2 b hb).trans z) hd ?_
  refine ⟨by rw [upd_ne O.ne]; exact ho, ?_, O.ne, O'.obj, _, O'.ns, fun g => ?_, fun g hg => ?_⟩
  · have := length_putF f y fs; omega
  · show RelO ((putF f y fs).lookup g) (if g = f then some u else mA g)
    rw [lookup_putF]
    by_cases q : g = f
    · rw [if_pos q, if_pos q]; exact ry
    · rw [if_neg q, if_neg q]; exact r g
  · by_cases q : g = f
    · rw [q]; exact (keys_putF f y fs).1
    · refine (keys_putF f y fs).2 g (wi g fun z => hg ?_)
      show (if g = f then some u else mA g) = none
      rw [if_neg q]; exact z

/-- a new instance, tracked, without attributes -/
theorem Inv.made (I : Inv X pins σ H s) : Inv X pins σ (upd (upd H s.heap.objs.size (.own (s.heap.objs.size + 1))) (s.heap.objs.size + 1) (.ins C s.heap.objs.size []))
    { s with heap := (s.heap.push PySem.W.emptyDict).push (PySem.W.instObj C s.heap.objs.size) } := by
  have e1 : (s.heap.push PySem.W.emptyDict).get? s.heap.objs.size = some PySem.W.emptyDict := Heap.get?_push_size s.heap rfl
  have e2 : ((s.heap.push PySem.W.emptyDict).push (PySem.W.instObj C s.heap.objs.size)).get? (s.heap.objs.size + 1) = some (PySem.W.instObj C s.heap.objs.size) := by
    have := Heap.get?_push_size (s.heap.push PySem.W.emptyDict) (o := PySem.W.instObj C s.heap.objs.size) rfl
    rwa [Heap.size_push] at this
  have e3 : (s.heap.push PySem.W.emptyDict).Ns s.heap.objs.size (fun _ => none) := ⟨PySem.W.emptyDict, #[], _, e1, rfl, (fun e he => absurd he (by simp)), fun _ => rfl⟩
  have I1 := I.laid (a := s.heap.objs.size) (o := .own (s.heap.objs.size + 1)) (h' := s.heap.push PySem.W.emptyDict) (t' := s.toks) (fun b u q => Heap.get?_push_of_some _ q) (Nat.le_refl _) ⟨_, e1⟩
  refine I1.laid (a := s.heap.objs.size + 1) (o := .ins C s.heap.objs.size []) (t' := s.toks) (fun b u q => Heap.get?_push_of_some _ q) (Nat.le_of_eq (Heap.size_push _ _)) ?_
  have ne : s.heap.objs.size ≠ s.heap.objs.size + 1 := Nat.ne_of_lt (Nat.lt_succ_self _)
  refine ⟨by rw [upd_ne ne, upd_same], Nat.zero_le _, ne, e2, fun _ => none, (Heap.Ns1.of_empty e3).at fun o q => Heap.get?_push_of_some _ q, fun _ => True.intro, fun y hy => absurd rfl hy⟩

/-- e.f where nothing but the object is asked: through attributeBase (super) and the last hold -/
theorem attr_of {prog : Program} {w : World} {env : Env} {e : Expr} {f : Str} {pos : Pos} {s : Shared} {Q : Value → Shared → Prop} (hb : attributeBase e f env (eval e env) = eval e env)
    (h : wpAny (model prog w) A (eval e env) (fun o s₁ => wpAny (model prog w) A (getAttr o f true) Q E s₁) E s) : wpAny (model prog w) A (eval (.Attribute e f pos) env) Q E s :=
  Attribute_any_ h (by rw [arm_eval_Attribute, hb])
end

/-! ### readings and rules -/
/-- e.f, an attribute of the instance -/
def tFld (K : PySem.W.Frag) (ta : TE) (f : Str) : TE := fun σ H Q => ta σ H fun x H1 => ∃ a C dx fs v, x = .ref a ∧ H1 a = some (.ins C dx fs) ∧ Cls K C ∧ NoAttr K C f ∧ fs.lookup f = some v ∧ Q v H1
/-- e.f = value -/
def sFld (K : PySem.W.Frag) (ta tv : TE) (f : Str) : TS := fun D σ H => tv σ H fun y H1 => ta σ H1 fun x H2 => ∃ a C dx fs, x = .ref a ∧ H2 a = some (.ins C dx fs) ∧ Cls K C ∧ NoAttr K C f ∧ fs.length < 1000 ∧
  D.nx σ (upd H2 a (.ins C dx (putF f y fs)))
section
variable {X : Cx} {o e value : Expr} {f : Str} {pos pos' tpos : Pos} {ta tv : TE}
theorem pe_fld (he : PE X e ta) (hb : attributeBase e f X.env (eval e X.env) = eval e X.env) : PE X (.Attribute e f pos) (tFld X.K ta f) := by
  intro pins s σ H Q I h
  refine attr_of hb (thn (he pins s σ H _ I h) fun u s1 ⟨x, H1, I1, rx, a, C, dx, fs, v, ex, ea, c, n, l, q⟩ => ?_)
  subst ex
  obtain rfl : u = Value.ref a := rx
  exact getattr_ok I1 ea c n l fun u' s2 I2 ru => ⟨v, H1, I2, ru, q⟩
theorem ps_fld (ha : PE X o ta) (hv : PE X value tv) (hs : swapsWith value (some (.Attribute o f pos')) pos.line X.env = pure false) : PS X (.Assign [.Attribute o f pos'] value pos) (sFld X.K ta tv f) := by
  intro pins s σ H D I h
  refine plainObj_wpAny_Assign_Attribute (thn (hv pins s σ H _ I h) fun u s1 ⟨y, H1, I1, ry, q⟩ => thn (ha pins s1 σ H1 _ I1 q) fun ov s2 ⟨x, H2, I2, rx, a, C, dx, fs, ex, ea, c, n, l, q2⟩ => ?_) hs
  subst ex
  obtain rfl : ov = Value.ref a := rx
  exact setattr_ok I2 ea c n l ry fun s3 I3 => ⟨σ, _, I3, q2⟩
/-- what is between an instance and its method: the tree of a method call -/
theorem methcall_of {pl : Sem Bool} {m : Str} {apos : Pos} {args : List Expr} {pins : List (Addr × Obj)} {s : Shared} {σ : St} {H : Hp} {Q : Value → Shared → Prop} {te : TE} (he : PE X e te) (I : Inv X pins σ H s)
    (h : te σ H fun x H1 => ∃ a C dx fs g, x = .ref a ∧ H1 a = some (.ins C dx fs) ∧ Cls X.K C ∧ Meth X.K C m g ∧ fs.lookup m = none ∧
      ∀ s1, Inv X pins σ H1 s1 → wpAny (model X.prog X.w) X.A (callWith pos (.ref g) [.ref a] (backTo pos (starEach args X.env)) (backToKw pos (keywordEach [] X.env))) Q X.xe s1)
    (ht : eval (.Call (.Attribute e m apos) args [] pos) X.env = (do
      let ov ← eval e X.env
      standAt apos.atName
      let (f, first) ← holding [ov] (getMethod ov m pl)
      callWith pos f first (backTo pos (starEach args X.env)) (backToKw pos (keywordEach [] X.env)))) :
    wpAny (model X.prog X.w) X.A (eval (.Call (.Attribute e m apos) args [] pos) X.env) Q X.xe s := by
  refine PySem.W.methodCall_KW (pl := pl) (thn (he pins s σ H _ I h) fun u s1 ⟨x, H1, I1, rx, a, C, dx, fs, g, ex, ea, c, k, l, q⟩ => ?_) ht
  subst ex
  obtain rfl : u = Value.ref a := rx
  exact getmeth_ok I1 ea c k l (q s1 I1)
end

/-! ### isinstance -/
section
variable {X : Cx} {pins : List (Addr × Obj)} {σ : St} {H : Hp} {s : Shared} {A : Around} {E : Value → Shared → Prop} {Q : Value → Shared → Prop} {c : Value} {b : Bool}
/-- the type of a value, as the fragment's deciders take it; for an instance its class -/
inductive TyOf (K : PySem.W.Frag) (H : Hp) : V → Value → Prop where
  | non : TyOf K H .non (.type "NoneType")
  | bl (x : Bool) : TyOf K H (.bl x) (.type "bool")
  | int (i : Int) : TyOf K H (.int i) (.type "int")
  | str (x : Str) : TyOf K H (.str x) (.type "str")
  | flt (x : UInt64) : TyOf K H (.flt x) (.type "float")
  | lst {a : Addr} {xs : List V} (e : H a = some (.lst xs)) : TyOf K H (.ref a) (.type "list")
  | frz {a : Addr} {o : Obj} {xs : List V} (e : H a = some (.frz o (.lst xs))) : TyOf K H (.ref a) (.type "list")
  | tup {a : Addr} {xs : List V} (e : H a = some (.tup xs)) : TyOf K H (.ref a) (.type "tuple")
  | dK {a : Addr} {kvs : List (Key × V)} (e : H a = some (.dK kvs)) : TyOf K H (.ref a) (.type "dict")
  | dT {a : Addr} {kvs : List (List Key × V)} (e : H a = some (.dT kvs)) : TyOf K H (.ref a) (.type "dict")
  | ins {a C dx : Addr} {fs : List (Str × V)} (e : H a = some (.ins C dx fs)) (cl : Cls K C) (ha : PySem.W.findIn K (.ref C) "__class__" = some (some (.builtin "object.__class__")))
      (hn : PySem.W.specialIn K (.builtin "object.__class__") "__get__" = some (some (.builtin "getset_descriptor.__get__"))) (htk : PySem.W.takesIn K (.builtin "object.__class__") = some true)
      (hm : PySem.W.mroIn K C (.type "object") = some true) : TyOf K H (.ref a) (.ref C)
/-- isinstance(x, c) for one class c, a built-in or an own one: kitOne's answer -/
theorem isinst_ok {x : V} {u t : Value} (I : Inv X pins σ H s) (rx : RelV x u) (ty : TyOf X.K H x t) (e : PySem.W.kitOne X.K t c = some b) (h : ∀ tk, Q (.bool b) { s with toks := tk }) :
    wpAny (model X.prog X.w) A (call (.builtin "isinstance") [u, c]) Q E s := by
  cases ty with
  | non => cases (show u = Value.none from rx); exact PySem.W.kia_one PySem.W.kitx_none I.kIn True.intro e (fun z => nomatch z) h
  | bl y => cases (show u = Value.bool y from rx); exact PySem.W.kia_one PySem.W.kitx_bool I.kIn True.intro e (fun z => nomatch z) h
  | int i => obtain ⟨t, q⟩ := (show ∃ t, u = Value.int i t from rx); cases q; exact PySem.W.kia_one PySem.W.kitx_int I.kIn True.intro e (fun z => nomatch z) h
  | str y => obtain ⟨t, q⟩ := (show ∃ t, u = Value.str y t from rx); cases q; exact PySem.W.kia_one PySem.W.kitx_str I.kIn True.intro e (fun z => nomatch z) h
  | flt y => obtain ⟨t, q⟩ := (show ∃ t, u = Value.float y t from rx); cases q; exact PySem.W.kia_one PySem.W.kitx_float I.kIn True.intro e (fun z => nomatch z) h
  | @lst a xs ea =>
    cases (show u = Value.ref a from rx)
    obtain ⟨_, _, n, _, h1⟩ := (show ObjOk X.prog X.w H s.heap a (.lst xs) from I.hok a _ ea)
    exact PySem.W.kia_one PySem.W.kitx_list I.kIn ⟨_, h1, rfl⟩ e (fun z => nomatch z) h
  | @frz a ob xs ea =>
    cases (show u = Value.ref a from rx)
    obtain ⟨_, _, _, n, _, h1⟩ := (show ObjOk X.prog X.w H s.heap a (.frz ob (.lst xs)) from I.hok a _ ea)
    exact PySem.W.kia_one PySem.W.kitx_list I.kIn ⟨_, h1, rfl⟩ e (fun z => nomatch z) h
  | @tup a xs ea =>
    cases (show u = Value.ref a from rx)
    obtain ⟨_, _, _, p⟩ := (show ObjOk X.prog X.w H s.heap a (.tup xs) from I.hok a _ ea)
    obtain ⟨o, h1, h2, _⟩ := p
    exact PySem.W.kia_one PySem.W.kitx_tuple I.kIn ⟨o, h1, h2⟩ e (fun z => nomatch z) h
  | @dK a kvs ea =>
    cases (show u = Value.ref a from rx)
    obtain ⟨_, _, vs, _, p⟩ := (show ObjOk X.prog X.w H s.heap a (.dK kvs) from I.hok a _ ea)
    obtain ⟨o, es, ep, h1, h2, _⟩ := p
    exact PySem.W.kia_one PySem.W.kitx_dict I.kIn ⟨o, h1, h2.1⟩ e (fun z => nomatch z) h
  | @dT a kvs ea =>
    cases (show u = Value.ref a from rx)
    obtain ⟨_, _, xs, _, o, es, ep, h1, h2, _⟩ := (show ObjOk X.prog X.w H s.heap a (.dT kvs) from I.hok a _ ea)
    exact PySem.W.kia_one PySem.W.kitx_dict I.kIn ⟨o, h1, h2.1⟩ e (fun z => nomatch z) h
  | @ins a C dx fs ea cl ha hn htk hm =>
    cases (show u = Value.ref a from rx)
    obtain ⟨mA, O, _⟩ := ins_get I.hok ea
    obtain ⟨od, J, _⟩ := O.look
    exact PySem.W.kia_one (PySem.W.kitx_own (cl.get _) cl.hd ha hn htk hm) I.kIn J e (fun z => nomatch z) h
end
end L2

namespace L2
open PySem PySem.Spec PyProof.Rows

/-! ### room -/
structure Room (k : Nat) (A : Around) : Prop where
  hd : A.handled = none
  dp : A.depth + 3 * k + 5 < recursionLimit
  un : A.units + 16 * k + 200 < cLine
theorem Room.mono {j k : Nat} {A : Around} (r : Room k A) (h : j ≤ k) : Room j A := ⟨r.hd, by have := r.dp; omega, by have := r.un; omega⟩
theorem Room.deeper {k : Nat} {A : Around} (r : Room (k + 1) A) (env : Env) : Room k (A.deeper env) :=
  ⟨r.hd, by have := r.dp; show A.depth + 1 + 3 * k + 5 < _; omega, by have := r.un; show A.units + 3 + 16 * k + 200 < _; omega⟩
theorem make_depth {A : Around} {C : Addr} {us : List Value} {kw : List (Str × Value)} : (A.under (.builtin "type.__call__" ⟨.ref C :: us, kw⟩)).depth = A.depth + 1 := by
  first | rfl | simp [Around.under, Code.weight, Code.isCreation, Code.isGuard, Code.isCaller, Code.frames, Code.isFrame, guardIds]
theorem make_units {A : Around} {C : Addr} {us : List Value} {kw : List (Str × Value)} : (A.under (.builtin "type.__call__" ⟨.ref C :: us, kw⟩)).units = A.units + 1 := by
  first | rfl | simp [Around.under, Code.cUnits, Code.frames, Code.isFrame]
theorem Room.make {k : Nat} {A : Around} (r : Room (k + 1) A) (C : Addr) (us : List Value) (kw : List (Str × Value)) : Room k (A.under (.builtin "type.__call__" ⟨.ref C :: us, kw⟩)) :=
  ⟨r.hd, by have := r.dp; rw [make_depth]; omega, by have := r.un; rw [make_units]; omega⟩
theorem Room.depth {k : Nat} {A : Around} (r : Room k A) : A.depth < recursionLimit := by have := r.dp; omega
theorem Room.units {k : Nat} {A : Around} (r : Room k A) : A.units + 64 < cLine := by have := r.un; omega
/-! ### argument lists and displays -/
def tNil : TA := fun _ H Q => Q [] H
def tCons (ta : TE) (tr : TA) : TA := fun σ H Q => ta σ H fun x H1 => tr σ H1 fun xs H2 => Q (x :: xs) H2
section
variable {X : Cx} {e : Expr} {es : List Expr} {te : TE} {t : TA} {pos : Pos}
theorem pa_nil : PA X [] tNil := fun _ _ _ _ H Q I h => Calls.spliced_nil ⟨[], H, I, .nil, h⟩
theorem pa_cons (ha : PE X e te) (hr : PA X es t) (hs : starEach (e :: es) X.env = (false, eval e X.env) :: starEach es X.env := by rfl) : PA X (e :: es) (tCons te t) := by
  intro pos pins s σ H Q I h
  rw [hs]
  show wpAny _ _ (spliced ((false, eval e X.env) :: backTo pos (starEach es X.env))) _ _ s
  refine Calls.spliced_cons (thn (ha pins s σ H _ I h) fun u s1 ⟨x, H1, I1, r1, q1⟩ => ?_)
  exact thn (hr pos pins s1 σ H1 _ I1 q1) fun us s2 ⟨xs, H2, I2, r2, q2⟩ => ⟨x :: xs, H2, I2, .cons r1 r2, q2⟩

/-- a tuple, a list of written items -/
def tTup (t : TA) : TE := fun σ H Q => t σ H fun xs H1 => xs.length ≤ sizeLine ∧ ∀ p, H1 p = none → Q (.ref p) (upd H1 p (.tup xs))
def tLst (t : TA) : TE := fun σ H Q => t σ H fun xs H1 => xs.length ≤ sizeLine ∧ ∀ p, H1 p = none → Q (.ref p) (upd H1 p (.lst xs))
theorem pe_tup {x1} (h : PA X es t) : PE X (.Tuple es x1 pos) (tTup t) := by
  intro pins s σ H Q I hq
  refine wpAny_Tuple_spliced (thn (h pos pins s σ H _ I hq) fun us s1 ⟨xs, H1, I1, r, z, q⟩ => ⟨by rw [← r.length]; exact z, ?_⟩)
  have hf : H1 s1.heap.objs.size = none := I1.hok.fresh (Nat.le_refl _)
  refine ⟨.ref s1.heap.objs.size, upd H1 s1.heap.objs.size (.tup xs), I1.laid (t' := s1.toks) (fun b u e => Heap.get?_push_of_some _ e) (Nat.le_refl _) ?_, rfl, q _ hf⟩
  exact ⟨z, us, r, ⟨_, Heap.get?_push_size _ rfl, rfl, _, rfl⟩⟩
theorem pe_lst (h : PA X es t) : PE X (.List es pos) (tLst t) := by
  intro pins s σ H Q I hq
  refine wpAny_List_spliced (thn (h pos pins s σ H _ I hq) fun us s1 ⟨xs, H1, I1, r, z, q⟩ => ⟨by rw [← r.length]; exact z, ?_⟩)
  have hf : H1 s1.heap.objs.size = none := I1.hok.fresh (Nat.le_refl _)
  refine ⟨.ref s1.heap.objs.size, upd H1 s1.heap.objs.size (.lst xs), I1.laid (t' := s1.toks) (fun b u e => Heap.get?_push_of_some _ e) (Nat.le_refl _) ?_, rfl, q _ hf⟩
  exact ⟨z, us, 0, r, Heap.get?_push_size _ rfl⟩
end

/-! ### what a def promises -/
/-- a def's promise: the bound arguments in the parameters' order, the heap, the wanted end, the wanted exception -/
abbrev Sp := List V → Hp → VK → XK → Prop
/-- how an exception lies behind a call (file 08 gives it): the callers' frames, abstract heap and state ahead of the call, the wish, the exception, the state -/
abbrev CXT := List Env → Hp → Shared → XK → Value → Shared → Prop

/-- the state at a call -/
structure Env0 (P : Program) (w : World) (K : PySem.W.Frag) (mg : Str → Option Value) (base : Heap) (A : Around) (outer : List Env) (s : Shared) (H : Hp) : Prop where
  frames : A.frames = some outer
  mod : Mod K mg base
  bs : ∀ b o, base.get? b = some o → s.heap.get? b = some o ∧ H b = none
  bsz : base.objs.size ≤ s.heap.objs.size
  funs : s.heap.FunFrames base outer
  frf : ∀ b ∈ frs outer, H b = none
  hok : HOk P w H s.heap
  bare : AllBare s.gens
/-- a call's end -/
def CE (outer : List Env) (P : Program) (w : World) (H : Hp) (s : Shared) (Q : VK) (u : Value) (s' : Shared) : Prop :=
  ∃ v H', s'.os = s.os ∧ AllBare s'.gens ∧ Un (frs outer) [] H H' s.heap s'.heap ∧ HOk P w H' s'.heap ∧ RelV v u ∧ Q v H'
def CR (CX : CXT) (outer : List Env) (P : Program) (w : World) (H : Hp) (s : Shared) (Q : VK) (E : XK) (r : Result) (s' : Shared) : Prop :=
  match r with
  | .ok (.ret u) => CE outer P w H s Q u s'
  | .ok _ => False
  | .error e => CX outer H s E e s'
structure FnOk (P : Program) (w : World) (K : PySem.W.Frag) (mg : Str → Option Value) (base : Heap) (CX : CXT) (k : Nat) (f : Addr) (fd : FuncData) (ps : List Str) (sp : Sp) : Prop where
  len : ∀ vs H Q E, sp vs H Q E → vs.length = ps.length
  run : ∀ (A : Around) (outer : List Env) (s : Shared) (H : Hp) (args : Args) (us : List Value) (vs : List V) (Q : VK) (E : XK), Room k A → Env0 P w K mg base A outer s H → BindsTo s fd args (ps.zip us) → Vals vs us → sp vs H Q E →
    codeAny (model P w) A (.call (.ref f) args) (CR CX outer P w H s Q E) s
theorem FnOk.mono {P : Program} {w : World} {K : PySem.W.Frag} {mg : Str → Option Value} {base : Heap} {CX : CXT} {j k : Nat} {f : Addr} {fd : FuncData} {ps : List Str} {sp : Sp} (F : FnOk P w K mg base CX j f fd ps sp) (h : j ≤ k) :
    FnOk P w K mg base CX k f fd ps sp := ⟨F.len, fun A outer s H args us vs Q E hr => F.run A outer s H args us vs Q E (hr.mono h)⟩
theorem Env0.make {P : Program} {w : World} {K : PySem.W.Frag} {mg : Str → Option Value} {base : Heap} {A : Around} {outer : List Env} {s : Shared} {H : Hp} (e : Env0 P w K mg base A outer s H) (C : Addr) (us : List Value) (kw : List (Str × Value)) :
    Env0 P w K mg base (A.under (.builtin "type.__call__" ⟨.ref C :: us, kw⟩)) outer s H := ⟨by first | exact e.frames | (simpa [Around.under, Code.envs, Code.isFrame, pushEnvs] using e.frames), e.mod, e.bs, e.bsz, e.funs, e.frf, e.hok, e.bare⟩
section
variable {X : Cx} {pins : List (Addr × Obj)} {σ : St} {H : Hp} {s s' : Shared}
/-- from a body: what a callee wants -/
theorem Inv.env0 (I : Inv X pins σ H s) : Env0 X.prog X.w X.K X.mg X.base X.A X.stack s H :=
  ⟨I.ok.frames, I.ok.mod, I.bs, Nat.le_trans I.ok.bsz I.sz, I.stack, I.stkFree, I.hok, I.bare⟩
/-- behind a call -/
theorem Inv.after {Q : VK} {u : Value} (I : Inv X pins σ H s) (h : CE X.stack X.prog X.w H s Q u s') : EP X pins σ Q u s' := by
  obtain ⟨v, H', os, bare, un, hok, r, q⟩ := h
  obtain ⟨hh, g, d, t, os'⟩ := s'
  obtain rfl : os' = s.os := os
  exact ⟨v, H', I.call (h' := hh) (g' := g) (d' := d) (t' := t) (ch := []) un hok bare (fun b z => absurd z (by simp)), r, q⟩
end

/-! ### calls -/
/-- f(..): the written arguments, then the defaults dvs; E: what is wanted of an exception -/
def tCall (sp : Sp) (dvs : List V) (E : XK) (t : TA) : TE := fun σ H Q => t σ H fun vs H1 => sp (vs ++ dvs) H1 Q E
/-- o.m(..) of an instance of the class at C -/
def tMeth (C : Addr) (m : Str) (sp : Sp) (dvs : List V) (E : XK) (ta : TE) (t : TA) : TE := fun σ H Q => ta σ H fun x H1 => ∃ a dx fs, x = .ref a ∧ H1 a = some (.ins C dx fs) ∧ fs.lookup m = none ∧
  t σ H1 fun vs H2 => sp (x :: (vs ++ dvs)) H2 Q E
/-- C(..): a new instance and its dict, then __init__ -/
def tMake (C : Addr) (sp : Sp) (dvs : List V) (E : XK) (t : TA) : TE := fun σ H Q => t σ H fun vs H1 => ∀ x dx, H1 x = none → H1 dx = none → dx ≠ x →
  sp (.ref x :: (vs ++ dvs)) (upd (upd H1 dx (.own x)) x (.ins C dx [])) (fun v H2 => v = .non ∧ Q (.ref x) H2) E

/-- how the parameters are bound: us the positional arguments, kw the keywords' values by name, ds the defaults that fill up -/
def Binds (K : PySem.W.Frag) (fd : FuncData) (ps : List Str) (ds : List Value) : Prop :=
  ∀ (s : Shared) (us : List Value), K.In s.heap → (us ++ ds).length = ps.length → BindsTo s fd ⟨us, []⟩ (ps.zip (us ++ ds))
/-- every parameter is given -/
theorem Binds.all {K : PySem.W.Frag} {fd : FuncData} {ps : List Str} (h : ∀ us : List Value, us.length = ps.length → bindArgs fd ⟨us, []⟩ = pure (ps.zip us)) : Binds K fd ps [] := fun s us _ hl => by
  rw [List.append_nil] at hl ⊢
  exact .of_eq (h us hl)

/-- an exception of a callee reaches what this body wants of exceptions -/
def Passes (CX : CXT) (X : Cx) (E : XK) : Prop := ∀ (pins : List (Addr × Obj)) (σ : St) (H : Hp) (s : Shared) (e : Value) (s' : Shared), Inv X pins σ H s → CX X.stack H s E e s' → X.xe e s'

section
variable {X : Cx} {CX : CXT} {k : Nat} {f C : Addr} {fd : FuncData} {ps : List Str} {sp : Sp} {dvs : List V} {ds : List Value} {E : XK} {x m : Str} {p pos apos : Pos} {e o : Expr} {es : List Expr} {ta : TE} {t : TA}

/-- the callee runs -/
theorem run_fn {pins : List (Addr × Obj)} {σ : St} {H : Hp} {s : Shared} {Q : VK} {us : List Value} {vs : List V} (F : FnOk X.prog X.w X.K X.mg X.base CX k f fd ps sp) (hr : Room k X.A) (hb : Binds X.K fd ps ds) (hd : Vals dvs ds) (hx : Passes CX X E)
    (I : Inv X pins σ H s) (r : Vals vs us) (h : sp (vs ++ dvs) H Q E) : wpAny (model X.prog X.w) X.A (call (.ref f) us) (EP X pins σ Q) X.xe s := by
  have r2 : Vals (vs ++ dvs) (us ++ ds) := r.append hd
  have hl : (us ++ ds).length = ps.length := by rw [← r2.length]; exact F.len _ _ _ _ h
  refine wpAny_call (codeAny_mono (F.run X.A X.stack s H ⟨us, []⟩ (us ++ ds) (vs ++ dvs) Q E hr I.env0 (hb s us I.kIn hl) r2 h) fun r s' hq => ?_)
  cases r with
  | error e => exact hx pins σ H s e s' I hq
  | ok fl =>
    cases fl with
    | ret u => exact I.after hq
    | next => exact False.elim hq
    | brk => exact False.elim hq
    | cont => exact False.elim hq

theorem pe_call (F : FnOk X.prog X.w X.K X.mg X.base CX k f fd ps sp) (hr : Room k X.A) (hg : Gl X x) (hm : X.mg x = some (.ref f)) (hk : PySem.W.keepIn X.K (.ref f) = true) (hb : Binds X.K fd ps ds) (hd : Vals dvs ds) (hx : Passes CX X E)
    (ha : PA X (e :: es) t) (hdb : (x == ("__debug__" : Str)) = false := by decide) (he : starEach (e :: es) X.env = (false, eval e X.env) :: starEach es X.env := by rfl) (hpl : (backTo pos (starEach es X.env)).any (·.1) = false := by rfl) :
    PE X (.Call (.Name x p) (e :: es) [] pos) (tCall sp dvs E t) := by
  intro pins s σ H Q I h
  refine wpAny_Call_Name_kw (ld_glob I hg hm ?_ hdb)
  refine PySem.W.callWith_K (h₀ := X.base) I.ok.mod.kin hk (thn (ha pos pins s σ H _ I h) fun us s1 ⟨vs, H1, I1, r, q⟩ => ⟨I1.kIn, ?_⟩) he hpl
  exact run_fn F hr hb hd hx I1 r q
/-- o.m(e, ..) -/
theorem pe_meth {pl : Sem Bool} (he : PE X o ta) (c : Cls X.K C) (hm : Meth X.K C m f) (F : FnOk X.prog X.w X.K X.mg X.base CX k f fd ps sp) (hr : Room k X.A) (hb : Binds X.K fd ps ds) (hd : Vals dvs ds) (hx : Passes CX X E) (ha : PA X (e :: es) t)
    (hst : starEach (e :: es) X.env = (false, eval e X.env) :: starEach es X.env := by rfl) (hpl : (backTo pos (starEach es X.env)).any (·.1) = false := by rfl)
    (ht : eval (.Call (.Attribute o m apos) (e :: es) [] pos) X.env = (do
      let ov ← eval o X.env
      standAt apos.atName
      let (f, first) ← holding [ov] (getMethod ov m pl)
      callWith pos f first (backTo pos (starEach (e :: es) X.env)) (backToKw pos (keywordEach [] X.env))) := by rfl) :
    PE X (.Call (.Attribute o m apos) (e :: es) [] pos) (tMeth C m sp dvs E ta t) := by
  intro pins s σ H Q I h
  refine PySem.W.methodCall_KW (pl := pl) (thn (he pins s σ H _ I h) fun u s1 ⟨x, H1, I1, rx, a, dx, fs, ex, ea, l, q⟩ => ?_) ht
  subst ex
  obtain rfl : u = Value.ref a := rx
  refine getmeth_ok I1 ea c hm l ?_
  refine PySem.W.callWith_K (first := [.ref a]) (h₀ := X.base) I.ok.mod.kin hm.kp (thn (ha pos pins s1 σ H1 _ I1 q) fun us s2 ⟨vs, H2, I2, r, q2⟩ => ⟨I2.kIn, ?_⟩) hst hpl
  exact run_fn (us := .ref a :: us) (vs := .ref a :: vs) F hr hb hd hx I2 (.cons rfl r) q2
/-- o.m() -/
theorem pe_meth0 {pl : Sem Bool} (he : PE X o ta) (c : Cls X.K C) (hm : Meth X.K C m f) (F : FnOk X.prog X.w X.K X.mg X.base CX k f fd ps sp) (hr : Room k X.A) (hb : Binds X.K fd ps ds) (hd : Vals dvs ds) (hx : Passes CX X E)
    (ht : eval (.Call (.Attribute o m apos) [] [] pos) X.env = (do
      let ov ← eval o X.env
      standAt apos.atName
      let (f, first) ← holding [ov] (getMethod ov m pl)
      callWith pos f first (backTo pos (starEach [] X.env)) (backToKw pos (keywordEach [] X.env))) := by rfl) :
    PE X (.Call (.Attribute o m apos) [] [] pos) (tMeth C m sp dvs E ta tNil) := by
  intro pins s σ H Q I h
  refine PySem.W.methodCall_KW (pl := pl) (thn (he pins s σ H _ I h) fun u s1 ⟨x, H1, I1, rx, a, dx, fs, ex, ea, l, q⟩ => ?_) ht
  subst ex
  obtain rfl : u = Value.ref a := rx
  refine getmeth_ok I1 ea c hm l ?_
  exact PySem.W.callWith_K0 (first := [.ref a]) I1.kIn hm.kp (run_fn (us := [.ref a]) (vs := [.ref a]) F hr hb hd hx I1 (.cons rfl .nil) q)

/-- what a class must have to be made -/
structure Mk (K : PySem.W.Frag) (C f : Addr) : Prop where
  makes : PySem.W.makesIn K C = true
  init : PySem.W.findIn K (.ref C) "__init__" = some (some (.ref f))
  fn : PySem.W.isFn K (.ref f) = true
  kp : PySem.W.keepIn K (.ref C) = true

theorem run_make {pins : List (Addr × Obj)} {σ : St} {H : Hp} {s : Shared} {Q : VK} {us : List Value} {vs : List V} (M : Mk X.K C f) (F : FnOk X.prog X.w X.K X.mg X.base CX k f fd ps sp) (hr : Room (k + 1) X.A) (hb : Binds X.K fd ps ds) (hd : Vals dvs ds)
    (hx : Passes CX X E) (I : Inv X pins σ H s) (r : Vals vs us)
    (h : ∀ x dx, H x = none → H dx = none → dx ≠ x → sp (.ref x :: (vs ++ dvs)) (upd (upd H dx (.own x)) x (.ins C dx [])) (fun v H2 => v = .non ∧ Q (.ref x) H2) E) :
    wpAny (model X.prog X.w) X.A (call (.ref C) us) (EP X pins σ Q) X.xe s := by
  have hq := h (s.heap.objs.size + 1) s.heap.objs.size (I.hok.fresh (Nat.le_succ _)) (I.hok.fresh (Nat.le_refl _)) (Nat.ne_of_lt (Nat.lt_succ_self _))
  have I2 := Inv.made (C := C) I
  have r2 : Vals (V.ref (s.heap.objs.size + 1) :: (vs ++ dvs)) (Value.ref (s.heap.objs.size + 1) :: (us ++ ds)) := .cons rfl (r.append hd)
  have hl : (Value.ref (s.heap.objs.size + 1) :: us ++ ds).length = ps.length := by
    have e := r2.length
    rw [F.len _ _ _ _ hq] at e
    exact e.symm
  refine wpAny_call (make_map (f := f) I.kIn M.makes M.init (beq_iff_eq.mp M.fn) (codeAny_mono (F.run _ X.stack _ _ ⟨Value.ref (s.heap.objs.size + 1) :: us, []⟩ (Value.ref (s.heap.objs.size + 1) :: (us ++ ds)) _ _ E (hr.make C us [])
    (I2.env0.make C us []) (hb _ (Value.ref (s.heap.objs.size + 1) :: us) I2.kIn hl) r2 hq) fun r s' hq' => ?_))
  cases r with
  | error e => exact hx pins σ _ _ e s' I2 hq'
  | ok fl =>
    cases fl with
    | ret u =>
      obtain ⟨v, H', I3, rv, ev, q3⟩ := I2.after hq'
      subst ev
      exact ⟨rv, ⟨V.ref (s.heap.objs.size + 1), H', I3, rfl, q3⟩⟩
    | next => exact False.elim hq'
    | brk => exact False.elim hq'
    | cont => exact False.elim hq'
theorem pe_make (M : Mk X.K C f) (F : FnOk X.prog X.w X.K X.mg X.base CX k f fd ps sp) (hr : Room (k + 1) X.A) (hg : Gl X x) (hm : X.mg x = some (.ref C)) (hb : Binds X.K fd ps ds) (hd : Vals dvs ds) (hx : Passes CX X E)
    (ha : PA X (e :: es) t) (hdb : (x == ("__debug__" : Str)) = false := by decide) (he : starEach (e :: es) X.env = (false, eval e X.env) :: starEach es X.env := by rfl) (hpl : (backTo pos (starEach es X.env)).any (·.1) = false := by rfl) :
    PE X (.Call (.Name x p) (e :: es) [] pos) (tMake C sp dvs E t) := by
  intro pins s σ H Q I h
  refine wpAny_Call_Name_kw (ld_glob I hg hm ?_ hdb)
  refine PySem.W.callWith_K (h₀ := X.base) I.ok.mod.kin M.kp (thn (ha pos pins s σ H _ I h) fun us s1 ⟨vs, H1, I1, r, q⟩ => ⟨I1.kIn, ?_⟩) he hpl
  exact run_make M F hr hb hd hx I1 r q
end

/-! ### keywords -/
section
variable {X : Cx} {CX : CXT} {k : Nat} {f C : Addr} {fd : FuncData} {ps ks : List Str} {sp : Sp} {E : XK} {x m : Str} {p pos apos kpos : Pos} {e o : Expr} {es : List Expr} {kws : List Keyword} {te ta : TE} {t tk : TA} {nm : Option Str}
variable {g : List Value → List Value → List Value} {gV : List V → List V → List V}
end

/-! ### a def's body keeps its promise -/
/-- names: the parameters first -/
structure FnScope (N P : List Str) (sc : Scope) : Prop where
  kind : sc.kind = .function
  co : sc.isCoroutine = false
  gen : sc.isGenerator = false
  nd : N.Nodup
  pre : N.take P.length = P
  par : ∀ x ∈ P, sc.names.lookup x = some .local ∨ sc.names.lookup x = some .cell
  nofree : ∀ y ∈ sc.names, y.2 ≠ .free

theorem bindL_out {kindOf : Str → Option NameKind} {x : Str} : ∀ {binds : List (Str × Value)} {m : Str → Option Value}, (∀ v, (x, v) ∉ binds) → bindL kindOf binds m x = m x
  | [], _, _ => rfl
  | (n, v) :: r, m, h => by
    unfold bindL
    rw [bindL_out fun w hw => h w (List.mem_cons_of_mem _ hw)]
    split
    · have : x ≠ n := by rintro rfl; exact h v List.mem_cons_self
      simp [this]
    · rfl
theorem bindC_out {kindOf : Str → Option NameKind} {x : Str} : ∀ {binds : List (Str × Value)} {m : Str → Option Value}, (∀ v, (x, v) ∉ binds) → bindC kindOf binds m x = m x
  | [], _, _ => rfl
  | (n, v) :: r, m, h => by
    unfold bindC
    rw [bindC_out fun w hw => h w (List.mem_cons_of_mem _ hw)]
    split
    · rfl
    · have : x ≠ n := by rintro rfl; exact h v List.mem_cons_self
      simp [this]
theorem bindL_get {kindOf : Str → Option NameKind} {x : Str} {v : Value} : ∀ {P : List Str} {vs : List Value} {i : Nat} {m : Str → Option Value}, P.Nodup → P[i]? = some x → vs[i]? = some v → kindOf x = some .local →
    bindL kindOf (P.zip vs) m x = some v
  | [], _, _, _, _, h, _, _ => by simp at h
  | _ :: _, [], _, _, _, _, h, _ => by simp at h
  | p :: P, w :: vs, 0, m, nd, h1, h2, hk => by
    simp at h1 h2; subst h1; subst h2
    show bindL kindOf ((p, w) :: P.zip vs) m p = _
    unfold bindL
    rw [bindL_out fun v hv => (List.nodup_cons.mp nd).1 (List.of_mem_zip hv).1, if_pos hk]
    simp
  | p :: P, w :: vs, i + 1, m, nd, h1, h2, hk => by
    show bindL kindOf ((p, w) :: P.zip vs) m x = _
    unfold bindL
    exact bindL_get (i := i) (List.nodup_cons.mp nd).2 (by simpa using h1) (by simpa using h2) hk
theorem bindC_get {kindOf : Str → Option NameKind} {x : Str} {v : Value} : ∀ {P : List Str} {vs : List Value} {i : Nat} {m : Str → Option Value}, P.Nodup → P[i]? = some x → vs[i]? = some v → kindOf x ≠ some .local →
    bindC kindOf (P.zip vs) m x = some v
  | [], _, _, _, _, h, _, _ => by simp at h
  | _ :: _, [], _, _, _, _, h, _ => by simp at h
  | p :: P, w :: vs, 0, m, nd, h1, h2, hk => by
    simp at h1 h2; subst h1; subst h2
    show bindC kindOf ((p, w) :: P.zip vs) m p = _
    unfold bindC
    rw [bindC_out fun v hv => (List.nodup_cons.mp nd).1 (List.of_mem_zip hv).1, if_neg hk]
    simp
  | p :: P, w :: vs, i + 1, m, nd, h1, h2, hk => by
    show bindC kindOf ((p, w) :: P.zip vs) m x = _
    unfold bindC
    exact bindC_get (i := i) (List.nodup_cons.mp nd).2 (by simpa using h1) (by simpa using h2) hk

/-- the names' values at the entry -/
def start (N : List Str) (vs : List V) : St := vs.map some ++ List.replicate (N.length - vs.length) none

/-- the context of a def's body, at its entry; an exception leaves the frame, then lies as CX says -/
def cxOf (CX : CXT) (P : Program) (w : World) (K : PySem.W.Frag) (mg : Str → Option Value) (base : Heap) (N : List Str) (qual : Str) (scope : Scope) (f : Addr) (cd : Value) (A : Around) (outer : List Env) (s : Shared) (H : Hp) (E : XK) : Cx where
  prog := P
  w := w
  K := K
  mg := mg
  base := base
  A := A.deeper (envOfC qual scope s.heap.objs.size f cd)
  N := N
  s₀ := s
  H₀ := H
  env := envOfC qual scope s.heap.objs.size f cd
  outer := outer
  stack := envOfC qual scope s.heap.objs.size f cd :: outer
  ex := []
  calm := true
  fn := fun _ => true
  pn := []
  xe := fun e s' => wpAny (model P w) (A.deeper (envOfC qual scope s.heap.objs.size f cd)) (leaving (envOfC qual scope s.heap.objs.size f cd) e) (fun _ s'' => CX outer H s E e s'') (fun e' s'' => CX outer H s E e' s'') s'

theorem cell_has {sc : Scope} {n : Nat} {x : Str} (h : sc.names.lookup x = some .cell) : ∃ c, (cellsFrom n sc.names []).lookup x = some c := by
  have q := PySem.W.cellsFrom_some sc.names n [] (.inl h)
  exact Option.isSome_iff_exists.mp q

theorem inv_start {CX : CXT} {P : Program} {w : World} {K : PySem.W.Frag} {mg : Str → Option Value} {base : Heap} {N ps : List Str} {qual : Str} {scope : Scope} {f : Addr} {cd : Value} {A : Around} {outer : List Env} {s s1 : Shared} {H : Hp} {E : XK} {us : List Value} {vs : List V}
    (S : FnScope N ps scope) (hd : A.handled = none) (e0 : Env0 P w K mg base A outer s H) (hl : vs.length = ps.length) (r : Vals vs us)
    (x : InCallC s s.heap.objs.size (bindL (envOfC qual scope s.heap.objs.size f cd).kindOf (ps.zip us) fun _ => none) (cellsFrom (s.heap.objs.size + 1) scope.names []) (bindC (envOfC qual scope s.heap.objs.size f cd).kindOf (ps.zip us) fun _ => none) s1) :
    Inv (cxOf CX P w K mg base N qual scope f cd A outer s H E) [] (start N vs) H s1 := by
  have hpl : ps.length ≤ N.length := by have := congrArg List.length S.pre; rw [List.length_take] at this; omega
  obtain ⟨h1, tk, rfl, hk⟩ := x.done
  have noA : ∀ b : Addr, b ∉ (cxOf CX P w K mg base N qual scope f cd A outer s H E).ex := fun b z => absurd (show b ∈ ([] : List Addr) from z) (by simp)
  refine ⟨⟨e0.mod, S.kind, rfl, rfl, Nat.le_refl _, fun y z c h1 h2 => ?_, fun y hy => ?_, fun y c _ h => ?_, fun _ => hd, Around.frames_deeper e0.frames, .inr ⟨rfl, rfl⟩, fun b z => absurd z (noA b), e0.bs, e0.bsz, fun b _ _ => noA b, fun b z => absurd z (noA b), e0.funs, e0.frf⟩,
    rfl, e0.bare, Un.kept hk, ⟨_, x.toInCall.ns, fun i y v h1 h2 h3 => ?_⟩, fun y c h => ⟨_, x.cell y c h⟩, e0.hok.fresh (Nat.le_refl _), fun y c h => ?_, fun p hp => absurd (show p ∈ ([] : List (Addr × Obj)) from hp) (by simp), e0.hok.kept hk, ?_⟩
  · exact name_of_addr x.apart (PySem.mem_of_lookup h1) (PySem.mem_of_lookup h2)
  · have hy : scope.names.lookup y = some .cell ∨ scope.names.lookup y = some .free := hy
    rcases hy with hy | hy
    · exact cell_has hy
    · exact absurd rfl (S.nofree _ (PySem.mem_of_lookup hy))
  · exact Nat.le_of_lt (x.above y c (PySem.mem_of_lookup h))
  · have hi : i < vs.length := by
      unfold start at h2
      by_cases hi : i < vs.length
      · exact hi
      · rw [List.getElem?_append_right (by simpa using hi)] at h2
        rw [List.getElem?_replicate] at h2
        split at h2 <;> cases h2
    have ha : vs[i]? = some v := by
      unfold start at h2
      rw [List.getElem?_append_left (by simpa using hi), List.getElem?_map] at h2
      cases e : vs[i]? with
      | none => rw [e] at h2; cases h2
      | some a => rw [e] at h2; cases h2; rfl
    obtain ⟨u, hu, rv⟩ := r.get ha
    have hp : ps[i]? = some y := by
      rw [← S.pre, List.getElem?_take_of_lt (by omega)]; exact h1
    have ndP : ps.Nodup := by rw [← S.pre]; exact S.nd.sublist (List.take_sublist _ _)
    refine ⟨u, rv, ?_⟩
    rcases S.par y (List.mem_of_getElem? hp) with k | k
    · exact .inl ⟨k, bindL_get ndP hp hu k⟩
    · obtain ⟨c, e⟩ := cell_has (n := s.heap.objs.size + 1) k
      refine .inr ⟨.inl k, c, e, ?_⟩
      have q := x.cell y c e
      rw [bindC_get ndP hp hu (by show scope.names.lookup y ≠ _; rw [k]; decide)] at q
      exact q
  · exact e0.hok.fresh (Nat.le_of_lt (x.above y c (PySem.mem_of_lookup h)))
  · unfold start
    show _ = N.length
    rw [List.length_append, List.length_map, List.length_replicate]
    omega

/-- THE RULE: a def (or a method) of the text, by its body. The body's reading t is chosen for each entry; it is run at the parameters' values -/
theorem fn_of {CX : CXT} {P : Program} {w : World} {K : PySem.W.Frag} {mg : Str → Option Value} {base : Heap} {k : Nat} {f : Addr} {name qual : Str} {params : Arguments} {body : List Stmt} {scope : Scope} {dV kV doc pm cdv ct oc : Value} {an od : Option Addr}
    {osl : Array (Option Value)} {N ps : List Str} {sp : Sp} (lk : K.lookup f = some ⟨oc, od, .func (PySem.W.fnOf name qual params body scope dV kV doc pm an cdv ct), osl⟩) (hcd : PySem.W.codeIn K cdv qual = true) (S : FnScope N ps scope)
    (len : ∀ vs H Q E, sp vs H Q E → vs.length = ps.length)
    (hbody : ∀ (A : Around) (outer : List Env) (s : Shared) (H : Hp) (vs : List V) (Q : VK) (E : XK), Room k (A.deeper (envOfC qual scope s.heap.objs.size f cdv)) → sp vs H Q E →
      ∃ t, PSs (cxOf CX P w K mg base N qual scope f cdv A outer s H E) body t ∧ t { nx := fun _ H' => Q .non H', rt := Q } (start N vs) H) :
    FnOk P w K mg base CX (k + 1) f (PySem.W.fnOf name qual params body scope dV kV doc pm an cdv ct) ps sp := by
  refine ⟨len, fun A outer s H args us vs Q E hr e0 hb r hsp => ?_⟩
  have hl := len _ _ _ _ hsp
  have KX : K.In s.heap := e0.mod.kin.keeps fun b o e => (e0.bs b o e).1
  have lim : s.heap.NoLimit := e0.mod.nolimit.keeps fun b o e => (e0.bs b o e).1
  have hkind : ∀ y ∈ ps.zip us, scope.names.lookup y.1 = some .local ∨ (scope.names.lookup y.1 = some .cell ∧ ((cellsFrom (s.heap.objs.size + 1) scope.names []).lookup y.1).isSome = true) := fun ⟨n, v⟩ hy => by
    rcases S.par n (List.of_mem_zip hy).1 with q | q
    · exact .inl q
    · exact .inr ⟨q, PySem.W.cellsFrom_some _ _ _ (.inl q)⟩
  refine codeAny_call_function hr.depth (KX _ _ lk) rfl S.co S.gen rfl (PySem.W.codeRec_of KX hcd) (hb _ _ _ _ ?_)
  refine wpAny_newFunctionEnv_cells S.kind hkind fun env he s1 x => ?_
  subst he
  refine ⟨lim.keeps x.toInCall.keep, codeAny_func ?_⟩
  obtain ⟨t, ht, hq⟩ := hbody A outer s H vs Q E (hr.deeper _) hsp
  have I : Inv (cxOf CX P w K mg base N qual scope f cdv A outer s H E) [] (start N vs) H s1 := inv_start S hr.hd e0 hl r x
  refine wpAny_mono (ht [] s1 (start N vs) H _ I hq) (fun fl s' hs => ?_) fun e s' hs => hs
  have fin : ∀ {σ' : St} {H' : Hp} {v : V} {u : Value}, Inv (cxOf CX P w K mg base N qual scope f cdv A outer s H E) [] σ' H' s' → RelV v u → Q v H' → CE outer P w H s Q u s' :=
    fun {σ' H' v u} J rv q => ⟨v, H', J.os, J.bare, J.base, J.hok, rv, q⟩
  cases fl with
  | ret u =>
    obtain ⟨v, σ', H', J, rv, q⟩ := hs
    exact fin J rv q
  | next =>
    obtain ⟨σ', H', J, q⟩ := hs
    exact fin (v := V.non) (u := Value.none) J rfl q
  | brk =>
    obtain ⟨_, _, _, q⟩ := hs
    exact False.elim q
  | cont =>
    obtain ⟨_, _, _, q⟩ := hs
    exact False.elim q
end L2

namespace L2
open PySem PySem.Spec PyProof.Rows
section
variable {X : Cx} {x : Str} {p pos : Pos} {e : Expr} {es : List Expr} {t : TA} {id T : String} {r : List V → Hp → VK → Prop}

def tCB (r : List V → Hp → VK → Prop) (t : TA) : TE := fun σ H Q => t σ H fun vs H1 => r vs H1 Q
/-- f(e, ..), f a built-in function -/
theorem pe_callB (hc : CallR X (.builtin id) r) (hg : Gl X x) (hm : X.mg x = none) (hv : bootBuiltins x = some (.builtin id)) (ha : PA X (e :: es) t) (hn : x ≠ "__name__" := by decide) (hdb : (x == ("__debug__" : Str)) = false := by decide)
    (he : starEach (e :: es) X.env = (false, eval e X.env) :: starEach es X.env := by rfl) (hpl : (backTo pos (starEach es X.env)).any (·.1) = false := by rfl) : PE X (.Call (.Name x p) (e :: es) [] pos) (tCB r t) := by
  intro pins s σ H Q I h
  refine wpAny_Call_Name_kw (ld_blt I hg hm hv ?_ hn hdb)
  exact PyProof.Rows.callWith_builtin1 (thn (ha pos pins s σ H _ I h) fun us s1 ⟨vs, H1, I1, r1, q1⟩ => hc pins s1 σ H1 vs us Q I1 r1 q1) he hpl
/-- T(e, ..), T a built-in type -/
theorem pe_callTy (hc : CallR X (.type T) r) (hg : Gl X x) (hm : X.mg x = none) (hv : bootBuiltins x = some (.type T)) (ha : PA X (e :: es) t) (hn : x ≠ "__name__" := by decide) (hdb : (x == ("__debug__" : Str)) = false := by decide)
    (he : starEach (e :: es) X.env = (false, eval e X.env) :: starEach es X.env := by rfl) (hpl : (backTo pos (starEach es X.env)).any (·.1) = false := by rfl) : PE X (.Call (.Name x p) (e :: es) [] pos) (tCB r t) := by
  intro pins s σ H Q I h
  refine wpAny_Call_Name_kw (ld_blt I hg hm hv ?_ hn hdb)
  exact PyProof.Rows.callWith_type1 (thn (ha pos pins s σ H _ I h) fun us s1 ⟨vs, H1, I1, r1, q1⟩ => hc pins s1 σ H1 vs us Q I1 r1 q1) he hpl
end
end L2

namespace HT
open PySem PyProof.Rows

section
open PySem.SeqAt
open PySem.AutoSeq1 (wpAny_loadPart')
open PySem.MeetsSeq PySem.MeetsSeq2 PySem.MeetsSeq3

end

section
variable {prog : Program} {w : World} {A : Around} {E : Value → Shared → Prop} {s : Shared}

/-! ### t[a:b], not the whole -/
/-- a slice's bound as a place among n (d where it is left out) -/
def sIx (n d : Nat) : Option Int → Nat
  | none => d
  | some v => if v < 0 then (v + (n : Int)).toNat else min v.toNat n
theorem sIx_none (n d : Nat) : sIx n d none = d := rfl
theorem sIx_nat (n d k : Nat) : sIx n d (some (k : Int)) = min k n := by
  show (if (k : Int) < 0 then ((k : Int) + (n : Int)).toNat else min (k : Int).toNat n) = min k n
  rw [if_neg (by omega), Int.toNat_natCast]
end
end HT

namespace L2
open PySem PySem.Spec PyProof.Rows

/-! ### the parts of a slice -/
abbrev TO := St → Hp → (Option Int → Hp → Prop) → Prop
/-- a slice's part (left out, or an int) -/
def PO (X : Cx) (e : Option Expr) (t : TO) : Prop :=
  ∀ (pins : List (Addr × Obj)) (s : Shared) (σ : St) (H : Hp) (Q : Option Int → Hp → Prop), Inv X pins σ H s → t σ H Q →
    wpAny (model X.prog X.w) X.A (evalPart e X.env) (fun u s' => ∃ o H', Inv X pins σ H' s' ∧ IsPart u o ∧ Q o H') X.xe s
def tNoPart : TO := fun _ H Q => Q none H
def tPart (t : TE) : TO := fun σ H Q => t σ H fun x H1 => ∃ i, x = .int i ∧ Q (some i) H1

theorem intsAre_of {ns : List Int} : ∀ {us : List Value}, Vals (ns.map V.int) us → IntsAre us ns := by
  induction ns with
  | nil => intro us r; rw [List.map_nil] at r; cases r; exact .nil
  | cons n ns ih =>
    intro us r
    rw [List.map_cons] at r
    cases r with
    | cons r1 r2 =>
      obtain ⟨t, e⟩ := r1
      subst e
      exact .cons n t (ih r2)

section
variable {X : Cx} {e : Expr} {te : TE} {lo hi : Option Expr} {tl th : TO} {pos p2 : Pos}

theorem po_none : PO X none tNoPart := by
  intro pins s σ H Q I h
  rw [evalPart_none]
  exact wpAny_pure ⟨none, H, I, .none, h⟩
theorem po_some (h : PE X e te) : PO X (some e) (tPart te) := by
  intro pins s σ H Q I hw
  rw [evalPart_some]
  refine thn (h pins s σ H _ I hw) fun u s1 ⟨x, H1, I1, r1, q1⟩ => ?_
  obtain ⟨i, rfl, q⟩ := q1
  obtain ⟨t, rfl⟩ := r1
  exact ⟨some i, H1, I1, .int i t, q⟩

/-- what a slice of a value is, by values: the slice object stands at sl -/
def SlR (X : Cx) (r : V → Option Int → Option Int → Hp → VK → Prop) : Prop :=
  ∀ (pins : List (Addr × Obj)) (s : Shared) (σ : St) (H : Hp) (x : V) (v vl vu : Value) (lo hi : Option Int) (sl : Addr) (Q : VK), Inv X pins σ H s → RelV x v → s.heap.IsSliceOf sl vl vu .none → IsPart vl lo → IsPart vu hi → r x lo hi H Q →
    ∃ T id, typeLookup (.type T) "__getitem__" = pure (some (.builtin id)) ∧ s.TypeIs v T ∧ wpAny (model X.prog X.w) X.A (getItem v (.ref sl)) (EP X pins σ Q) X.xe s
def tSl (r : V → Option Int → Option Int → Hp → VK → Prop) (te : TE) (tl th : TO) : TE := fun σ H Q => te σ H fun x H1 => tl σ H1 fun l H2 => th σ H2 fun u H3 => r x l u H3 Q
/-- a[lo:hi], any a -/
theorem pe_slice {r : V → Option Int → Option Int → Hp → VK → Prop} (hr : SlR X r) (he : PE X e te) (hl : PO X lo tl) (hu : PO X hi th) : PE X (.Subscript e (.Slice lo hi none p2) pos) (tSl r te tl th) := by
  intro pins s σ H Q I h
  refine Subscript_ (thn (he pins s σ H _ I h) fun v s1 ⟨x, H1, I1, r1, q1⟩ => ?_)
  refine wpAny_Slice (thn (hl pins s1 σ H1 _ I1 q1) fun vl s2 ⟨l, H2, I2, pl, q2⟩ => thn (hu pins s2 σ H2 _ I2 q2) fun vu s3 ⟨u, H3, I3, pu, q3⟩ => ?_)
  rw [evalPart_none]
  refine wpAny_pure ?_
  have I4 : Inv X pins σ H3 { s3 with heap := s3.heap.push { cls := .type "slice", data := .fields #[vl, vu, .none] } } := I3.kept (t' := s3.toks) fun b ob q => Heap.get?_push_of_some _ q
  obtain ⟨T, id, hT, ht, hg⟩ := hr pins { s3 with heap := s3.heap.push { cls := .type "slice", data := .fields #[vl, vu, .none] } } σ H3 x v vl vu l u s3.heap.objs.size Q I4 r1 (Heap.IsSliceOf.new ..) pl pu q3
  show wpAny (model X.prog X.w) X.A (subscriptTail e (.Slice lo hi none p2) v (.ref s3.heap.objs.size)) (EP X pins σ Q) X.xe { s3 with heap := s3.heap.push { cls := .type "slice", data := .fields #[vl, vu, .none] } }
  exact tail_any (ops := [.ref s3.heap.objs.size, v]) ht hT hg (by with_unfolding_all rfl)

/-- the items of xs[lo:hi] -/
def cutV (xs : List V) (lo hi : Option Int) : List V := (xs.drop (HT.sIx xs.length 0 lo)).take (HT.sIx xs.length xs.length hi - HT.sIx xs.length 0 lo)
theorem cutV_length (xs : List V) (lo hi : Option Int) : (cutV xs lo hi).length ≤ xs.length := by
  unfold cutV
  rw [List.length_take, List.length_drop]
  omega
/-! ### t < u, t + u -/
end
end L2

namespace L2
open PySem PySem.Spec PyProof.Rows

/-! ### places -/
/-- the place that an index of any sign means -/
def ixN (n : Nat) (i : Int) : Option Nat := if 0 ≤ i then (if i < n then some i.toNat else none) else if -(n : Int) ≤ i then some (i + n).toNat else none
def atI {α : Type} (xs : List α) (i : Int) : Option α := (ixN xs.length i).bind fun j => xs[j]?
theorem ixN_seq {n : Nat} {i : Int} {j : Nat} (h : ixN n i = some j) : seqIndex? i n = some j ∧ j < n ∧ -(n : Int) ≤ i ∧ i < n := by
  unfold ixN at h
  by_cases h0 : 0 ≤ i
  · rw [if_pos h0] at h
    by_cases h1 : i < n
    · rw [if_pos h1] at h
      have e : i.toNat = j := Option.some.inj h
      exact ⟨by rw [seqIndex_of h0 h1, e], by omega, by omega, h1⟩
    · rw [if_neg h1] at h; cases h
  · rw [if_neg h0] at h
    by_cases h1 : -(n : Int) ≤ i
    · rw [if_pos h1] at h
      have e : (i + n).toNat = j := Option.some.inj h
      exact ⟨by rw [seqIndex_neg (by omega) h1, e], by omega, h1, by omega⟩
    · rw [if_neg h1] at h; cases h
theorem atI_get {α : Type} {xs : List α} {i : Int} {v : α} (h : atI xs i = some v) : ∃ j, seqIndex? i xs.length = some j ∧ xs[j]? = some v ∧ j < xs.length ∧ -(xs.length : Int) ≤ i ∧ i < xs.length := by
  unfold atI at h
  cases e : ixN xs.length i with
  | none => rw [e] at h; cases h
  | some j =>
    rw [e] at h
    obtain ⟨h1, h2, h3, h4⟩ := ixN_seq e
    exact ⟨j, h1, h, h2, h3, h4⟩
theorem atI_nat {α : Type} {xs : List α} {j : Nat} {v : α} (h : xs[j]? = some v) : atI xs (j : Int) = some v := by
  have hj : j < xs.length := (List.getElem?_eq_some_iff.mp h).1
  have e : ixN xs.length (j : Int) = some j := by
    unfold ixN
    rw [if_pos (by omega), if_pos (by omega)]; simp
  unfold atI; rw [e]; exact h
theorem atI_last {α : Type} (xs : List α) (v : α) : atI (xs ++ [v]) (-1) = some v := by
  have hl : (xs ++ [v]).length = xs.length + 1 := by simp
  have e : ixN (xs ++ [v]).length (-1) = some xs.length := by
    unfold ixN
    rw [hl, if_neg (by decide), if_pos (by omega)]
    congr 1
    omega
  unfold atI
  rw [e]
  show (xs ++ [v])[xs.length]? = some v
  simp

/-! ### what may be subscripted -/
/-- what stands as an index of a plain subscript -/
def PlainIx (b : Expr) : Prop := ∀ o i, subscripted b false o i = operate [o, i] (getItem o i)
/-- a subscript by values -/
def IxR (X : Cx) (r : R2) : Prop :=
  ∀ (value slice : Expr) (pins : List (Addr × Obj)) (s : Shared) (σ : St) (H : Hp) (x y : V) (v u : Value) (Q : VK), Inv X pins σ H s → RelV x v → RelV y u → r x y H Q →
    subscripted slice false v u = operate [v, u] (getItem v u) → wpAny (model X.prog X.w) X.A (subscriptTail value slice v u) (EP X pins σ Q) X.xe s
/-- a call of a builtin's method by values: the receiver, the arguments -/
def MtR (X : Cx) (id : String) (r : V → List V → Hp → VK → Prop) : Prop :=
  ∀ (pins : List (Addr × Obj)) (s : Shared) (σ : St) (H : Hp) (x : V) (xs : List V) (v : Value) (us : List Value) (Q : VK), Inv X pins σ H s → RelV x v → Vals xs us → r x xs H Q →
    wpAny (model X.prog X.w) X.A (call (.builtin id) (v :: us)) (EP X pins σ Q) X.xe s
section
variable {X : Cx} {a b : Expr} {ta tb : TE} {pos : Pos}
/-- a[b] -/
theorem pe_ix {r : R2} (hr : IxR X r) (ha : PE X a ta) (hb : PE X b tb) (hs : PlainIx b) : PE X (.Subscript a b pos) (tOp r ta tb) := by
  intro pins s σ H Q I h
  exact Subscript_ (binT ha hb I h fun v u s2 x y H2 I2 rx ry q => hr a b pins s2 σ H2 x y v u Q I2 rx ry q (hs _ _))

def rIxL (K : PySem.W.Frag) : R2 := fun x y H Q => ∃ p xs i v, x = .ref p ∧ y = .int i ∧ SqL K H p xs ∧ atI xs i = some v ∧ Q v H
def rIxT (K : PySem.W.Frag) : R2 := fun x y H Q => ∃ p xs i v, x = .ref p ∧ y = .int i ∧ SqT K H p xs ∧ atI xs i = some v ∧ Q v H
theorem ix_list : IxR X (rIxL X.K) := by
  intro value slice pins s σ H x y v u Q I rx ry h hs
  obtain ⟨p, xs, i, z, rfl, rfl, hq, he, q⟩ := h
  cases rx
  obtain ⟨t, rfl⟩ := ry
  obtain ⟨its, r, pl, hz⟩ := I.list hq
  obtain ⟨j, h1, h2, h3, h4, h5⟩ := atI_get he
  obtain ⟨w, ew, rw'⟩ := r.get h2
  have hl := r.length
  have hn := line63
  have fin : EP X pins σ Q w s := ⟨z, H, I, rw', q⟩
  by_cases h0 : 0 ≤ i
  · have hj : i.toNat = j := by
      rw [seqIndex_of h0 h5] at h1
      exact Option.some.inj h1
    exact item_listR pl.isList h0 (by omega) (by rw [hj]; simpa using ew) fin hs
  · have hj : (i + (its.toArray.size : Int)).toNat = j := by
      rw [seqIndex_neg (by omega) h4] at h1
      rw [List.size_toArray, ← hl]
      exact Option.some.inj h1
    exact subscriptTail_builtinR (x := w) pl.isList.typeIs slot_list_getitem.lookup
      (wpAny_getItem_list_neg (Q := fun r s' => r = w ∧ EP X pins σ Q r s') pl.isList (by omega) (by rw [List.size_toArray] <;> omega) (by omega) (by rw [hj]; simpa using ew) ⟨rfl, fin⟩) hs
theorem ix_tup : IxR X (rIxT X.K) := by
  intro value slice pins s σ H x y v u Q I rx ry h hs
  obtain ⟨p, xs, i, z, rfl, rfl, hq, he, q⟩ := h
  cases rx
  obtain ⟨t, rfl⟩ := ry
  obtain ⟨its, r, pl, hz⟩ := I.tuple hq
  obtain ⟨j, h1, h2, h3, h4, h5⟩ := atI_get he
  obtain ⟨w, ew, rw'⟩ := r.get h2
  have hl := r.length
  have hn := line63
  have fin : EP X pins σ Q w s := ⟨z, H, I, rw', q⟩
  exact subscriptTail_builtinR (x := w) pl.typeIs slot_tuple_getitem.lookup
    (getItem_tuple (j := j) (Q := fun r s' => r = w ∧ EP X pins σ Q r s') pl (by omega) (by omega) (by rw [List.size_toArray, ← hl]; exact h1) (by simpa using ew) ⟨rfl, fin⟩) hs
/-! ### xs[i] = v, any sign -/
/-- the list's object behind a store -/
theorem mapSeq_set (its : List Value) (n j : Nat) (u : Value) : Obj.mapSeq (·.setIfInBounds j u) { cls := .type "list", data := .seq its.toArray n } = { cls := .type "list", data := .seq (its.set j u).toArray n } := by
  simp [Obj.mapSeq]
theorem Inv.lst {pins : List (Addr × Obj)} {σ : St} {H : Hp} {s : Shared} {p : Addr} {xs : List V} (I : Inv X pins σ H s) (h : H p = some (.lst xs)) :
    ∃ (its : List Value) (n : Nat), Vals xs its ∧ s.heap.get? p = some { cls := .type "list", data := .seq its.toArray n } ∧ xs.length ≤ sizeLine := by
  obtain ⟨z, its, n, r, e⟩ := I.hok p _ h
  exact ⟨its, n, r, e, z⟩
/-- the list at p is written by an update of its object -/
theorem Inv.lstUpd {pins : List (Addr × Obj)} {σ : St} {H : Hp} {s : Shared} {p : Addr} {xs ys : List V} {its its' : List Value} {n n' : Nat} {f : Obj → Obj} (I : Inv X pins σ H s) (h : H p = some (.lst xs))
    (ho : s.heap.get? p = some { cls := .type "list", data := .seq its.toArray n }) (hf : f { cls := .type "list", data := .seq its.toArray n } = { cls := .type "list", data := .seq its'.toArray n' }) (r : Vals ys its') (hz : ys.length ≤ sizeLine) (t : Nat) :
    Inv X pins σ (upd H p (.lst ys)) { s with heap := s.heap.update p f, toks := t } := by
  have e : (s.heap.update p f).get? p = some { cls := .type "list", data := .seq its'.toArray n' } := by
    rw [Heap.get?_update_self f ho (by rw [hf] <;> rfl), hf]
  refine I.write (x := p) (e := p) (by rw [h]; trivial) (.inl rfl) (fun b u hb q => (Heap.get?_update_other _ _ (Ne.symm hb)).trans q) ⟨_, e⟩ ?_
  exact ⟨hz, its', n', r, e⟩
def rSetL : V → V → V → Hp → (Hp → Prop) → Prop := fun o i v H Q => ∃ p xs k j, o = .ref p ∧ i = .int k ∧ H p = some (.lst xs) ∧ ixN xs.length k = some j ∧ Q (upd H p (.lst (xs.set j v)))
theorem set_list : PSet X rSetL := by
  intro pins s σ H o i v ov iv u Q I ro ri rv h
  obtain ⟨p, xs, k, j, rfl, rfl, hp, hj, q⟩ := h
  cases ro
  obtain ⟨t, rfl⟩ := ri
  obtain ⟨its, n, r, ho, hz⟩ := I.lst hp
  obtain ⟨h1, h2, h3, h4⟩ := ixN_seq hj
  have hl := r.length
  have hn := line63
  have I' : Inv X pins σ (upd H p (.lst (xs.set j v))) { s with heap := s.heap.update p (Obj.mapSeq (·.setIfInBounds j u)) } :=
    I.lstUpd hp ho (mapSeq_set its n j u) (r.set rv j) (by rw [List.length_set]; exact hz) s.toks
  by_cases h0 : 0 ≤ k
  · have hk : k.toNat = j := by
      rw [seqIndex_of h0 h4] at h1
      exact Option.some.inj h1
    exact PySem.W.ki_setAt ho h0 (by omega) (by rw [List.size_toArray, ← hl]; exact h4) (by rw [hk]; exact ⟨_, I', q⟩)
  · have hk : (k + (its.toArray.size : Int)).toNat = j := by
      rw [seqIndex_neg (by omega) h3] at h1
      rw [List.size_toArray, ← hl]
      exact Option.some.inj h1
    exact PySem.W.ki_setBack ho (by omega) (by rw [List.size_toArray, ← hl]; exact h3) (by omega) (by rw [hk]; exact ⟨_, I', q⟩)

/-! ### slices -/
theorem slice_bounds (lo hi : Option Int) (n : Nat) : (sliceBounds lo hi none n).1 = ((HT.sIx n 0 lo : Nat) : Int) ∧ (sliceBounds lo hi none n).2.1 = ((HT.sIx n n hi : Nat) : Int) ∧ (sliceBounds lo hi none n).2.2 = 1 := by
  refine ⟨?_, ?_, rfl⟩
  · cases lo with
    | none => simp [sliceBounds, HT.sIx]
    | some i =>
      simp only [sliceBounds, HT.sIx, Option.getD_none, show (1 : Int) > 0 by decide, if_true]
      by_cases h : i < 0
      · simp only [h, if_true] <;> omega
      · simp only [h, if_false] <;> omega
  · cases hi with
    | none => simp [sliceBounds, HT.sIx]
    | some i =>
      simp only [sliceBounds, HT.sIx, Option.getD_none, show (1 : Int) > 0 by decide, if_true]
      by_cases h : i < 0
      · simp only [h, if_true] <;> omega
      · simp only [h, if_false] <;> omega
theorem slicePick_cut (its : List Value) (lo hi : Option Int) : slicePick its.toArray lo hi none = ((its.drop (HT.sIx its.length 0 lo)).take (HT.sIx its.length its.length hi - HT.sIx its.length 0 lo)).toArray := by
  obtain ⟨h1, h2, h3⟩ := slice_bounds lo hi its.toArray.size
  unfold slicePick
  rw [h1, h2, h3]
  simp only [sliceRange_one, pick_run, List.size_toArray] <;> rfl
/-- xs[lo:hi] of a list: a new list -/
def rSlL (K : PySem.W.Frag) : V → Option Int → Option Int → Hp → VK → Prop := fun x lo hi H Q => ∃ a xs, x = .ref a ∧ SqL K H a xs ∧ ∀ p, H p = none → Q (.ref p) (upd H p (.lst (cutV xs lo hi)))
theorem sl_list : SlR X (rSlL X.K) := by
  intro pins s σ H x v vl vu lo hi sl Q I rx hs pl pu h
  obtain ⟨a, xs, rfl, hx, q⟩ := h
  cases rx
  obtain ⟨its, r, ht, hz⟩ := I.list hx
  have hlen := r.length
  refine ⟨"list", _, slot_list_getitem.lookup, ht.isList.typeIs, ?_⟩
  refine wpAny_getItem_list_slice ht.isList hs pl pu .none (by simp) ?_ (by rw [List.size_toArray] <;> omega)
  rw [slicePick_cut, ← hlen]
  refine ⟨.ref s.heap.objs.size, _, I.laid (t' := s.toks) (o := .lst (cutV xs lo hi)) (fun b ob q => Heap.get?_push_of_some _ q) (Nat.le_refl _) ?_, rfl, q _ (I.hok.fresh (Nat.le_refl _))⟩
  exact ⟨Nat.le_trans (cutV_length xs lo hi) hz, _, 0, (r.drop (HT.sIx xs.length 0 lo)).take (HT.sIx xs.length xs.length hi - HT.sIx xs.length 0 lo), Heap.get?_push_size _ rfl⟩

/-! ### in, not in: flat items -/
def flatV : V → Bool
  | .non => true
  | .bl _ => true
  | .int _ => true
  | .str _ => true
  | _ => false
/-- == of flat values -/
def eqV : V → V → Bool
  | .non, .non => true
  | .bl a, .bl b => a == b
  | .bl a, .int b => (if a then 1 else 0) == b
  | .int a, .bl b => a == (if b then 1 else 0)
  | .int a, .int b => a == b
  | .str a, .str b => a == b
  | _, _ => false
theorem eqAt_V {A : Around} {s : Shared} {y x : V} {u v : Value} (ry : RelV y u) (rx : RelV x v) (fy : flatV y = true) (fx : flatV x = true) : SeqAt.EqAt A s u v (eqV y x) := by
  cases y with
  | non =>
    cases ry
    cases x with
    | non => cases rx; exact SeqAt.EqAt.same _
    | bl b => cases rx; exact SeqAt.EqAt.none_bool b
    | int b => obtain ⟨t, rfl⟩ := rx; exact SeqAt.EqAt.none_int b t
    | str b => obtain ⟨t, rfl⟩ := rx; exact SeqAt.EqAt.none_str b t
    | _ => exact absurd (show false = true from fx) Bool.false_ne_true
  | bl a =>
    cases ry
    cases x with
    | non => cases rx; exact SeqAt.EqAt.bool_none a
    | bl b => cases rx; exact SeqAt.EqAt.bool_bool a b
    | int b => obtain ⟨t, rfl⟩ := rx; exact SeqAt.EqAt.bool_int a b t
    | str b => obtain ⟨t, rfl⟩ := rx; exact SeqAt.EqAt.bool_str a b t
    | _ => exact absurd (show false = true from fx) Bool.false_ne_true
  | int a =>
    obtain ⟨t', rfl⟩ := ry
    cases x with
    | non => cases rx; exact SeqAt.EqAt.int_none a t'
    | bl b => cases rx; exact SeqAt.EqAt.int_bool a t' b
    | int b => obtain ⟨t, rfl⟩ := rx; exact SeqAt.EqAt.int_int a t' b t
    | str b => obtain ⟨t, rfl⟩ := rx; exact SeqAt.EqAt.int_str a t' b t
    | _ => exact absurd (show false = true from fx) Bool.false_ne_true
  | str a =>
    obtain ⟨t', rfl⟩ := ry
    cases x with
    | non => cases rx; exact SeqAt.EqAt.str_none a t'
    | bl b => cases rx; exact SeqAt.EqAt.str_bool a t' b
    | int b => obtain ⟨t, rfl⟩ := rx; exact SeqAt.EqAt.str_int a t' b t
    | str b => obtain ⟨t, rfl⟩ := rx; exact SeqAt.EqAt.str_str a t' b t
    | _ => exact absurd (show false = true from fx) Bool.false_ne_true
  | _ => exact absurd (show false = true from fy) Bool.false_ne_true
/-- the items' answers, read off the values (a value's own answer does not lean on its token) -/
def eqU (x : V) (u : Value) : Bool := match u with
  | .none => eqV .non x
  | .bool b => eqV (.bl b) x
  | .int i _ => eqV (.int i) x
  | .str z _ => eqV (.str z) x
  | _ => false
theorem eqU_of {x y : V} {u : Value} (r : RelV y u) (f : flatV y = true) : eqU x u = eqV y x := by
  cases y with
  | non => cases r; rfl
  | bl b => cases r; rfl
  | int i => obtain ⟨t, rfl⟩ := r; rfl
  | str z => obtain ⟨t, rfl⟩ := r; rfl
  | _ => exact absurd (show false = true from f) Bool.false_ne_true
theorem any_eqU {x : V} : ∀ {xs : List V} {us : List Value}, Vals xs us → xs.all flatV = true → us.any (eqU x) = xs.any fun y => eqV y x
  | _, _, .nil, _ => rfl
  | y :: xs, u :: us, .cons r t, f => by
    rw [List.all_cons, Bool.and_eq_true] at f
    rw [List.any_cons, List.any_cons, eqU_of r f.1, any_eqU t f.2]
theorem mem_eqAt {A : Around} {s : Shared} {x : V} {v : Value} (rx : RelV x v) (fx : flatV x = true) : ∀ {xs : List V} {us : List Value}, Vals xs us → xs.all flatV = true → ∀ u ∈ us, SeqAt.EqAt A s u v (eqU x u)
  | _, _, .nil, _ => fun u hu => by cases hu
  | y :: xs, u :: us, .cons r t, f => fun u' hu => by
    rw [List.all_cons, Bool.and_eq_true] at f
    rcases List.mem_cons.mp hu with rfl | hu
    · rw [eqU_of r f.1]; exact eqAt_V r rx f.1 fx
    · exact mem_eqAt rx fx t f.2 u' hu
def inV (x : V) (xs : List V) : Bool := xs.any fun y => eqV y x
/-- x in a list or tuple of flat items -/
def rIn (K : PySem.W.Frag) (neg : Bool) : R2 := fun x y H Q => ∃ p xs, y = .ref p ∧ (SqL K H p xs ∨ SqT K H p xs) ∧ flatV x = true ∧ xs.all flatV = true ∧ Q (.bl (if neg then !inV x xs else inV x xs)) H
theorem op_in_seq : OpR X (compareOp .In) (rIn X.K false) := by
  intro pins s σ H x y v u Q I rx ry h
  obtain ⟨p, xs, rfl, hq, fx, fs, q⟩ := h
  cases ry
  rcases hq with hq | hq
  · obtain ⟨its, r, pl, hz⟩ := I.list hq
    refine SeqAt.in_listAt (eqU x) pl.isList (fun w hw => mem_eqAt rx fx r fs w (by simpa using hw)) ⟨.bl _, H, I, rfl, ?_⟩
    rw [show its.toArray.any (eqU x) = its.any (eqU x) by simp, any_eqU r fs]
    exact q
  · obtain ⟨its, r, pl, hz⟩ := I.tuple hq
    refine SeqAt.in_tupleAt (eqU x) pl (fun w hw => mem_eqAt rx fx r fs w (by simpa using hw)) ⟨.bl _, H, I, rfl, ?_⟩
    rw [show its.toArray.any (eqU x) = its.any (eqU x) by simp, any_eqU r fs]
    exact q
theorem op_notIn_seq : OpR X (compareOp .NotIn) (rIn X.K true) := by
  intro pins s σ H x y v u Q I rx ry h
  obtain ⟨p, xs, rfl, hq, fx, fs, q⟩ := h
  cases ry
  rcases hq with hq | hq
  · obtain ⟨its, r, pl, hz⟩ := I.list hq
    refine SeqAt.notIn_listAt (eqU x) pl.isList (fun w hw => mem_eqAt rx fx r fs w (by simpa using hw)) ⟨.bl _, H, I, rfl, ?_⟩
    rw [show its.toArray.any (eqU x) = its.any (eqU x) by simp, any_eqU r fs]
    exact q
  · obtain ⟨its, r, pl, hz⟩ := I.tuple hq
    refine SeqAt.notIn_tupleAt (eqU x) pl (fun w hw => mem_eqAt rx fx r fs w (by simpa using hw)) ⟨.bl _, H, I, rfl, ?_⟩
    rw [show its.toArray.any (eqU x) = its.any (eqU x) by simp, any_eqU r fs]
    exact q
/-! ### len, list(x), tuple(x) of any list or tuple that is read -/
theorem call_len_seq : CallR X (.builtin "len") (fun xs H Q => ∃ p ys, xs = [.ref p] ∧ (SqL X.K H p ys ∨ SqT X.K H p ys) ∧ Q (.int ys.length) H) := by
  intro pins s σ H xs us Q I r h
  obtain ⟨p, ys, rfl, hq, q⟩ := h
  obtain ⟨u, rfl, rx⟩ := vals1 r
  cases rx
  have hn := line63
  rcases hq with hq | hq
  · obtain ⟨its, r', pl, hz⟩ := I.list hq
    have hlen := r'.length
    exact Calls.call_len_list pl.isList (by simp only [List.size_toArray] <;> omega) ⟨.int ys.length, H, I.tok _, ⟨s.toks + 1, by rw [List.size_toArray, hlen]⟩, q⟩
  · obtain ⟨its, r', pl, hz⟩ := I.tuple hq
    have hlen := r'.length
    exact len_tuple pl (by simp only [List.size_toArray] <;> omega) ⟨.int ys.length, H, I.tok _, ⟨s.toks + 1, by rw [List.size_toArray, hlen]⟩, q⟩
theorem call_list_of : CallR X (.type "list") (fun xs H Q => ∃ p ys, xs = [.ref p] ∧ (SqL X.K H p ys ∨ SqT X.K H p ys) ∧ ∀ l, H l = none → Q (.ref l) (upd H l (.lst ys))) := by
  intro pins s σ H xs us Q I r h
  obtain ⟨p, ys, rfl, hq, q⟩ := h
  obtain ⟨u, rfl, rx⟩ := vals1 r
  cases rx
  have fin : ∀ (its : List Value), Vals ys its → ys.length ≤ sizeLine → ∀ (h' : Heap) (c' : Nat), (∀ b o', s.heap.get? b = some o' → h'.get? b = some o') →
      h'.get? s.heap.objs.size = some { cls := .type "list", dict := none, data := .seq its.toArray c', slots := #[] } → EP X pins σ Q (.ref s.heap.objs.size) { s with heap := h' } := fun its r' hz h' c' kp e =>
    ⟨.ref s.heap.objs.size, _, I.laid (t' := s.toks) kp (Nat.le_refl _) (show ObjOk X.prog X.w _ h' _ (.lst ys) from ⟨hz, its, c', r', e⟩), rfl, q _ (I.hok.fresh (Nat.le_refl _))⟩
  rcases hq with hq | hq
  · obtain ⟨its, r', pl, hz⟩ := I.list hq
    have hlen := r'.length
    obtain ⟨o, ho, hc, n, hd⟩ := pl.isList
    exact call_list_seq p (.inl rfl) ho hc hd (fun h' c' kp e => fin its r' hz h' c' kp e) (by simp only [List.size_toArray] <;> omega)
  · obtain ⟨its, r', pl, hz⟩ := I.tuple hq
    have hlen := r'.length
    obtain ⟨o, ho, hc, n, hd⟩ := pl
    exact call_list_seq p (.inr rfl) ho hc hd (fun h' c' kp e => fin its r' hz h' c' kp e) (by simp only [List.size_toArray] <;> omega)
/-! ### the call of a builtin's method: o.m(..) -/
/-- the value is of that builtin type -/
def tyV (K : PySem.W.Frag) (T : String) (x : V) (H : Hp) : Prop := match x with
  | .str _ => T = "str"
  | .int _ => T = "int"
  | .ref p => (T = "list" ∧ ∃ xs, SqL K H p xs) ∨ (T = "tuple" ∧ ∃ o, K.lookup p = some o ∧ o.cls = .type "tuple" ∧ o.dict = none) ∨
      (T = "dict" ∧ ((∃ kvs, H p = some (.dK kvs)) ∨ ∃ kvs, H p = some (.dT kvs))) ∨ (T = "set" ∧ ∃ S n, H p = some (.set S n))
  | _ => False
theorem tyV_is {pins : List (Addr × Obj)} {σ : St} {H : Hp} {s : Shared} {T : String} {x : V} {v : Value} (I : Inv X pins σ H s) (r : RelV x v) (ty : tyV X.K T x H) :
    s.TypeIs v T ∧ ∀ a, v = .ref a → ∃ ob, s.heap.get? a = some ob ∧ ob.dict = none := by
  cases x with
  | str z =>
    obtain ⟨t, rfl⟩ := r
    cases (show T = "str" from ty)
    exact ⟨typeIs_str s z t, fun _ e => nomatch e⟩
  | int i =>
    obtain ⟨t, rfl⟩ := r
    cases (show T = "int" from ty)
    exact ⟨typeIs_int s i t, fun _ e => nomatch e⟩
  | ref p =>
    cases r
    rcases ty with ⟨rfl, xs, hq⟩ | ⟨rfl, o, hk, hc, hd⟩ | ⟨rfl, hk⟩ | ⟨rfl, S, n, hk⟩
    · obtain ⟨its, _, pl, _⟩ := I.list hq
      refine ⟨pl.isList.typeIs, fun a e => ?_⟩
      cases e
      obtain ⟨o, n, e, c, hd, _⟩ := pl
      exact ⟨o, e, hd⟩
    · refine ⟨⟨o, I.kIn p o hk, hc⟩, fun a e => ?_⟩
      cases e
      exact ⟨o, I.kIn _ o hk, hd⟩
    · have z : ∃ o, s.heap.get? p = some o ∧ o.ExactDict := by
        rcases hk with ⟨kvs, hk⟩ | ⟨kvs, hk⟩
        · obtain ⟨_, _, _, _, o, _, _, e, ex, _⟩ := I.hok p _ hk
          exact ⟨o, e, ex⟩
        · obtain ⟨_, _, _, _, o, _, _, e, ex, _⟩ := I.hok p _ hk
          exact ⟨o, e, ex⟩
      obtain ⟨o, e, ex⟩ := z
      refine ⟨⟨o, e, ex.1⟩, fun a e2 => ?_⟩
      cases e2
      exact ⟨o, e, ex.2.1⟩
    · obtain ⟨o, _, _, _, e, ex, _⟩ := I.hok p _ hk
      refine ⟨⟨o, e, ex.1⟩, fun a e2 => ?_⟩
      cases e2
      exact ⟨o, e, ex.2.1⟩
  | _ => exact False.elim ty
def tBM0 (K : PySem.W.Frag) (T : String) (r : V → List V → Hp → VK → Prop) (to : TE) : TE := fun σ H Q => to σ H fun x H1 => tyV K T x H1 ∧ r x [] H1 Q
def tBM (K : PySem.W.Frag) (T : String) (r : V → List V → Hp → VK → Prop) (to : TE) (t : TA) : TE := fun σ H Q => to σ H fun x H1 => tyV K T x H1 ∧ t σ H1 fun xs H2 => r x xs H2 Q
variable {o e : Expr} {es : List Expr} {to : TE} {t : TA} {name : Str} {apos cpos : Pos} {T id : String} {r : V → List V → Hp → VK → Prop}
theorem pe_bm0 (pa : PlainAttrs T) (slot : Slot T name id) (hty : typeOf (.builtin id) = pure (.type "method_descriptor")) (hm : MtR X id r) (ho : PE X o to)
    (hbase : attributeBase o name X.env (eval o X.env) = eval o X.env := by rfl) (hline : (apos.endLine == cpos.line) = true := by rfl) : PE X (.Call (.Attribute o name apos) [] [] cpos) (tBM0 X.K T r to) := by
  intro pins s σ H Q I h
  refine wpAny_Call_method0_late hbase hline (thn (ho pins s σ H _ I h) fun v s1 ⟨x, H1, I1, r1, ty, q1⟩ => ?_)
  obtain ⟨h1, h2⟩ := tyV_is I1 r1 ty
  exact ⟨T, id, pa, slot, hty, h1, h2, Calls.callWith_builtin rfl (PySem.evalArgs_none (hm pins s1 σ H1 x [] v [] Q I1 r1 .nil q1))⟩
theorem pe_bm (pa : PlainAttrs T) (slot : Slot T name id) (hty : typeOf (.builtin id) = pure (.type "method_descriptor")) (hm : MtR X id r) (ho : PE X o to) (ha : PA X (e :: es) t)
    (hbase : attributeBase o name X.env (eval o X.env) = eval o X.env := by rfl)
    (hfew : ((backTo cpos (starEach (e :: es) X.env)).all (fun x => !x.1) && (backToKw cpos (keywordEach [] X.env)).all (fun x => x.1.isSome)
      && decide ((e :: es).length + ([] : List Keyword).length + (if ([] : List Keyword).isEmpty then 0 else 1) < 30)) = true := by rfl)
    (hline : (apos.endLine == cpos.line) = true := by rfl) (hs : starEach (e :: es) X.env = (false, eval e X.env) :: starEach es X.env := by rfl) (hplain : (backTo cpos (starEach es X.env)).any (·.1) = false := by rfl) :
    PE X (.Call (.Attribute o name apos) (e :: es) [] cpos) (tBM X.K T r to t) := by
  intro pins s σ H Q I h
  refine wpAny_Call_method_late hbase hfew hline rfl (thn (ho pins s σ H _ I h) fun v s1 ⟨x, H1, I1, r1, ty, q1⟩ => ?_)
  obtain ⟨h1, h2⟩ := tyV_is I1 r1 ty
  refine ⟨T, id, pa, slot, hty, h1, h2, ?_⟩
  have hA := ha cpos pins s1 σ H1 _ I1 q1
  rw [hs] at hA ⊢
  refine Calls.callWith_builtin (by show (false || (backTo cpos (starEach es X.env)).any (·.1)) = false; rw [hplain] <;> rfl) (Calls.evalArgs_plain ?_)
  exact thn hA fun us s2 ⟨vs, H2, I2, r2, q2⟩ => hm pins s2 σ H2 x vs v us Q I2 r1 r2 q2
/- xs.append(e), list.index on a module's tuple .. are MtR facts of 06m -/
end
end L2

namespace L2
open PySem PySem.Spec PyProof.Rows

def MtM (X : Cx) (id : String) (r : V → List V → Hp → VK → Prop) : Prop :=
  ∀ (pins : List (Addr × Obj)) (s : Shared) (σ : St) (H : Hp) (x : V) (xs : List V) (v : Value) (us : List Value) (Q : VK), Inv X pins σ H s → RelV x v → Vals xs us → r x xs H Q →
    wpAny (model X.prog X.w) X.A (call (.builtin id) (v :: us)) (EP X pins σ Q) X.xe s

/-! ### lists of values -/
theorem Vals.one : ∀ {x : V} {us : List Value}, Vals [x] us → ∃ u, us = [u] ∧ RelV x u
  | _, _, .cons r .nil => ⟨_, rfl, r⟩
theorem Vals.two : ∀ {x y : V} {us : List Value}, Vals [x, y] us → ∃ u v, us = [u, v] ∧ RelV x u ∧ RelV y v
  | _, _, _, .cons r (.cons q .nil) => ⟨_, _, rfl, r, q⟩
theorem Vals.zero : ∀ {us : List Value}, Vals [] us → us = []
  | _, .nil => rfl
theorem Vals.dropLast {xs : List V} {us : List Value} (h : Vals xs us) : Vals xs.dropLast us.dropLast := by
  induction h with
  | nil => exact .nil
  | cons r t ih =>
    cases t with
    | nil => exact .nil
    | cons q t' => exact .cons r ih
theorem Vals.eraseIdx : ∀ {xs : List V} {us : List Value} (i : Nat), Vals xs us → Vals (xs.eraseIdx i) (us.eraseIdx i)
  | _, _, _, .nil => .nil
  | _, _, 0, .cons _ t => t
  | _, _, i + 1, .cons r t => .cons r (Vals.eraseIdx i t)
theorem Vals.reverse {xs : List V} {us : List Value} (h : Vals xs us) : Vals xs.reverse us.reverse := by
  induction h with
  | nil => exact .nil
  | cons r t ih => rw [List.reverse_cons, List.reverse_cons]; exact Vals.append ih (.cons r .nil)
theorem erase_last {α : Type} (l : List α) : l.eraseIdx (l.length - 1) = l.dropLast := by
  induction l with
  | nil => rfl
  | cons a r ih =>
    cases r with
    | nil => rfl
    | cons b r =>
      have e : (a :: b :: r).length - 1 = ((b :: r).length - 1) + 1 := by
        have h1 : (a :: b :: r).length = r.length + 2 := rfl
        have h2 : (b :: r).length = r.length + 1 := rfl
        omega
      rw [e, List.eraseIdx_cons_succ, ih]
      all_goals rfl
theorem len_erase {α : Type} : ∀ (l : List α) (i : Nat), (l.eraseIdx i).length ≤ l.length
  | [], _ => Nat.le_refl _
  | _ :: _, 0 => Nat.le_succ _
  | _ :: r, i + 1 => Nat.succ_le_succ (len_erase r i)
section
variable {X : Cx} {pins : List (Addr × Obj)} {σ : St} {H : Hp} {s : Shared} {l b : Addr} {xs ys zs : List V}

/-! ### the two steps: a tracked list is rewritten, a new list is laid -/
theorem Inv.lset {its its' : List Value} {n : Nat} {f : Array Value → Array Value} {t' : Nat} (I : Inv X pins σ H s) (hH : H l = some (.lst xs))
    (e : s.heap.get? l = some { cls := .type "list", data := .seq its.toArray n }) (hf : f its.toArray = its'.toArray) (hv : Vals ys its') (hz : ys.length ≤ sizeLine) :
    Inv X pins σ (upd H l (.lst ys)) { s with heap := s.heap.update l (Obj.mapSeq f), toks := t' } := by
  have q := PySem.IsL.update e f
  rw [hf] at q
  refine I.write (x := l) (e := l) (by rw [hH]; exact trivial) (.inl rfl) (fun b' u hb hu => (Heap.get?_update_other s.heap (Obj.mapSeq f) (Ne.symm hb)).trans hu) ⟨_, q⟩ ?_
  exact ⟨hz, its', _, hv, q⟩
theorem Inv.lnew {its : List Value} {t' : Nat} (I : Inv X pins σ H s) (hv : Vals ys its) (hz : ys.length ≤ sizeLine) :
    Inv X pins σ (upd H s.heap.objs.size (.lst ys)) { s with heap := s.heap.push { cls := .type "list", data := .seq its.toArray }, toks := t' } :=
  I.laid (fun _ _ q => Heap.get?_push_of_some _ q) (Nat.le_refl _) ⟨hz, its, 0, hv, Heap.get?_push_size _ rfl⟩
theorem Inv.fresh (I : Inv X pins σ H s) : H s.heap.objs.size = none := I.hok.fresh (Nat.le_refl _)
theorem Inv.lstM (I : Inv X pins σ H s) (hH : H l = some (.lst xs)) : xs.length ≤ sizeLine ∧ ∃ (its : List Value) (n : Nat), Vals xs its ∧ xs.length = its.length ∧ s.heap.get? l = some { cls := .type "list", data := .seq its.toArray n } := by
  obtain ⟨z, its, n, r, e⟩ := I.hok l _ hH
  exact ⟨z, its, n, r, r.length, e⟩

theorem notLongL {n : Nat} (h : n ≤ sizeLine) : Builtin.List.listTooLong n = false := by
  unfold Builtin.List.listTooLong
  exact decide_eq_false (by omega)
end

section
variable {X : Cx}

/-! ### methods -/
def rAppend : V → List V → Hp → VK → Prop := fun x vs H Q => ∃ l xs y, x = .ref l ∧ vs = [y] ∧ H l = some (.lst xs) ∧ xs.length < sizeLine ∧ Q .non (upd H l (.lst (xs ++ [y])))
theorem mt_append : MtM X "list.append" rAppend := by
  intro pins s σ H x vs v us Q I rx rv h
  obtain ⟨l, xs, y, rfl, rfl, hH, hz, q⟩ := h
  cases rx
  obtain ⟨u, rfl, ru⟩ := rv.one
  obtain ⟨z, its, n, r, hl, e⟩ := I.lstM hH
  refine call_meets F.slot_list_append ⟨_, e, rfl⟩ F.entry_list_append (F.args_list_append_2 _ _) (PySem.list_append l its.toArray n u (by rw [List.size_toArray]; omega)) ⟨e, ?_⟩
  refine ⟨.non, _, I.lset (its' := its ++ [u]) hH e (by simp) (r.append (.cons ru .nil)) ?_, rfl, q⟩
  rw [List.length_append, List.length_singleton]
  omega

def rExtend : V → List V → Hp → VK → Prop := fun x vs H Q => ∃ l b xs zs, x = .ref l ∧ vs = [.ref b] ∧ H l = some (.lst xs) ∧ H b = some (.lst zs) ∧ xs.length + zs.length ≤ sizeLine ∧ Q .non (upd H l (.lst (xs ++ zs)))
theorem mt_extend : MtM X "list.extend" rExtend := by
  intro pins s σ H x vs v us Q I rx rv h
  obtain ⟨l, b, xs, zs, rfl, rfl, hH, hB, hz, q⟩ := h
  cases rx
  obtain ⟨u, rfl, ru⟩ := rv.one
  cases ru
  obtain ⟨z, its, n, r, hl, e⟩ := I.lstM hH
  obtain ⟨z2, its2, n2, r2, hl2, e2⟩ := I.lstM hB
  have hsz : its.toArray.size + its2.toArray.size ≤ sizeLine := by rw [List.size_toArray, List.size_toArray]; omega
  have hlong : ¬ (!its.toArray.isEmpty && Builtin.List.listTooLong (its.toArray.size + its2.toArray.size)) = true := by
    rw [notLongL hsz, Bool.and_false]
    exact Bool.false_ne_true
  refine call_meets F.slot_list_extend ⟨_, e, rfl⟩ F.entry_list_extend (F.args_list_extend_2 _ _)
    (AutoSeq1.list_extend_list_list_0 l its.toArray n b its2.toArray n2 hlong (by rw [List.size_toArray]; omega) (by omega)) ⟨e, e2, ?_⟩
  refine ⟨.non, _, I.lset (its' := its ++ its2) hH e (by simp) (r.append r2) ?_, rfl, q⟩
  rw [List.length_append]
  omega

def rPop : V → List V → Hp → VK → Prop := fun x vs H Q => ∃ l xs y, x = .ref l ∧ vs = [] ∧ H l = some (.lst xs) ∧ xs[xs.length - 1]? = some y ∧ Q y (upd H l (.lst xs.dropLast))
theorem mt_pop : MtM X "list.pop" rPop := by
  intro pins s σ H x vs v us Q I rx rv h
  obtain ⟨l, xs, y, rfl, rfl, hH, hy, q⟩ := h
  cases rx
  have hus := rv.zero
  subst hus
  obtain ⟨z, its, n, r, hl, e⟩ := I.lstM hH
  obtain ⟨u, hu, ru⟩ := r.get hy
  have hy' : its.toArray[its.toArray.size - 1]? = some u := by
    show its.toArray[its.length - 1]? = some u
    rw [← Array.getElem?_toList, ← hl]
    exact hu
  refine call_meets F.slot_list_pop ⟨_, e, rfl⟩ F.entry_list_pop (F.args_list_pop_1 _) (MeetsSeq.list_pop_last l its.toArray n u hy' (by rw [List.size_toArray]; omega)) ⟨e, ?_⟩
  refine ⟨y, _, I.lset (its' := its.dropLast) hH e ?_ r.dropLast ?_, ru, q⟩
  · show its.toArray.eraseIdxIfInBounds (its.toArray.size - 1) = its.dropLast.toArray
    rw [List.size_toArray, List.eraseIdxIfInBounds_toArray, erase_last]
  · rw [List.length_dropLast]
    omega

def rPopAt : V → List V → Hp → VK → Prop := fun x vs H Q => ∃ l xs i k y, x = .ref l ∧ vs = [.int i] ∧ H l = some (.lst xs) ∧ -(2 ^ 63) ≤ i ∧ i < 2 ^ 63 ∧ seqIndex? i xs.length = some k ∧ xs[k]? = some y ∧ Q y (upd H l (.lst (xs.eraseIdx k)))
theorem mt_popAt : MtM X "list.pop" rPopAt := by
  intro pins s σ H x vs v us Q I rx rv h
  obtain ⟨l, xs, i, k, y, rfl, rfl, hH, h1, h2, hk, hy, q⟩ := h
  cases rx
  obtain ⟨u, rfl, ru⟩ := rv.one
  obtain ⟨t, rfl⟩ := ru
  obtain ⟨z, its, n, r, hl, e⟩ := I.lstM hH
  obtain ⟨w, hw, rw'⟩ := r.get hy
  refine call_meets F.slot_list_pop ⟨_, e, rfl⟩ F.entry_list_pop (F.args_list_pop_2 _ _)
    (MeetsSeq.list_pop_at l its.toArray n i t k w (fitsIndex_both h1 h2) (by rw [List.size_toArray, ← hl]; exact hk) (by rw [← Array.getElem?_toList]; exact hw) (by rw [List.size_toArray]; omega)) ⟨e, ?_⟩
  refine ⟨y, _, I.lset (its' := its.eraseIdx k) hH e ?_ (r.eraseIdx k) ?_, rw', q⟩
  · show its.toArray.eraseIdxIfInBounds k = (its.eraseIdx k).toArray
    rw [List.eraseIdxIfInBounds_toArray]
  · have := len_erase xs k
    omega

def rReverse : V → List V → Hp → VK → Prop := fun x vs H Q => ∃ l xs, x = .ref l ∧ vs = [] ∧ H l = some (.lst xs) ∧ Q .non (upd H l (.lst xs.reverse))
theorem mt_reverse : MtM X "list.reverse" rReverse := by
  intro pins s σ H x vs v us Q I rx rv h
  obtain ⟨l, xs, rfl, rfl, hH, q⟩ := h
  cases rx
  have hus := rv.zero
  subst hus
  obtain ⟨z, its, n, r, hl, e⟩ := I.lstM hH
  refine call_meets F.slot_list_reverse ⟨_, e, rfl⟩ F.entry_list_reverse (F.args_list_reverse_1 _) (AutoSeq1.list_reverse_list_0 l its.toArray n (by rw [List.size_toArray]; omega)) ⟨e, ?_⟩
  refine ⟨.non, _, I.lset (its' := its.reverse) hH e (by simp) r.reverse ?_, rfl, q⟩
  rw [List.length_reverse]
  omega

def rClear : V → List V → Hp → VK → Prop := fun x vs H Q => ∃ l xs, x = .ref l ∧ vs = [] ∧ H l = some (.lst xs) ∧ Q .non (upd H l (.lst []))
theorem mt_clear : MtM X "list.clear" rClear := by
  intro pins s σ H x vs v us Q I rx rv h
  obtain ⟨l, xs, rfl, rfl, hH, q⟩ := h
  cases rx
  have hus := rv.zero
  subst hus
  obtain ⟨z, its, n, r, hl, e⟩ := I.lstM hH
  refine call_meets F.slot_list_clear ⟨_, e, rfl⟩ F.entry_list_clear (F.args_list_clear_1 _) (AutoSeq1.list_clear_list_0 l its.toArray n (by rw [List.size_toArray]; omega)) ⟨e, ?_⟩
  exact ⟨.non, _, I.lset (its' := []) (ys := []) hH e rfl .nil (Nat.zero_le _), rfl, q⟩

/-! ### list + list, list += list, list * int -/
def rCat : R2 := fun x y H Q => ∃ l b xs zs, x = .ref l ∧ y = .ref b ∧ H l = some (.lst xs) ∧ H b = some (.lst zs) ∧ xs.length + zs.length ≤ sizeLine ∧ ∀ p, H p = none → Q (.ref p) (upd H p (.lst (xs ++ zs)))
theorem op_cat : OpR X (binaryOp .Add) rCat := by
  intro pins s σ H x y v u Q I rx ry h
  obtain ⟨l, b, xs, zs, rfl, rfl, hH, hB, hz, q⟩ := h
  cases rx
  cases ry
  obtain ⟨z, its, n, r, hl, e⟩ := I.lstM hH
  obtain ⟨z2, its2, n2, r2, hl2, e2⟩ := I.lstM hB
  refine PySem.P.add_list e e2 ?_ (by rw [List.size_toArray, List.size_toArray]; omega)
  have ea : its.toArray ++ its2.toArray = (its ++ its2).toArray := by simp
  rw [ea]
  exact ⟨.ref _, _, I.lnew (t' := s.toks) (r.append r2) (by rw [List.length_append]; omega), rfl, q _ I.fresh⟩
/-! ### del xs[i] -/
end

/-! ### xs[a:b] = ys -/
section
variable {prog : Program} {w : World} {A : Around} {E : Value → Shared → Prop} {s : Shared}
end

section
variable {X : Cx}
end
end L2

namespace Att
open PySem PySem.W PySem.Calls PyProof.Rows

/-! ### the script -/
theorem ints_of_wellAll {P : Params} {h : Heap} : ∀ (ns : List Int) (vs : List Value), WellAll P h vs (ns.map WData.int) → IntsAre vs ns := by
  intro ns
  induction ns with
  | nil =>
    intro vs w
    rw [List.map_nil] at w
    cases w
    exact .nil
  | cons n ns ih =>
    intro vs w
    rw [List.map_cons] at w
    cases w with
    | cons a b =>
      cases a
      exact .cons _ _ (ih _ b)

theorem script_of {l : OpenLaw} {n : Nat} (hn : l.most = some n) {P : Params} {h : Heap} {args : List WData} {vals : List Value}
    (hpre : l.row.toRowW.claim.pre args = true) (hwl : WellAll P h vals args) :
    ∃ a vs ns, vals = [Value.ref a] ∧ args = [WData.list (ns.map WData.int)] ∧ h.get? a = some { cls := .type "list", data := .seq vs.toArray } ∧ IntsAre vs ns ∧ ns.length ≤ n := by
  have hsh : WShape.hasAll [] args [.list .int] = true := (pre_splitW hpre).1
  have hc : l.pre.holds [] { args := args } = true := (pre_splitW hpre).2
  obtain ⟨d, r, rfl, h1, h2⟩ := hasAllW_cons hsh
  obtain rfl := hasAllW_nil h2
  obtain ⟨xs, rfl, h3⟩ := hasW_list h1
  obtain ⟨ns, rfl⟩ := items_int h3
  have hlen : ns.length ≤ n := by
    unfold OpenLaw.pre at hc
    have h4 : (WTm.not (.lt (.lit (.int (n : Int))) (.len (.arg 0)))).holds [] { args := [.list (ns.map .int)] } = true := by
      have h4 := (holds_andW hc).1
      rw [hn] at h4
      exact h4
    have h5 := condW_of h4 (w_not (w_lt w_lit (w_len_list (w_arg rfl))))
    rw [List.length_map] at h5
    refine Nat.le_of_not_lt fun q => ?_
    have q' : (n : Int) < ((ns.length : Nat) : Int) := by omega
    first
      | (rw [decide_eq_true q'] at h5; exact absurd h5 (by decide))
      | (simp at h5; omega)
  cases hwl with
  | cons w1 w2 =>
    cases w2
    cases w1 with
    | list ho hall => exact ⟨_, _, ns, rfl, rfl, ho, ints_of_wellAll ns _ hall, hlen⟩

theorem post_true (l : OpenLaw) (args : List WData) : l.row.toRowW.claim.post args (.bool true) args = true :=
  postW_of (r := l.row.toRowW) (X := (true == true))
    (show WShape.has [] (.bool true) .bool = true by first | rfl | decide | simp [WShape.has, WShape.arms, WShape.armsAll])
    (show (WTm.eq .res (.lit (.bool true))).value [] { args := args, res := some (.bool true), after := args } = some (.bool (true == true)) from w_eq_bool (w_res rfl) w_lit) rfl

/-! ### the attachment: holds_open's last premise (the goal 'hc' behind k_head) from a wpAny of the law's body -/
/-- the same from a codeAny of the CALL (for a layer whose function contracts speak of calls) -/
theorem attach_call {l : OpenLaw} {n : Nat} {q : Program} {loose : List Str} {XP : (Str → Option Value) → Heap → Prop} {YP : World → Heap → Prop} {d : DefRec}
    (hn : l.most = some n) (hdf : d.params.defaults = [])
    (call : ∀ (w : World) (s₀ s₁ : Shared) (mg mb : Str → Option Value) (fa : Addr) (o : Obj) (pm cd doc : Value) (a : Addr) (vs : List Value) (ns : List Int),
      Ground q loose [] XP w s₀ mg mb s₁.heap → YP w s₁.heap →
      s₁.heap.get? fa = some o → o.data = .func (docDef d.name d.params d.body d.scope pm cd doc) → s₁.heap.CodeRec cd d.name → mg d.name = some (.ref fa) →
      s₁.heap.get? a = some { cls := .type "list", data := .seq vs.toArray } → IntsAre vs ns → ns.length ≤ n → s₁.gens = #[] →
      codeAny (model l.prog w) callerA (.call (.ref fa) ⟨[.ref a], []⟩) (fun r s' => r = .ok (.ret (.bool true)) ∧ OldK s₁.heap s'.heap ∧ s'.os = s₁.os ∧ AllBare s'.gens) s₁) :
    WalkO q loose XP YP l.row.toRowW d [] (fun f vs => PySem.call f vs) := by
  intro w s₀ s₁ mg mb G Y fa o pm cd doc dV kV ho hd hcd hD hmg hg args vals as hpre hlay hrd hwl hlo
  obtain rfl : dV = .none := Dflts.none hD hdf
  obtain rfl : kV = .none := Dflts.noKw hD
  obtain ⟨a, vs, ns, rfl, rfl, hobj, hints, hlen⟩ := script_of hn hpre hwl
  refine enter_call (codeAny_mono (call w s₀ s₁ mg mb fa o pm cd doc a vs ns G Y ho (fd_plain hd) hcd hmg hobj hints hlen hg) fun r s' hq => ?_)
  obtain ⟨rfl, h2, h3, h4⟩ := hq
  exact ⟨.inl ⟨.bool true, .bool true, [], rfl, fun _ => rfl, .bool true, post_true l _, fun _ => ⟨List.Pairwise.nil, fun _ hm => (nomatch hm)⟩⟩, h2, h3, h4⟩

/-! ### rules over ANY heap (no ledger) from facts about the written part K: the library's own take a ledger (News) for what they write -/
section
variable {prog : Program} {w : World} {A : Around} {E : Value → Shared → Prop} {s : Shared} {K : Frag}

/-! the whole heap as the ledger: makes every rule that writes through a ledger a rule over any heap -/
end
end Att

namespace L2
open PySem PySem.Spec PyProof.Rows

theorem vals_ints : ∀ {vs : List Value} {ns : List Int}, IntsAre vs ns → Vals (ns.map V.int) vs
  | _, _, .nil => .nil
  | _, _, .cons n t h => .cons ⟨t, rfl⟩ (vals_ints h)

/-- nothing is tracked but the script, known to the object (or it is an object of the module) -/
def Only (H : Hp) : Prop := ∀ b, H b = none ∨ ∃ o xs, H b = some (.frz o (.lst xs))

/-- THE HEAD: the law's promise, at the heap behind the top. F, the promise of the law's def, may use that base is part of the heap (so K.In base, base.Ns mainGlobals mg stand in Mod) -/
theorem law_call {P : Program} {w : World} {K : PySem.W.Frag} {mg mb : Str → Option Value} {CX : CXT} {k : Nat} {fa a : Addr} {fd : FuncData} {x : Str} {sp : Sp} {s₁ : Shared} {vs : List Value} {ns : List Int}
    (KX : K.In s₁.heap) (hns : s₁.heap.Ns mainGlobals mg) (hb : s₁.heap.Ns builtinsNs mb) (hbb : ∀ x : Str, x ≠ "__name__" → mb x = bootBuiltins x) (hlim : s₁.heap.NoLimit) (hg : s₁.gens = #[])
    (ha : s₁.heap.get? a = some { cls := .type "list", data := .seq vs.toArray }) (hi : IntsAre vs ns) (hl : ns.length ≤ sizeLine) (hr : Room k callerA)
    (F : ∀ base : Heap, K.In base → base.Ns mainGlobals mg → FnOk P w K mg base CX k fa fd [x] sp) (hbind : ∀ (s : Shared) (u : Value), BindsTo s fd ⟨[u], []⟩ [(x, u)])
    (hsp : ∀ H : Hp, Only H → SqL K H a (ns.map V.int) → sp [.ref a] H (fun v _ => v = .bl true) fun _ _ _ => False)
    (hCX : ∀ H e s', CX [] H s₁ (fun _ _ _ => False) e s' → False) :
    codeAny (model P w) callerA (.call (.ref fa) ⟨[.ref a], []⟩) (fun r s' => r = .ok (.ret (.bool true)) ∧ OldK s₁.heap s'.heap ∧ s'.os = s₁.os ∧ AllBare s'.gens) s₁ := by
  have rv := vals_ints hi
  have lenV := hi.length
  -- from an abstract heap in which nothing but the script may be tracked
  have core : ∀ H : Hp, Only H → SqL K H a (ns.map V.int) → HOk P w H s₁.heap → (∀ b, H b ≠ none → b = a) → (H a ≠ none → K.lookup a = none) →
      codeAny (model P w) callerA (.call (.ref fa) ⟨[.ref a], []⟩) (fun r s' => r = .ok (.ret (.bool true)) ∧ OldK s₁.heap s'.heap ∧ s'.os = s₁.os ∧ AllBare s'.gens) s₁ := by
    intro H hO hS hok hA hK
    have base_of : ∀ {b : Addr} {o : Obj}, s₁.heap.get? b = some o → H b = none → (hidT s₁.heap H).get? b = some o := fun e n => hidT_get e n
    have noA : ∀ {b : Addr} {o : Obj} {es : Array DictEntry} {ep : Nat}, s₁.heap.get? b = some o → o.data = .dict es ep → H b = none := fun {b o es ep} e d => by
      cases q : H b with
      | none => rfl
      | some u =>
        have e' : b = a := hA b (by rw [q]; simp)
        subst e'
        rw [ha] at e; cases e
        have d' : Data.seq vs.toArray _ = Data.dict es ep := d
        cases d'
    have nsK : ∀ {b : Addr} {m : Str → Option Value}, s₁.heap.Ns b m → (hidT s₁.heap H).Ns b m := fun {b m} ⟨o, es, ep, e, d, r⟩ => ⟨o, es, ep, base_of e (noA e d), d, r⟩
    have hKb : K.In (hidT s₁.heap H) := fun b o e => base_of (KX b o e) (by
      cases q : H b with
      | none => rfl
      | some u =>
        have e' : b = a := hA b (by rw [q]; simp)
        subst e'
        rw [hK (by rw [q]; simp)] at e; cases e)
    have hM : Mod K mg (hidT s₁.heap H) := ⟨hKb, nsK hns, ⟨mb, nsK hb, hbb⟩, let ⟨mc, h1, h2⟩ := hlim; ⟨mc, nsK h1, h2⟩⟩
    have e0 : Env0 P w K mg (hidT s₁.heap H) callerA [] s₁ H := ⟨rfl, hM, fun b o e => of_hidT e, Nat.le_of_eq (hidT_size _ _), trivial, fun b hb => absurd (show b ∈ ([] : List Addr) from hb) (by simp), hok, .of_eq hg⟩
    refine codeAny_mono ((F _ hKb (nsK hns)).run callerA [] s₁ H ⟨[.ref a], []⟩ [.ref a] [.ref a] _ _ hr e0 (hbind s₁ (.ref a)) (.cons rfl .nil) (hsp H hO hS)) fun r s' h => ?_
    cases r with
    | error e => exact (hCX H e s' h).elim
    | ok fl =>
      cases fl with
      | next => exact False.elim h
      | brk => exact False.elim h
      | cont => exact False.elim h
      | ret u =>
        obtain ⟨v, H', os, bare, un, hok', r', q⟩ := h
        have q' : v = .bl true := q
        subst q'
        obtain rfl : u = Value.bool true := r'
        refine ⟨rfl, OldK.of_keep fun b o e => ?_, os, bare⟩
        cases q : H b with
        | none => exact un.keep b o e q (by intro z; exact absurd (show b ∈ ([] : List Addr) from z) (by simp)) (by simp)
        | some u =>
          rcases hO b with z | ⟨ob, xs, z⟩
          · rw [q] at z; cases z
          · have z2 := un.frzs b ob _ z
            obtain ⟨e1, _⟩ := hok b _ z
            obtain ⟨e2, _⟩ := hok' b _ z2
            rw [e] at e1; cases e1
            exact e2
  cases hk : K.lookup a with
  | some o =>
    -- the script is one of the module's own objects
    have e := KX a o hk
    rw [ha] at e
    cases e
    refine core (fun _ => none) (fun _ => .inl rfl) (.inr ⟨_, vs.toArray, _, hk, rfl, rfl, rfl, by rw [List.size_toArray, lenV]; exact hl, by simpa using rv⟩) (fun b u z => by have z' : (none : Option HO) = some u := z; cases z') (fun b z => absurd rfl z) fun z => absurd rfl z
  | none =>
    refine core (fun b => if b = a then some (.frz { cls := .type "list", data := .seq vs.toArray } (.lst (ns.map V.int))) else none) (fun b => ?_) (.inl (.inr ⟨{ cls := .type "list", data := .seq vs.toArray }, if_pos rfl⟩)) (fun b u z => ?_) (fun b z => ?_) fun _ => hk
    · by_cases hb : b = a
      · exact .inr ⟨_, _, if_pos hb⟩
      · exact .inl (if_neg hb)
    · by_cases hb : b = a
      · have z' := (if_pos hb).symm.trans z
        cases z'
        subst hb
        exact ⟨ha, by rw [List.length_map]; exact hl, vs, _, rv, ha⟩
      · have z' := (if_neg hb).symm.trans z
        cases z'
    · by_cases hb : b = a
      · exact hb
      · exact absurd (if_neg hb) z
end L2

namespace L2
open PySem PySem.Spec PyProof.Rows

/-- the goal that k_head leaves (case hc), from the law's promise. F gives the function object fd (K's own) once, then the promise over every base -/
theorem walk_of {l : PySem.W.OpenLaw} {n k : Nat} {q : Program} {loose : List Str} {XP : (Str → Option Value) → Heap → Prop} {YP : World → Heap → Prop} {d : DefRec} {K : Params → PySem.W.Frag} {CX : World → CXT} {sp : World → Sp} {x : Str}
    (hn : l.most = some n) (hn2 : n ≤ sizeLine) (hdf : d.params.defaults = []) (hr : Room k callerA)
    (hY : ∀ (w : World) (h : Heap), YP w h → (K w.params).In h)
    (F : ∀ (w : World) (mg : Str → Option Value) (fa : Addr) (h : Heap), (K w.params).In h → h.Ns mainGlobals mg → mg d.name = some (.ref fa) →
      ∃ fd : FuncData, (∀ (s : Shared) (u : Value), BindsTo s fd ⟨[u], []⟩ [(x, u)]) ∧
        ∀ base : Heap, (K w.params).In base → base.Ns mainGlobals mg → FnOk l.prog w (K w.params) mg base (CX w) k fa fd [x] (sp w))
    (hsp : ∀ (w : World) (H : Hp) (a : Addr) (ns : List Int), ns.length ≤ n → Only H → SqL (K w.params) H a (ns.map V.int) → sp w [.ref a] H (fun v _ => v = .bl true) fun _ _ _ => False)
    (hCX : ∀ (w : World) (H : Hp) (s : Shared) (e : Value) (s' : Shared), CX w [] H s (fun _ _ _ => False) e s' → False) :
    PySem.W.WalkO q loose XP YP l.row.toRowW d [] (fun f vs => PySem.call f vs) := by
  refine Att.attach_call hn hdf fun w s₀ s₁ mg mb fa o pm cd doc a vs ns G Y ho hd hcd hmg hobj hints hlen hg => ?_
  have KX := hY w _ Y
  obtain ⟨fd, hb, hF⟩ := F w mg fa _ KX G.T.g hmg
  exact law_call KX G.T.g G.T.b G.T.builtins G.T.nolimit hg hobj hints (Nat.le_trans hlen hn2) hr hF hb (fun H hO hS => hsp w H a ns hlen hO hS) fun H e s' => hCX w H s₁ e s'
end L2

/- THE LAST THEOREM (shape; LID, My.* are yours):
   My.Adr: a structure of the addresses that your layer names (classes, functions); My.Txt K t: a structure (Prop) of the equations over K;
   My.txt_mk : {K} {implicit addresses ..} (e1 : nsIn K mainGlobals "law" = some (some (.ref f))) (e2 : K.lookup f = some ⟨oc, od, .func (fnOf "law" "law" params body scope dV kV doc pm an cdv ct), sl⟩) (e3 : codeIn K cdv "law" = true) .. : ∃ t, My.Txt K t

set_option maxRecDepth 100000 in
set_option maxHeartbeats 0 in
theorem PySem.Challenge.cw_LID_holds : PySem.Challenge.rw_LID.Holds := by
  w_on; o_law; k_head; (case hw => w_witness2)
  k_fill
  refine L2.walk_of (l := PySem.Challenge.rw_LID) (n := 63) (k := 40) (x := "script") (CX := fun w => ..) (sp := fun _ => My.sp_law) rfl (by decide) rfl ⟨rfl, by decide, by decide⟩ (fun w h Y => PySem.W.kIn_of Y) ?F ?S ?C
  case F =>
    intro w mg fa h KX G hmg
    have T : ∃ t, My.Txt (L2.KOf KX) t := by
      dsimp only [L2.KOf]                          -- K must stand as «<heap const> w.params» for k_is
      refine' My.txt_mk ?e1 ?e2 ?e3 ..
      (case e1 => PySem.W.k_is)                    -- in the order: a name -> its address -> its object -> its parts
      (case e2 => PySem.W.k_is)
      ..
    obtain ⟨t, T⟩ := T
    have e0 := hmg.symm.trans (PySem.W.mg_of KX G T.law)
    cases e0                                       -- fa is the law's own address
    exact ⟨_, fun s u => .of_eq rfl, fun base kb nb => My.law_fn T kb nb⟩     -- if «.of_eq rfl» comes too early: refine' ⟨_, ?b, fun base kb nb => My.law_fn T kb nb⟩; exact fun s u => .of_eq rfl
  case S => exact fun w H a ns hl hO hS => ..
  case C => exact ..
(the tactic k_is has no namespace: write k_is) -/

/-! SHORT WORDS over the layer: a def of the text, its body, what a loop and a test want. -/
namespace L2
open PySem PySem.Spec PyProof.Rows

/-! ### the text by places -/
/-- the j-th statement of a class's body -/
def inClass (s : Stmt) (j : Nat) : Stmt := match s with
  | .ClassDef _ _ _ body _ _ _ _ _ _ _ => body.getD j (.Pass ⟨0, 0, 0, 0⟩)
  | _ => .Pass ⟨0, 0, 0, 0⟩
def defArgs (s : Stmt) : Arguments := match s with
  | .FunctionDef _ a _ _ _ _ _ _ _ _ => a
  | _ => { posonlyargs := [], args := [], vararg := none, kwonlyargs := [], kw_defaults := [], kwarg := none, defaults := [] }
def defBody (s : Stmt) : List Stmt := match s with
  | .FunctionDef _ _ b _ _ _ _ _ _ _ => b
  | _ => []
def defScope (s : Stmt) : Scope := match s with
  | .FunctionDef _ _ _ _ _ _ sc _ _ _ => sc
  | _ => { kind := .function, names := [], isGenerator := false, isCoroutine := false }

/-! ### no exception leaves a def -/
abbrev CX0 : CXT := fun _ _ _ _ _ _ => False
abbrev E0 : XK := fun _ _ _ => False
theorem pass0 {X : Cx} : Passes CX0 X E0 := fun _ _ _ _ _ _ _ h => h.elim

/-! ### a def (or method) of the text as it stands behind the top -/
structure Fun (K : PySem.W.Frag) (x qual : Str) (st : Stmt) (f : Addr) (fd : FuncData) : Prop where
  ex : ∃ (oc : Value) (od : Option Addr) (kV doc pm : Value) (an : Option Addr) (cdv ct : Value) (osl : Array (Option Value)),
    fd = PySem.W.fnOf x qual (defArgs st) (defBody st) (defScope st) .none kV doc pm an cdv ct ∧ K.lookup f = some ⟨oc, od, .func fd, osl⟩ ∧ PySem.W.codeIn K cdv qual = true
  kp : PySem.W.keepIn K (.ref f) = true
section
variable {P : Program} {w : World} {K : PySem.W.Frag} {mg : Str → Option Value} {base : Heap}
/-- THE RULE for a def: its body as a term of rules, and the reading of that term -/
theorem Fun.ok {x qual : Str} {st : Stmt} {f : Addr} {fd : FuncData} {N ps : List Str} {k : Nat} {sp : Sp} (F : Fun K x qual st f fd) (S : FnScope N ps (defScope st)) (len : ∀ vs H Q E, sp vs H Q E → vs.length = ps.length)
    (hbody : ∀ (cdv : Value) (A : Around) (outer : List Env) (s : Shared) (H : Hp) (vs : List V) (Q : VK) (E : XK), Room k (A.deeper (envOfC qual (defScope st) s.heap.objs.size f cdv)) → sp vs H Q E →
      ∃ t, PSs (cxOf CX0 P w K mg base N qual (defScope st) f cdv A outer s H E).nox (defBody st) t ∧ t { nx := fun _ H' => Q .non H', rt := Q } (start N vs) H) : FnOk P w K mg base CX0 (k + 1) f fd ps sp := by
  obtain ⟨oc, od, kV, doc, pm, an, cdv, ct, osl, rfl, lk, hcd⟩ := F.ex
  refine fn_of lk hcd S len fun A outer s H vs Q E hr hsp => ?_
  obtain ⟨t, h, q⟩ := hbody cdv A outer s H vs Q E hr hsp
  exact ⟨t, h.nox, q⟩
/-- how its arguments bind (no defaults): h is «fun _ _ _ _ _ _ us hl => match us, hl with | [_, _], _ => rfl», one _ a parameter -/
theorem Fun.binds {x qual : Str} {st : Stmt} {f : Addr} {fd : FuncData} {ps : List Str} (F : Fun K x qual st f fd)
    (h : ∀ (kV doc pm : Value) (an : Option Addr) (cdv ct : Value) (us : List Value), us.length = ps.length → bindArgs (PySem.W.fnOf x qual (defArgs st) (defBody st) (defScope st) .none kV doc pm an cdv ct) ⟨us, []⟩ = pure (ps.zip us)) : Binds K fd ps [] := by
  obtain ⟨oc, od, kV, doc, pm, an, cdv, ct, osl, rfl, lk, hcd⟩ := F.ex
  exact .all (h kV doc pm an cdv ct)
theorem fun_mk {x qual : Str} {st : Stmt} {f : Addr} {oc : Value} {od an : Option Addr} {osl : Array (Option Value)} {kV doc pm cdv ct : Value} (l : K.lookup f = some ⟨oc, od, .func (PySem.W.fnOf x qual (defArgs st) (defBody st) (defScope st) .none kV doc pm an cdv ct), osl⟩)
    (c : PySem.W.codeIn K cdv qual = true) (k : PySem.W.keepIn K (.ref f) = true) : Fun K x qual st f (PySem.W.fnOf x qual (defArgs st) (defBody st) (defScope st) .none kV doc pm an cdv ct) := ⟨⟨oc, od, kV, doc, pm, an, cdv, ct, osl, rfl, l, c⟩, k⟩
end
theorem small1000 {n : Nat} (h : n ≤ 1000) : n < sizeLine := Nat.lt_of_le_of_lt h (by decide)

/-! ### expressions in short: the name that stands in the i-th slot -/
section
variable {X : Cx}
theorem pv (i : Nat) {x : Str} {pos : Pos} (hN : X.N[i]? = some x := by rfl) (hv : Vis X.env.scope x := by first | exact Or.inl rfl | exact Or.inr (Or.inl rfl) | exact Or.inr (Or.inr rfl)) (hd : (x == ("__debug__" : Str)) = false := by decide)
    (hcd : (x == ("__classdict__" : Str)) = false := by decide) : PE X (.Name x pos) (tVar i) := pe_var hN hv hd hcd
end

/-! ### tests -/
theorem iteF {A B : Prop} (h : B) : if false = true then A else B := by
  rw [if_neg Bool.false_ne_true]
  exact h
theorem iteT {A B : Prop} (h : A) : if true = true then A else B := by
  rw [if_pos rfl]
  exact h
theorem ite2 {c A B : Prop} [Decidable c] (h1 : c → A) (h2 : ¬ c → B) : if c then A else B := by
  by_cases h : c
  · rw [if_pos h]
    exact h1 h
  · rw [if_neg h]
    exact h2 h
/-! ### heaps -/
/-- all that was tracked is as it was -/
def Same (H H' : Hp) : Prop := ∀ b o, H b = some o → H' b = some o
theorem Same.refl (H : Hp) : Same H H := fun _ _ h => h
theorem Same.trans {H H1 H2 : Hp} (a : Same H H1) (b : Same H1 H2) : Same H H2 := fun c o h => b c o (a c o h)
theorem Same.free {H H' : Hp} (e : Same H H') {l : Addr} (h : H' l = Option.none) : H l = Option.none := by
  cases q : H l with
  | none => rfl
  | some o =>
    rw [e l o q] at h
    cases h
theorem Same.seq {K : PySem.W.Frag} {H H' : Hp} {a : Addr} {xs : List V} (e : Same H H') (h : SqL K H a xs) : SqL K H' a xs := by
  rcases h with (h | ⟨o, h⟩) | h
  · exact .inl (.inl (e _ _ h))
  · exact .inl (.inr ⟨o, e _ _ h⟩)
  · exact .inr h

end L2

namespace Wb
abbrev W := List (List Nat)
def row (w : W) (p : Nat) : List Nat := w.getD p []
inductive Reach (w : W) : Nat → Nat → Prop
  | refl (p) : Reach w p p
  | step {p q r} : Reach w p q → r ∈ row w q → Reach w p r
structure Good (w : W) : Prop where
  rng : ∀ p q, q ∈ row w p → q < w.length
  irr : ∀ p, p ∉ row w p
  nod : ∀ p, (row w p).Nodup
  sym : ∀ p q, q ∈ row w p → p ∈ row w q
  con : ∀ p, p < w.length → Reach w 0 p
theorem row_lt {w : W} {p q : Nat} (h : q ∈ row w p) : p < w.length := by
  apply Classical.byContradiction; intro hn
  unfold row at h
  rw [List.getD_eq_getElem?_getD, List.getElem?_eq_none (by omega)] at h
  simp at h
theorem row_get {w : W} {p : Nat} (h : p < w.length) : w[p]? = some (row w p) := by
  unfold row; rw [List.getD_eq_getElem?_getD, List.getElem?_eq_getElem h]; rfl
theorem row_out {w : W} {p : Nat} (h : w.length ≤ p) : row w p = [] := by
  unfold row; rw [List.getD_eq_getElem?_getD, List.getElem?_eq_none h]; rfl
theorem Reach.trans {w : W} {p q r : Nat} (h : Reach w p q) (h' : Reach w q r) : Reach w p r := by
  induction h' with
  | refl => exact h
  | step _ hr ih => exact .step ih hr
theorem Reach.symm {w : W} (hs : ∀ p q, q ∈ row w p → p ∈ row w q) {p q : Nat} (h : Reach w p q) : Reach w q p := by
  induction h with
  | refl => exact .refl _
  | step _ hr ih => exact (Reach.step (.refl _) (hs _ _ hr)).trans ih
theorem Reach.mono {w w' : W} (hm : ∀ p q, q ∈ row w p → q ∈ row w' p) {p q : Nat} (h : Reach w p q) : Reach w' p q := by
  induction h with
  | refl => exact .refl _
  | step _ hr ih => exact .step ih (hm _ _ hr)
/-! insertion -/
def ins {α : Type} (xs : List α) (i : Nat) (x : α) : List α := xs.take i ++ x :: xs.drop i
theorem ins_perm {α : Type} (xs : List α) (i : Nat) (x : α) : (ins xs i x).Perm (x :: xs) := by
  unfold ins
  have h := @List.perm_middle _ x (xs.take i) (xs.drop i)
  rw [List.take_append_drop] at h
  exact h
theorem mem_ins {α : Type} {xs : List α} {i : Nat} {x a : α} : a ∈ ins xs i x ↔ a = x ∨ a ∈ xs := by
  rw [(ins_perm xs i x).mem_iff, List.mem_cons]
theorem nodup_ins {α : Type} {xs : List α} {i : Nat} {x : α} (h : xs.Nodup) (hx : x ∉ xs) : (ins xs i x).Nodup := by
  rw [(ins_perm xs i x).nodup_iff, List.nodup_cons]; exact ⟨hx, h⟩
theorem ins_len {α : Type} (xs : List α) (i : Nat) (x : α) : (ins xs i x).length = xs.length + 1 := by
  rw [(ins_perm xs i x).length_eq]; rfl
theorem ins_map {α β : Type} (f : α → β) (xs : List α) (i : Nat) (x : α) : (ins xs i x).map f = ins (xs.map f) i (f x) := by
  unfold ins; simp [List.map_take, List.map_drop]
/-! a row set -/
theorem row_set {w : W} {p x : Nat} {r : List Nat} (h : p < w.length) : row (w.set p r) x = if p = x then r else row w x := by
  unfold row
  rw [List.getD_eq_getElem?_getD, List.getElem?_set]
  by_cases e : p = x
  · rw [if_pos e, if_pos e, if_pos h]; rfl
  · rw [if_neg e, if_neg e, List.getD_eq_getElem?_getD]
theorem row_snoc {w : W} {r : List Nat} {x : Nat} : row (w ++ [r]) x = if x = w.length then r else row w x := by
  unfold row
  rw [List.getD_eq_getElem?_getD, List.getElem?_append]
  split
  · rw [if_neg (by omega), List.getD_eq_getElem?_getD]
  · split
    · rename_i h e; subst e; simp
    · rename_i h e
      rw [List.getD_eq_getElem?_getD, List.getElem?_eq_none (by simp; omega), List.getElem?_eq_none (by omega)]
theorem good_one : Good [[]] := by
  have hr : ∀ p, row [[]] p = [] := fun p => by
    unfold row; cases p with
    | zero => rfl
    | succ n => simp
  refine ⟨fun p q h => ?_, fun p h => ?_, fun p => ?_, fun p q h => ?_, fun p h => ?_⟩
  · rw [hr] at h; cases h
  · rw [hr] at h; cases h
  · rw [hr]; exact List.nodup_nil
  · rw [hr] at h; cases h
  · have : p = 0 := by simp at h; exact h
    subst this; exact .refl _
/-- a leaf hung into p's turn -/
def leaf (w : W) (p i : Nat) : W := (w.set p (ins (row w p) i w.length)) ++ [[p]]
theorem leaf_len (w : W) (p i : Nat) : (leaf w p i).length = w.length + 1 := by unfold leaf; simp
theorem row_leaf {w : W} {p i x : Nat} (h : p < w.length) : row (leaf w p i) x = if x = w.length then [p] else if p = x then ins (row w p) i w.length else row w x := by
  unfold leaf; rw [row_snoc, List.length_set, row_set h]
theorem good_leaf {w : W} {p i : Nat} (g : Good w) (h : p < w.length) : Good (leaf w p i) := by
  have hr := fun x => row_leaf (i := i) (x := x) h
  have nl : ∀ x, w.length ∉ row w x := fun x hx => Nat.lt_irrefl _ (g.rng _ _ hx)
  have mono : ∀ x q, q ∈ row w x → q ∈ row (leaf w p i) x := fun x q hq => by
    have := row_lt hq
    rw [hr, if_neg (by omega)]
    split
    · rename_i e; subst e; exact mem_ins.mpr (.inr hq)
    · exact hq
  refine ⟨fun x q hx => ?_, fun x hx => ?_, fun x => ?_, fun x q hx => ?_, fun x hx => ?_⟩
  · rw [hr] at hx; rw [leaf_len]
    split at hx
    · simp at hx; omega
    · split at hx
      · rcases mem_ins.mp hx with e | e
        · omega
        · have := g.rng _ _ e; omega
      · have := g.rng _ _ hx; omega
  · rw [hr] at hx
    split at hx
    · simp at hx; omega
    · split at hx
      · rcases mem_ins.mp hx with e | e
        · omega
        · rename_i e2; subst e2; exact g.irr _ e
      · exact g.irr _ hx
  · rw [hr]; split
    · simp
    · split
      · exact nodup_ins (g.nod _) (nl _)
      · exact g.nod _
  · rw [hr] at hx
    split at hx
    · have e : q = p := by simpa using hx
      subst e
      rename_i e
      rw [hr, if_neg (by omega), if_pos rfl, e]
      exact mem_ins.mpr (.inl rfl)
    · split at hx
      · rename_i e; subst e
        rcases mem_ins.mp hx with e | e
        · rw [hr, if_pos e]; simp
        · exact mono _ _ (g.sym _ _ e)
      · exact mono _ _ (g.sym _ _ hx)
  · rw [leaf_len] at hx
    by_cases e : x = w.length
    · refine Reach.step ((g.con p h).mono mono) ?_
      rw [hr, if_neg (by omega), if_pos rfl, e]
      exact mem_ins.mpr (.inl rfl)
    · exact (g.con x (by omega)).mono mono
/-- a tie put between p and u -/
def tie (w : W) (p i u j : Nat) : W := (w.set p (ins (row w p) i u)).set u (ins (row w u) j p)
theorem tie_len (w : W) (p i u j : Nat) : (tie w p i u j).length = w.length := by unfold tie; simp
theorem row_tie {w : W} {p i u j x : Nat} (hp : p < w.length) (hu : u < w.length) : row (tie w p i u j) x = if u = x then ins (row w u) j p else if p = x then ins (row w p) i u else row w x := by
  unfold tie; rw [row_set (by simpa using hu), row_set hp]
theorem good_tie {w : W} {p i u j : Nat} (g : Good w) (hp : p < w.length) (hu : u < w.length) (ne : u ≠ p) (nt : u ∉ row w p) : Good (tie w p i u j) := by
  have hr := fun x => row_tie (i := i) (j := j) (x := x) hp hu
  have nt' : p ∉ row w u := fun h => nt (g.sym _ _ h)
  have mono : ∀ x q, q ∈ row w x → q ∈ row (tie w p i u j) x := fun x q hq => by
    rw [hr]
    split
    · rename_i e; subst e; exact mem_ins.mpr (.inr hq)
    · split
      · rename_i e; subst e; exact mem_ins.mpr (.inr hq)
      · exact hq
  refine ⟨fun x q hx => ?_, fun x hx => ?_, fun x => ?_, fun x q hx => ?_, fun x hx => ?_⟩
  · rw [hr] at hx; rw [tie_len]
    split at hx
    · rcases mem_ins.mp hx with e | e
      · omega
      · exact g.rng _ _ e
    · split at hx
      · rcases mem_ins.mp hx with e | e
        · omega
        · exact g.rng _ _ e
      · exact g.rng _ _ hx
  · rw [hr] at hx
    split at hx
    · rename_i e2; subst e2
      rcases mem_ins.mp hx with e | e
      · exact ne e
      · exact g.irr _ e
    · split at hx
      · rename_i e2; subst e2
        rcases mem_ins.mp hx with e | e
        · exact ne e.symm
        · exact g.irr _ e
      · exact g.irr _ hx
  · rw [hr]; split
    · exact nodup_ins (g.nod _) nt'
    · split
      · exact nodup_ins (g.nod _) nt
      · exact g.nod _
  · rw [hr] at hx
    split at hx
    · rename_i e2; subst e2
      rcases mem_ins.mp hx with e | e
      · subst e; rw [hr, if_neg ne, if_pos rfl]; exact mem_ins.mpr (.inl rfl)
      · exact mono _ _ (g.sym _ _ e)
    · split at hx
      · rename_i e2; subst e2
        rcases mem_ins.mp hx with e | e
        · subst e; rw [hr, if_pos rfl]; exact mem_ins.mpr (.inl rfl)
        · exact mono _ _ (g.sym _ _ e)
      · exact mono _ _ (g.sym _ _ hx)
  · rw [tie_len] at hx; exact (g.con x hx).mono mono
/-- points numbered anew, turns begun elsewhere -/
theorem good_ren {w w' : W} {ord : Nat → Nat} (g : Good w) (hl : w'.length = w.length) (into : ∀ p, p < w.length → ord p < w.length)
    (inj : ∀ p q, p < w.length → q < w.length → ord p = ord q → p = q) (sur : ∀ y, y < w.length → ∃ p, p < w.length ∧ ord p = y)
    (hrow : ∀ p, p < w.length → (row w' (ord p)).Perm ((row w p).map ord)) : Good w' := by
  have mem : ∀ p q, p < w.length → (q ∈ row w' (ord p) ↔ ∃ a, a ∈ row w p ∧ ord a = q) := fun p q hp => by
    rw [(hrow p hp).mem_iff, List.mem_map]
  have reach : ∀ {p q}, Reach w p q → Reach w' (ord p) (ord q) := fun {p q} h => by
    induction h with
    | refl => exact .refl _
    | step _ hr ih => exact .step ih ((mem _ _ (row_lt hr)).mpr ⟨_, hr, rfl⟩)
  refine ⟨fun y q hy => ?_, fun y hy => ?_, fun y => ?_, fun y q hy => ?_, fun y hy => ?_⟩
  · obtain ⟨p, hp, rfl⟩ := sur y (by have := row_lt hy; omega)
    obtain ⟨a, ha, rfl⟩ := (mem p q hp).mp hy
    rw [hl]; exact into a (g.rng _ _ ha)
  · obtain ⟨p, hp, rfl⟩ := sur y (by have := row_lt hy; omega)
    obtain ⟨a, ha, e⟩ := (mem p _ hp).mp hy
    have := inj a p (g.rng _ _ ha) hp e
    subst this; exact g.irr _ ha
  · by_cases hy : y < w.length
    · obtain ⟨p, hp, rfl⟩ := sur y hy
      rw [(hrow p hp).nodup_iff]
      unfold List.Nodup
      rw [List.pairwise_map]
      refine List.Pairwise.imp_of_mem ?_ (g.nod p)
      intro a b ha hb ne e
      exact ne (inj a b (g.rng _ _ ha) (g.rng _ _ hb) e)
    · rw [row_out (by omega)]; exact List.nodup_nil
  · obtain ⟨p, hp, rfl⟩ := sur y (by have := row_lt hy; omega)
    obtain ⟨a, ha, rfl⟩ := (mem p q hp).mp hy
    exact (mem a _ (g.rng _ _ ha)).mpr ⟨p, g.sym _ _ ha, rfl⟩
  · rw [hl] at hy
    obtain ⟨p, hp, rfl⟩ := sur y hy
    obtain ⟨z, hz, e0⟩ := sur 0 (by omega)
    have h1 := reach (((g.con z hz).symm g.sym).trans (g.con p hp))
    rw [e0] at h1; exact h1
/-! darts, and the round from one of them -/
def succR (l : List Nat) (x : Nat) : Nat := l.getD ((l.idxOf x + 1) % l.length) 0
def nxt (w : W) (d : Nat × Nat) : Nat × Nat := (d.2, succR (row w d.2) d.1)
def Dart (w : W) (d : Nat × Nat) : Prop := d.2 ∈ row w d.1
theorem succR_get {l : List Nat} {x : Nat} (h : x ∈ l) : l[(l.idxOf x + 1) % l.length]? = some (succR l x) := by
  have hp : 0 < l.length := List.length_pos_of_mem h
  unfold succR
  rw [List.getD_eq_getElem?_getD, List.getElem?_eq_getElem (Nat.mod_lt _ hp)]; rfl
theorem succR_mem {l : List Nat} {x : Nat} (h : x ∈ l) : succR l x ∈ l := List.mem_of_getElem? (succR_get h)
theorem mod_inj {a b n : Nat} (ha : a < n) (hb : b < n) (e : (a + 1) % n = (b + 1) % n) : a = b := by
  by_cases h1 : a + 1 = n
  · by_cases h2 : b + 1 = n
    · omega
    · rw [h1, Nat.mod_self, Nat.mod_eq_of_lt (by omega)] at e; omega
  · by_cases h2 : b + 1 = n
    · rw [h2, Nat.mod_self, Nat.mod_eq_of_lt (by omega)] at e; omega
    · rw [Nat.mod_eq_of_lt (by omega), Nat.mod_eq_of_lt (by omega)] at e; omega
theorem succR_inj {l : List Nat} {x y : Nat} (nd : l.Nodup) (hx : x ∈ l) (hy : y ∈ l) (e : succR l x = succR l y) : x = y := by
  have hp : 0 < l.length := List.length_pos_of_mem hx
  have h1 := succR_get hx
  have h2 := succR_get hy
  rw [e] at h1
  have lx := List.idxOf_lt_length_iff.mpr hx
  have ly := List.idxOf_lt_length_iff.mpr hy
  obtain ⟨a1, b1⟩ := List.getElem?_eq_some_iff.mp h1
  obtain ⟨a2, b2⟩ := List.getElem?_eq_some_iff.mp h2
  have q := (List.getElem_inj nd).mp (b1.trans b2.symm)
  have q2 := mod_inj lx ly q
  have e1 := List.getElem_idxOf lx
  have e2 := List.getElem_idxOf ly
  rw [← e1, ← e2]
  simp only [q2]
theorem nxt_dart {w : W} {d : Nat × Nat} (g : Good w) (h : Dart w d) : Dart w (nxt w d) := succR_mem (g.sym _ _ h)
theorem nxt_inj {w : W} {d e : Nat × Nat} (g : Good w) (h : Dart w d) (h' : Dart w e) (q : nxt w d = nxt w e) : d = e := by
  have e2 : d.2 = e.2 := congrArg Prod.fst q
  have e1 : succR (row w d.2) d.1 = succR (row w e.2) e.1 := congrArg Prod.snd q
  rw [← e2] at e1
  have h1 : d.1 ∈ row w d.2 := g.sym _ _ h
  have h2 : e.1 ∈ row w d.2 := by rw [e2]; exact g.sym _ _ h'
  exact Prod.ext (succR_inj (g.nod _) h1 h2 e1) e2
def darts (w : W) : List (Nat × Nat) := (List.range w.length).flatMap fun p => (row w p).map fun q => (p, q)
theorem mem_darts {w : W} {d : Nat × Nat} : d ∈ darts w ↔ Dart w d := by
  unfold darts Dart
  rw [List.mem_flatMap]
  constructor
  · rintro ⟨p, _, h⟩
    obtain ⟨q, hq, rfl⟩ := List.mem_map.mp h
    exact hq
  · intro h
    exact ⟨d.1, List.mem_range.mpr (row_lt h), List.mem_map.mpr ⟨d.2, h, rfl⟩⟩
theorem len_le_of_subset {α : Type} [DecidableEq α] : ∀ {l m : List α}, l.Nodup → (∀ x ∈ l, x ∈ m) → l.length ≤ m.length
  | [], _, _, _ => Nat.zero_le _
  | a :: r, m, nd, h => by
    have nd' := List.nodup_cons.mp nd
    have am := h a List.mem_cons_self
    have ih := len_le_of_subset (l := r) (m := m.erase a) nd'.2 fun x hx => (List.mem_erase_of_ne (fun (e : x = a) => nd'.1 (by rw [← e]; exact hx))).mpr (h x (List.mem_cons_of_mem _ hx))
    rw [List.length_erase_of_mem am] at ih
    have := List.length_pos_of_mem am
    simp only [List.length_cons]; omega
theorem row_len {w : W} (g : Good w) (p : Nat) : (row w p).length ≤ w.length := by
  have := len_le_of_subset (m := List.range w.length) (g.nod p) fun x hx => List.mem_range.mpr (g.rng _ _ hx)
  simpa using this
theorem flat_len {α β : Type} {f : α → List β} {k : Nat} : ∀ {l : List α}, (∀ x ∈ l, (f x).length ≤ k) → (l.flatMap f).length ≤ l.length * k
  | [], _ => by simp
  | a :: r, h => by
    have ih := flat_len (f := f) (k := k) (l := r) fun x hx => h x (List.mem_cons_of_mem _ hx)
    have := h a List.mem_cons_self
    rw [List.flatMap_cons, List.length_append, List.length_cons, Nat.succ_mul]; omega
theorem darts_len {w : W} (g : Good w) : (darts w).length ≤ w.length * w.length := by
  have := flat_len (f := fun p => (row w p).map fun q => (p, q)) (k := w.length) (l := List.range w.length) fun x _ => by rw [List.length_map]; exact row_len g x
  rw [List.length_range] at this
  exact this
def itr (w : W) : Nat → Nat × Nat → Nat × Nat
  | 0, d => d
  | n + 1, d => nxt w (itr w n d)
theorem itr_dart {w : W} {d : Nat × Nat} (g : Good w) (h : Dart w d) : ∀ n, Dart w (itr w n d)
  | 0 => h
  | n + 1 => nxt_dart g (itr_dart g h n)
theorem itr_add {w : W} {d : Nat × Nat} (m : Nat) : ∀ n, itr w (n + m) d = itr w n (itr w m d)
  | 0 => by rw [Nat.zero_add]; rfl
  | n + 1 => by rw [Nat.succ_add]; show nxt w (itr w (n + m) d) = nxt w (itr w n (itr w m d)); rw [itr_add m n]
theorem itr_inj {w : W} {d e : Nat × Nat} (g : Good w) (h : Dart w d) (h' : Dart w e) : ∀ n, itr w n d = itr w n e → d = e
  | 0, q => q
  | n + 1, q => itr_inj g h h' n (nxt_inj g (itr_dart g h n) (itr_dart g h' n) q)
def walk (w : W) (d : Nat × Nat) (k : Nat) : List (Nat × Nat) := (List.range k).map fun i => itr w i d
theorem walk_succ (w : W) (d : Nat × Nat) (k : Nat) : walk w d (k + 1) = walk w d k ++ [itr w k d] := by
  unfold walk; rw [List.range_succ, List.map_append]; rfl
theorem walk_len (w : W) (d : Nat × Nat) (k : Nat) : (walk w d k).length = k := by unfold walk; simp
theorem walk_dart {w : W} {d : Nat × Nat} (g : Good w) (h : Dart w d) {k : Nat} : ∀ e ∈ walk w d k, Dart w e := fun e he => by
  obtain ⟨i, _, rfl⟩ := List.mem_map.mp he
  exact itr_dart g h i
theorem walk_nodup {w : W} {d : Nat × Nat} (g : Good w) (h : Dart w d) {k : Nat} (hk : ∀ j, 0 < j → j < k → itr w j d ≠ d) : (walk w d k).Nodup := by
  unfold walk List.Nodup
  rw [List.pairwise_map]
  refine List.Pairwise.imp_of_mem ?_ List.pairwise_lt_range
  intro i j hi hj lt e
  have hj' := List.mem_range.mp hj
  have e2 : itr w i d = itr w i (itr w (j - i) d) := by rw [← itr_add (j - i) i, show i + (j - i) = j by omega]; exact e
  exact hk (j - i) (by omega) (by omega) (itr_inj g h (itr_dart g h _) i e2).symm
/-- as long as it has not come back the walk has no more sides than there are -/
theorem walk_le {w : W} {d : Nat × Nat} (g : Good w) (h : Dart w d) {k : Nat} (hk : ∀ j, 0 < j → j < k → itr w j d ≠ d) : k ≤ (darts w).length := by
  have := len_le_of_subset (m := darts w) (walk_nodup g h hk) fun e he => mem_darts.mpr (walk_dart g h e he)
  rwa [walk_len] at this
/-! what is reached from 0 -/
/-- a set of points that has 0 and is closed along ties is all of them -/
theorem closed_all {w : W} (g : Good w) {S : Nat → Prop} (h0 : S 0) (hc : ∀ p q, S p → q ∈ row w p → S q) : ∀ p, p < w.length → S p := fun p hp => by
  have : ∀ {a b}, Reach w a b → S a → S b := fun {a b} h ha => by
    induction h with
    | refl => exact ha
    | step _ hr ih => exact hc _ _ ih hr
  exact this (g.con p hp) h0
/-! the ties, sorted -/
def lexLe (a b : Nat × Nat) : Prop := a.1 < b.1 ∨ (a.1 = b.1 ∧ a.2 ≤ b.2)
theorem lex_anti {a b : Nat × Nat} (h : lexLe a b) (h' : lexLe b a) : a = b := by
  unfold lexLe at h h'
  exact Prod.ext (by omega) (by omega)
/-- of each point the greater ones in its turn, by a list that goes through the turn in some order -/
def tiesBy (rows : Nat → List Nat) (n : Nat) : List (Nat × Nat) := (List.range n).flatMap fun p => ((rows p).filter fun q => decide (p < q)).map fun q => (p, q)
theorem flat_perm {α β : Type} {f f' : α → List β} : ∀ {l : List α}, (∀ x ∈ l, (f x).Perm (f' x)) → (l.flatMap f).Perm (l.flatMap f')
  | [], _ => .refl _
  | a :: r, h => by
    rw [List.flatMap_cons, List.flatMap_cons]
    exact (h a List.mem_cons_self).append (flat_perm fun x hx => h x (List.mem_cons_of_mem _ hx))
theorem tiesBy_perm {r r' : Nat → List Nat} {n : Nat} (h : ∀ p, p < n → (r p).Perm (r' p)) : (tiesBy r n).Perm (tiesBy r' n) :=
  flat_perm fun p hp => ((h p (List.mem_range.mp hp)).filter _).map _
theorem pairwise_flat {α β : Type} {R : β → β → Prop} {f : α → List β} : ∀ {l : List α}, (∀ x ∈ l, (f x).Pairwise R) → l.Pairwise (fun a b => ∀ x ∈ f a, ∀ y ∈ f b, R x y) → (l.flatMap f).Pairwise R
  | [], _, _ => List.Pairwise.nil
  | a :: r, h, p => by
    have p' := List.pairwise_cons.mp p
    rw [List.flatMap_cons, List.pairwise_append]
    refine ⟨h a List.mem_cons_self, pairwise_flat (fun x hx => h x (List.mem_cons_of_mem _ hx)) p'.2, fun x hx y hy => ?_⟩
    obtain ⟨b, hb, hy'⟩ := List.mem_flatMap.mp hy
    exact p'.1 b hb x hx y hy'
theorem tiesBy_sorted {r : Nat → List Nat} {n : Nat} (h : ∀ p, p < n → (r p).Pairwise (· ≤ ·)) : (tiesBy r n).Pairwise lexLe := by
  unfold tiesBy
  refine pairwise_flat (fun p hp => ?_) ?_
  · rw [List.pairwise_map]
    exact ((h p (List.mem_range.mp hp)).filter _).imp fun le => .inr ⟨rfl, le⟩
  · refine List.Pairwise.imp ?_ List.pairwise_lt_range
    intro a b lt x hx y hy
    obtain ⟨_, _, rfl⟩ := List.mem_map.mp hx
    obtain ⟨_, _, rfl⟩ := List.mem_map.mp hy
    exact .inl lt
/-- sorted in any way, the ties are those of the sorted turns -/
theorem ties_eq {w : W} {sr : Nat → List Nat} {ts : List (Nat × Nat)} (hp : ∀ p, p < w.length → (sr p).Perm (row w p)) (hs : ∀ p, p < w.length → (sr p).Pairwise (· ≤ ·))
    (tp : ts.Perm (tiesBy (row w) w.length)) (tsort : ts.Pairwise lexLe) : ts = tiesBy sr w.length :=
  List.Perm.eq_of_pairwise (fun _ _ _ _ => lex_anti) tsort (tiesBy_sorted hs) (tp.trans (tiesBy_perm hp).symm)
end Wb

namespace Wb
def deg (w : W) : Nat := (w.map List.length).sum
theorem deg_set {r : List Nat} : ∀ {w : W} {p : Nat}, p < w.length → deg (w.set p r) + (row w p).length = deg w + r.length
  | [], _, h => by simp at h
  | a :: w, 0, _ => by simp [deg, row]; omega
  | a :: w, p + 1, h => by
    have ih := deg_set (r := r) (w := w) (p := p) (by simpa using h)
    have e : row (a :: w) (p + 1) = row w p := by simp [row]
    rw [e]
    simp only [deg, List.set_cons_succ, List.map_cons, List.sum_cons] at ih ⊢
    omega
theorem deg_snoc (w : W) (r : List Nat) : deg (w ++ [r]) = deg w + r.length := by simp [deg]
theorem deg_leaf {w : W} {p i : Nat} (h : p < w.length) : deg (leaf w p i) = deg w + 2 := by
  unfold leaf
  have := deg_set (r := ins (row w p) i w.length) h
  rw [ins_len] at this
  rw [deg_snoc]
  simp
  omega
theorem deg_tie {w : W} {p i u j : Nat} (hp : p < w.length) (hu : u < w.length) (ne : u ≠ p) : deg (tie w p i u j) = deg w + 2 := by
  unfold tie
  have h1 := deg_set (r := ins (row w p) i u) hp
  have h2 := deg_set (w := w.set p (ins (row w p) i u)) (r := ins (row w u) j p) (p := u) (by simpa using hu)
  rw [row_set hp, if_neg (Ne.symm ne)] at h2
  rw [ins_len] at h1 h2
  omega
theorem perm_sum {l l' : List Nat} (h : l.Perm l') : l.sum = l'.sum := by
  induction h with
  | nil => rfl
  | cons x _ ih => simp [ih]
  | swap x y l => simp; omega
  | trans _ _ ih1 ih2 => exact ih1.trans ih2
theorem deg_rows (w : W) : deg w = ((List.range w.length).map fun p => (row w p).length).sum := by
  unfold deg
  congr 1
  refine List.ext_getElem (by simp) fun i h1 h2 => ?_
  rw [List.getElem_map, List.getElem_map, List.getElem_range]
  have hi : i < w.length := by simpa using h1
  have := row_get hi
  rw [List.getElem?_eq_getElem hi] at this
  rw [Option.some.inj this]
theorem deg_ren {w w' : W} {ord : List Nat} (hl : w'.length = w.length) (pm : ord.Perm (List.range w.length)) (hrow : ∀ p, p < w.length → (row w' (ord.getD p 0)).Perm ((row w p).map fun x => ord.getD x 0)) : deg w' = deg w := by
  rw [deg_rows w', hl, deg_rows w, ← perm_sum (pm.map fun p => (row w' p).length)]
  congr 1
  have ll : ord.length = w.length := by rw [pm.length_eq, List.length_range]
  refine List.ext_getElem (by simp [ll]) fun i h1 h2 => ?_
  rw [List.getElem_map, List.getElem_map, List.getElem_range]
  have hi : i < w.length := by simpa using h2
  have e : ord.getD i 0 = ord[i]'(by rw [ll]; exact hi) := by rw [List.getD_eq_getElem?_getD, List.getElem?_eq_getElem (by rw [ll]; exact hi)]; rfl
  have := (hrow i hi).length_eq
  rw [List.length_map, e] at this
  exact this
theorem darts_deg (w : W) : (darts w).length = deg w := by
  rw [deg_rows]
  unfold darts
  rw [List.length_flatMap]
  congr 1
  apply List.map_congr_left
  intro p _
  rw [List.length_map]
theorem darts_nodup {w : W} (g : Good w) : (darts w).Nodup := by
  unfold darts List.Nodup
  refine pairwise_flat (fun p _ => ?_) ?_
  · rw [List.pairwise_map]
    exact (g.nod p).imp fun ne e => ne (congrArg Prod.snd e)
  · refine List.Pairwise.imp ?_ List.pairwise_lt_range
    intro a b lt x hx y hy e
    obtain ⟨_, _, rfl⟩ := List.mem_map.mp hx
    obtain ⟨_, _, rfl⟩ := List.mem_map.mp hy
    have := congrArg Prod.fst e
    simp at this
    omega
theorem tiesBy_filter (w : W) : tiesBy (row w) w.length = (darts w).filter fun d => decide (d.1 < d.2) := by
  unfold tiesBy darts
  rw [List.filter_flatMap]
  congr 1
  funext p
  rw [List.filter_map]
  rfl
/-- the ties are half as many as the sides -/
theorem ties_half {w : W} (g : Good w) : 2 * (tiesBy (row w) w.length).length ≤ deg w := by
  rw [tiesBy_filter, ← darts_deg]
  have h1 := List.length_eq_countP_add_countP (fun d : Nat × Nat => decide (d.1 < d.2)) (l := darts w)
  have h2 : ((darts w).filter fun d => decide (d.1 < d.2)).length ≤ ((darts w).filter fun d => decide (d.2 < d.1)).length := by
    have := len_le_of_subset (l := ((darts w).filter fun d => decide (d.1 < d.2)).map fun d => (d.2, d.1)) (m := (darts w).filter fun d => decide (d.2 < d.1)) ?_ ?_
    · rwa [List.length_map] at this
    · unfold List.Nodup
      rw [List.pairwise_map]
      refine List.Pairwise.imp ?_ ((darts_nodup g).filter _)
      intro a b ne e
      have e1 := congrArg Prod.fst e
      have e2 := congrArg Prod.snd e
      exact ne (Prod.ext e2 e1)
    · intro x hx
      obtain ⟨d, hd, rfl⟩ := List.mem_map.mp hx
      obtain ⟨hd1, hd2⟩ := List.mem_filter.mp hd
      refine List.mem_filter.mpr ⟨mem_darts.mpr (g.sym _ _ (mem_darts.mp hd1)), ?_⟩
      simpa using hd2
  have h3 : ((darts w).filter fun d => decide (d.2 < d.1)).length ≤ (darts w).countP fun d => !decide (d.1 < d.2) := by
    rw [← List.countP_eq_length_filter]
    apply List.countP_mono_left
    intro d _ h
    simp at h ⊢
    omega
  rw [List.countP_eq_length_filter] at h1
  have h4 : (darts w).countP (fun d => !decide (d.1 < d.2)) = List.countP (fun a => decide ¬(decide (a.1 < a.2) = true)) (darts w) := by
    congr 1
    funext d
    by_cases h : d.1 < d.2 <;> simp [h]
  omega
end Wb

set_option Elab.async false
set_option linter.all false
set_option maxRecDepth 100000
namespace L2
open PySem PySem.Spec PyProof.Rows
/-! ### closures -/
def clOf (env : Env) : List (Str × NameKind) → List (Str × Addr) → List (Str × Addr)
  | [], cs => cs
  | (n, k) :: r, cs => if k == NameKind.free then clOf env r ((n, (env.cells.lookup n).getD 0) :: cs) else clOf env r cs
theorem closureFor_clOf {scope : Scope} {env : Env} (h : ∀ x ∈ scope.names, x.2 = .free → ∃ c, env.cells.lookup x.1 = some c) : closureFor scope env = pure (clOf env scope.names []) := by
  simp only [closureFor]
  have go : ∀ (names : List (Str × NameKind)) (cs : List (Str × Addr)), (∀ x ∈ names, x.2 = .free → ∃ c, env.cells.lookup x.1 = some c) →
      (forIn names cs fun x __s => if (x.snd == NameKind.free) = true then (do let a ← cellOf env x.fst; pure (ForInStep.yield ((x.fst, a) :: __s))) else pure (ForInStep.yield __s)) = (pure (clOf env names cs) : Sem _) := by
    intro names
    induction names with
    | nil => intro cs _; rfl
    | cons x r ih =>
      intro cs h
      obtain ⟨n, k⟩ := x
      rw [List.forIn_cons, clOf]
      have hr := fun cs => ih cs fun y hy => h y (List.mem_cons_of_mem _ hy)
      cases hk : k == NameKind.free with
      | false =>
        simp only [hk, Bool.false_eq_true, if_false]
        exact hr cs
      | true =>
        have hk' : k = .free := by simpa using hk
        obtain ⟨c, hc⟩ := h (n, k) List.mem_cons_self hk'
        simp only at hc
        simp only [if_true, cellOf, hc]
        exact hr _
  rw [go _ _ h]
  rfl
theorem clOf_lookup {env : Env} : ∀ (names : List (Str × NameKind)) (cs : List (Str × Addr)), (∀ x ∈ names, x.2 = .free → ∃ c, env.cells.lookup x.1 = some c) → (∀ x c, cs.lookup x = some c → env.cells.lookup x = some c) →
    ∀ x c, (clOf env names cs).lookup x = some c → env.cells.lookup x = some c
  | [], cs, _, hc => hc
  | (n, k) :: r, cs, h, hc => by
    rw [clOf]
    split
    · rename_i hk
      refine clOf_lookup r _ (fun y hy => h y (List.mem_cons_of_mem _ hy)) fun x c e => ?_
      obtain ⟨c', hc'⟩ := h (n, k) List.mem_cons_self (by simpa using hk)
      rw [List.lookup_cons] at e
      split at e
      · rename_i hx
        have hx' : x = n := by simpa using hx
        subst hx'
        simp only at hc'
        rw [hc'] at e ⊢
        exact e
      · exact hc x c e
    · exact clOf_lookup r cs (fun y hy => h y (List.mem_cons_of_mem _ hy)) hc
theorem clOf_has {env : Env} : ∀ (names : List (Str × NameKind)) (cs : List (Str × Addr)) (x : Str), ((x, NameKind.free) ∈ names ∨ ∃ c, cs.lookup x = some c) → ∃ c, (clOf env names cs).lookup x = some c
  | [], cs, x, h => by
    rcases h with h | h
    · cases h
    · exact h
  | (n, k) :: r, cs, x, h => by
    rw [clOf]
    split
    · rename_i hk
      refine clOf_has r _ x ?_
      by_cases e : x = n
      · subst e; exact .inr ⟨(env.cells.lookup x).getD 0, by simp [List.lookup_cons]⟩
      · have ne : (x == n) = false := by simpa using e
        rcases h with h | ⟨c, h⟩
        · rcases List.mem_cons.mp h with z | z
          · cases z; exact absurd rfl e
          · exact .inl z
        · exact .inr ⟨c, by rw [List.lookup_cons, ne]; exact h⟩
    · rename_i hk
      refine clOf_has r cs x ?_
      rcases h with h | h
      · rcases List.mem_cons.mp h with z | z
        · cases z; exact absurd rfl hk
        · exact .inl z
      · exact .inr h

/-! ### a comprehension's names -/
def srcS (src : List (Option Nat)) (σ : St) : St := src.map fun o => o.bind fun i => (σ[i]?).bind id
def SrcOk (scope : Scope) (XN : List Str) : List (Option Nat) → List Str → Prop
  | [], [] => True
  | none :: r, _ :: n => SrcOk scope XN r n
  | some i :: r, x :: n => XN[i]? = some x ∧ scope.names.lookup x = some .free ∧ SrcOk scope XN r n
  | _, _ => False
theorem SrcOk.len {scope : Scope} {XN : List Str} : ∀ {src : List (Option Nat)} {NC : List Str}, SrcOk scope XN src NC → src.length = NC.length
  | [], [], _ => rfl
  | none :: r, _ :: n, h => by have := SrcOk.len (src := r) (NC := n) h; simp [this]
  | some i :: r, _ :: n, h => by have := SrcOk.len (src := r) (NC := n) h.2.2; simp [this]
  | [], _ :: _, h => h.elim
  | none :: _, [], h => h.elim
  | some _ :: _, [], h => h.elim
theorem SrcOk.at {scope : Scope} {XN : List Str} : ∀ {src : List (Option Nat)} {NC : List Str} {j i : Nat} {x : Str}, SrcOk scope XN src NC → src[j]? = some (some i) → NC[j]? = some x → XN[i]? = some x ∧ scope.names.lookup x = some .free
  | [], [], _, _, _, _, h, _ => by simp at h
  | none :: r, _ :: n, 0, _, _, _, h, _ => by simp at h
  | none :: r, _ :: n, j + 1, i, x, h, h1, h2 => SrcOk.at (src := r) (NC := n) (j := j) h (by simpa using h1) (by simpa using h2)
  | some k :: r, y :: n, 0, i, x, h, h1, h2 => by
    have e1 : k = i := by simpa using h1
    have e2 : y = x := by simpa using h2
    subst e1 e2
    exact ⟨h.1, h.2.1⟩
  | some k :: r, _ :: n, j + 1, i, x, h, h1, h2 => SrcOk.at (src := r) (NC := n) (j := j) h.2.2 (by simpa using h1) (by simpa using h2)
  | [], _ :: _, _, _, _, h, _, _ => h.elim
  | none :: _, [], _, _, _, h, _, _ => h.elim
  | some _ :: _, [], _, _, _, h, _, _ => h.elim
structure CompOk (X : Cx) (scope : Scope) : Prop where
  kind : scope.kind = .function
  names : ∀ x ∈ scope.names, x.2 = .local → scope.names.lookup x.1 = some .local
  nocell : ∀ x ∈ scope.names, x.2 ≠ .cell
  free : ∀ x ∈ scope.names, x.2 = .free → X.env.kindOf x.1 = some .cell ∨ X.env.kindOf x.1 = some .free
theorem relabel_lookup {env : Env} : ∀ (names : List (Str × NameKind)) (x : Str),
    (names.map fun (n, k) => if (k == NameKind.free && env.scope.kind == .function && env.kindOf n == some .cell) then (n, NameKind.cell) else (n, k)).lookup x =
      (names.lookup x).map fun k => if (k == NameKind.free && env.scope.kind == .function && env.kindOf x == some .cell) then NameKind.cell else k
  | [], _ => rfl
  | (n, k) :: r, x => by
    have ih := relabel_lookup (env := env) r x
    show List.lookup x ((if (k == NameKind.free && env.scope.kind == .function && env.kindOf n == some .cell) = true then (n, NameKind.cell) else (n, k)) :: _) = _
    cases hx : x == n with
    | true =>
      have e : x = n := by simpa using hx
      subst e
      by_cases hc : (k == NameKind.free && env.scope.kind == .function && env.kindOf x == some .cell) = true
      · rw [if_pos hc, List.lookup_cons, List.lookup_cons]
        simp only [hx]
        show some NameKind.cell = some (if _ then _ else _)
        rw [if_pos hc]
      · rw [if_neg hc, List.lookup_cons, List.lookup_cons]
        simp only [hx]
        show some k = some (if _ then _ else _)
        rw [if_neg hc]
    | false =>
      by_cases hc : (k == NameKind.free && env.scope.kind == .function && env.kindOf n == some .cell) = true
      · rw [if_pos hc]; simp only [List.lookup_cons, hx]; exact ih
      · rw [if_neg hc]; simp only [List.lookup_cons, hx]; exact ih
theorem mem_lookup {names : List (Str × NameKind)} {x : Str} {k : NameKind} (h : names.lookup x = some k) : (x, k) ∈ names := PySem.mem_of_lookup h
/-- the context of a comprehension's block: C its own names, s, H ahead of C; ex the first iterator's records -/
def cxC (X : Cx) (scope : Scope) (NC : List Str) (ex : List Addr) (s : Shared) (H : Hp) : Cx :=
  { X with N := NC, s₀ := s, H₀ := H, env := compEnvC scope (clOf X.env scope.names []) s.heap.objs.size X.env, outer := X.stack, stack := X.stack, ex := ex, fn := fun _ => false, pn := [], xe := fun _ _ => False }
section
variable {X : Cx} {pins : List (Addr × Obj)} {σ : St} {H : Hp} {s : Shared} {scope : Scope} {NC : List Str} {ex : List Addr} {src : List (Option Nat)}
theorem CompOk.cells (c : CompOk X scope) (ok : X.Ok) : ∀ x ∈ scope.names, x.2 = .free → ∃ c, X.env.cells.lookup x.1 = some c := fun x hx e => ok.has x.1 (c.free x hx e)
theorem CompOk.kindC (c : CompOk X scope) {C : Addr} {x : Str} {k : NameKind} (h : (compEnvC scope (clOf X.env scope.names []) C X.env).kindOf x = some k) (hk : k = .cell ∨ k = .free) : scope.names.lookup x = some .free := by
  have h' : (relabel scope X.env).names.lookup x = some k := h
  unfold relabel at h'
  rw [relabel_lookup] at h'
  cases e : scope.names.lookup x with
  | none => rw [e] at h'; cases h'
  | some k' =>
    have nc := c.nocell _ (mem_lookup e)
    rw [e] at h'
    have h2 : (if (k' == NameKind.free && X.env.scope.kind == .function && X.env.kindOf x == some .cell) then NameKind.cell else k') = k := Option.some.inj h'
    by_cases hf : k' = .free
    · rw [hf]
    · have hb : (k' == NameKind.free) = false := by simpa using hf
      rw [hb, Bool.false_and, Bool.false_and, if_neg Bool.false_ne_true] at h2
      rcases hk with z | z
      · rw [h2] at nc; exact absurd z nc
      · rw [h2] at hf; exact absurd z hf
theorem comp_ok (I : Inv X pins σ H s) (c : CompOk X scope) (hf : ∀ b ∈ ex, FpOk X pins H b) (hlt : ∀ b ∈ ex, b < s.heap.objs.size) : (cxC X scope NC ex s H).Ok where
  mod := I.ok.mod
  kind := c.kind
  glob := I.ok.glob
  blt := I.ok.blt
  above := Nat.le_refl _
  inj := fun x y d h1 h2 => I.ok.inj x y d (clOf_lookup _ _ (c.cells I.ok) (fun _ _ z => by cases z) x d h1) (clOf_lookup _ _ (c.cells I.ok) (fun _ _ z => by cases z) y d h2)
  has := fun x hx => clOf_has _ _ x (.inl (mem_lookup (by rcases hx with h | h <;> exact c.kindC h (by simp))))
  cab := fun _ _ z => by cases z
  hd := I.ok.hd
  frames := I.ok.frames
  stk := .inl rfl
  exf := fun b hb => ⟨Nat.ne_of_lt (hlt b hb), fun x d e => (hf b hb).2.2.2.2.1 x d (clOf_lookup _ _ (c.cells I.ok) (fun _ _ z => by cases z) x d e)⟩
  bs := I.bs
  bsz := Nat.le_trans I.ok.bsz I.sz
  noex := fun b o e hb => by
    rcases (hf b hb).2.2.2.1 with z | z
    · exact I.ok.noex b o e z
    · exact absurd (Nat.lt_of_lt_of_le (Heap.lt_size e) (Nat.le_trans I.ok.bsz z)) (Nat.lt_irrefl _)
  exfs := fun b hb z => (List.mem_cons.mp (I.stkSub b z)).elim (hf b hb).2.1 (hf b hb).2.2.1
  funs := I.stack
  frf := I.stkFree
theorem comp_inv {h1 : Heap} {tk : Nat} {ob : Obj} (I : Inv X pins σ H s) (c : CompOk X scope) (hsrc : SrcOk scope X.N src NC) (hf : ∀ b ∈ ex, FpOk X pins H b) (hlt : ∀ b ∈ ex, b < s.heap.objs.size)
    (hns : h1.Ns s.heap.objs.size (fun _ => none)) (hsb : Heap.SameBut s.heap.objs.size (s.heap.push ob) h1) :
    Inv (cxC X scope NC ex s H) [] (srcS src σ) H { s with heap := h1, toks := tk } := by
  have old : ∀ b o, s.heap.get? b = some o → h1.get? b = some o := fun b o e => hsb.extBut b o (Nat.ne_of_lt (Heap.lt_size e)) (Heap.get?_push_of_some _ e)
  have cl : ∀ x d, (clOf X.env scope.names []).lookup x = some d → X.env.cells.lookup x = some d := fun x d => clOf_lookup _ _ (c.cells I.ok) (fun _ _ z => by cases z) x d
  have cellK : ∀ d v, s.heap.IsCell d v → h1.IsCell d v := fun d v ⟨o, ho, hd⟩ => ⟨o, old d o ho, hd⟩
  refine ⟨comp_ok I c hf hlt, rfl, I.bare, Un.kept old, ⟨_, hns, fun j x v e1 e2 e3 => ?_⟩, fun x d e => ?_, I.hok.fresh (Nat.le_refl _), fun x d e => I.freeC x d (cl x d e), fun p hp => absurd (show p ∈ ([] : List (Addr × Obj)) from hp) (by simp), I.hok.kept old, ?_⟩
  · have e2' : (srcS src σ)[j]? = some (some v) := e2
    unfold srcS at e2'
    rw [List.getElem?_map] at e2'
    cases ej : src[j]? with
    | none => rw [ej] at e2'; cases e2'
    | some o =>
      rw [ej] at e2'
      cases o with
      | none => cases e2'
      | some i =>
        have e4 : (σ[i]?).bind id = some v := Option.some.inj e2'
        have e5 : σ[i]? = some (some v) := by
          cases q : σ[i]? with
          | none => rw [q] at e4; cases e4
          | some z => rw [q] at e4; exact congrArg some e4
        obtain ⟨hN, hfr⟩ := hsrc.at ej e1
        have hk := c.free _ (mem_lookup hfr) rfl
        obtain ⟨m, hn, hl⟩ := I.loc
        obtain ⟨u, r, l⟩ := hl i x v hN e5 (hk.elim (fun z => .inr (.inl z)) (fun z => .inr (.inr z)))
        refine ⟨u, r, .inr ⟨?_, ?_⟩⟩
        · show (relabel scope X.env).names.lookup x = _ ∨ (relabel scope X.env).names.lookup x = _
          unfold relabel
          rw [relabel_lookup, hfr]
          by_cases z : (NameKind.free == NameKind.free && X.env.scope.kind == .function && X.env.kindOf x == some .cell) = true
          · left; simp only [Option.map_some, z, if_true]
          · right; simp only [Option.map_some, z]; rfl
        · obtain ⟨d, hd⟩ := clOf_has (env := X.env) scope.names [] x (.inl (mem_lookup hfr))
          refine ⟨d, hd, ?_⟩
          rcases l with ⟨l, _⟩ | ⟨_, d', e, z⟩
          · exfalso; rcases hk with z | z <;> (rw [l] at z; cases z)
          · rw [cl x d hd] at e; cases e; exact cellK d _ z
  · obtain ⟨v, z⟩ := I.cell x d (cl x d e)
    exact ⟨v, cellK d v z⟩
  · show (srcS src σ).length = NC.length
    unfold srcS; rw [List.length_map]; exact hsrc.len
/-- behind the block -/
theorem comp_back {H' : Hp} {σ' : St} {s' : Shared} {h2 : Heap} {pins' : List (Addr × Obj)} (I : Inv X pins σ H s) (hf : ∀ b ∈ ex, FpOk X pins H b) (J : Inv (cxC X scope NC ex s H) pins' σ' H' s')
    (hsb : Heap.SameBut s.heap.objs.size s'.heap h2) : Inv X pins σ H' { s' with heap := h2 } := by
  have up : ∀ b o, b ≠ s.heap.objs.size → s'.heap.get? b = some o → h2.get? b = some o := fun b o hb e => hsb.extBut b o hb e
  have ne : ∀ b o, s.heap.get? b = some o → b ≠ s.heap.objs.size := fun b o e => Nat.ne_of_lt (Heap.lt_size e)
  have u := J.base
  refine I.call' (ch := ex) (show s'.os = s.os from J.os) ⟨fun b o e n hb hx => up b o (ne b o e) (u.keep b o e n hb hx), fun b o e n hb hx => ?_, u.free, fun b o e hx => ?_, u.tups, u.frzs, u.tbls⟩ ?_ J.bare fun b hb => ?_
  · obtain ⟨sl, q⟩ := u.slot b o e n hb hx
    exact ⟨sl, up b _ (ne b o e) q⟩
  · obtain ⟨o', q⟩ := u.there b o e hx
    exact ⟨o', up b o' (ne b o e) q⟩
  · intro b o e
    have nC : ∀ b o, H' b = some o → b ≠ s.heap.objs.size := fun b o e z => by
      have := J.free
      rw [z] at e
      have e' : H' s.heap.objs.size = none := this
      rw [e'] at e; cases e
    refine (J.hok b o e).stay (fun d v hd q => up d v ?_ q) (fun _ q => q) fun _ _ q => q
    rcases hd with z | z
    · rw [z]; exact nC b o e
    · exact nC d _ z
  · obtain ⟨_, f1, _, f3, f4, f5⟩ := hf b hb
    exact ⟨f3, f1, f4, f5⟩
end
/-! ### the tests of a clause -/
def PTs (X : Cx) (ifs : List Expr) (t : TT) : Prop :=
  ∀ (pins : List (Addr × Obj)) (s : Shared) (σ : St) (H : Hp) (Q : Bool → Hp → Prop), Inv X pins σ H s → t σ H Q →
    wpAny (model X.prog X.w) X.A (forIn ifs true fun c r => if r = true then do let ok ← isTrue c X.env (eval c X.env); pure (ForInStep.yield ok) else pure (ForInStep.yield r)) (TP X pins σ Q) X.xe s
def tYes : TT := fun _ H Q => Q true H
theorem pts_nil {X : Cx} : PTs X [] tYes := fun _ _ _ H _ I h => wpAny_tests_nil ⟨H, I, h⟩
theorem pts_one {X : Cx} {c : Expr} {t : TT} (h : PT X c t) : PTs X [c] t := fun pins s σ H Q I q => wpAny_tests_one (h pins s σ H Q I q)
/-! ### a list comprehension of one clause -/
def LCW (J : It) (g : TG) (tt : TT) (te : TE) (D : Addr) (Q : VK) (σ : St) (H : Hp) : Prop :=
  ∃ W : Nat → Nat → St → Hp → Prop, (∃ m, W 0 m σ H) ∧ ∀ i m σ2 H2, W i m σ2 H2 →
    (J.stop i H2 ∧ Q (.ref D) H2) ∨
    (J.go i H2 ∧ ∃ N : St → Hp → Prop, (∀ σ' H', N σ' H' → ∃ m', m' < m ∧ W (i + 1) m' σ' H') ∧ ∀ x H3, J.yld i H2 x H3 → g x σ2 H3 fun σ4 H4 => tt σ4 H4 fun b H5 =>
      if b = true then te σ4 H5 fun v H6 => ∃ ys, H6 D = some (.lst ys) ∧ ys.length < sizeLine ∧ N σ4 (upd H6 D (.lst (ys ++ [v]))) else N σ4 H5)
def tLC (wi : TI) (g : TG) (tt : TT) (te : TE) (src : List (Option Nat)) : TE := fun σ H Q => wi σ H fun J H1 => ∀ D, H1 D = none → LCW J g tt te D Q (srcS src σ) (upd H1 D (.lst []))
section
variable {X : Cx} {elt iter tg : Expr} {ifs : List Expr} {scope : Scope} {pos : Pos} {wi : TI} {g : TG} {tt : TT} {te : TE} {src : List (Option Nat)} {NC : List Str}
/-- the block: from the first iterator on -/
theorem comp_block {pins : List (Addr × Obj)} {σ : St} {s2 : Shared} {H2 : Hp} {it : Addr} {fp : List Addr} {tn : Nat → Heap → Prop} {J : It} {RR : Value → Addr → Result → Shared → Prop} {E : Value → Shared → Prop} {Q : VK}
    (hc : X.calm = true) (c : CompOk X scope) (hsrc : SrcOk scope X.N src NC) (I2 : Inv X pins σ H2 s2) (T : Turn X.prog X.w X.K tg J fp it tn) (st2 : tn 0 s2.heap) (f2 : ∀ b ∈ fp, FpOk X pins H2 b)
    (hg : ∀ s H, PG (cxC X scope NC fp s H) tg g) (ht : ∀ s H, PTs (cxC X scope NC fp s H) ifs tt) (he : ∀ s H, PE (cxC X scope NC fp s H) elt te)
    (hW : ∀ D, H2 D = none → ∃ W : Nat → Nat → St → Hp → Prop, (∃ m, W 0 m (srcS src σ) (upd H2 D (.lst []))) ∧ ∀ i m σ2 H2, W i m σ2 H2 →
      (J.stop i H2 ∧ Q (.ref D) H2) ∨
      (J.go i H2 ∧ ∃ N : St → Hp → Prop, (∀ σ' H', N σ' H' → ∃ m', m' < m ∧ W (i + 1) m' σ' H') ∧ ∀ x H3, J.yld i H2 x H3 → g x σ2 H3 fun σ4 H4 => tt σ4 H4 fun b H5 =>
        if b = true then te σ4 H5 fun v H6 => ∃ ys, H6 D = some (.lst ys) ∧ ys.length < sizeLine ∧ N σ4 (upd H6 D (.lst (ys ++ [v]))) else N σ4 H5))
    (hRR : ∀ D s3 H3 σ' H' s', Inv X pins σ H3 s3 → (∀ b ∈ fp, FpOk X pins H3 b) → Inv (cxC X scope NC fp s3 H3) [] σ' H' s' → Q (.ref D) H' → RR (.ref D) s3.heap.objs.size (.ok .next) s') :
    wpAny (model X.prog X.w) X.A (newList []) (fun acc s₃ => wpAny (model X.prog X.w) X.A (newFunctionEnv scope X.env.globals (clOf X.env scope.names []) [] X.env.qual none .none (some X.env)) (fun cenv s₄ =>
      codeAny (model X.prog X.w) X.A (.compStart (.ListComp elt [⟨tg, iter, ifs, 0⟩] scope pos) 0 (.ref it) acc { cenv with scope := relabel scope X.env }) (RR acc cenv.locals) s₄) E s₃) E s2 := by
  obtain ⟨W, ⟨m0, w0⟩, turn⟩ := hW s2.heap.objs.size I2.fresh
  have I3 : Inv X pins σ (upd H2 s2.heap.objs.size (.lst [])) { s2 with heap := s2.heap.push { cls := .type "list", data := .seq ([] : List Value).toArray } } := I2.lnew (its := []) (t' := s2.toks) .nil (Nat.zero_le _)
  have lt2 : ∀ b ∈ fp, b < s2.heap.objs.size := fun b hb => by
    obtain ⟨o, e, _⟩ := T.obj _ _ st2 b hb
    exact Heap.lt_size e
  have f3 : ∀ b ∈ fp, FpOk X pins (upd H2 s2.heap.objs.size (.lst [])) b := fun b hb => ⟨by rw [upd_ne (Nat.ne_of_lt (lt2 b hb))]; exact (f2 b hb).1, (f2 b hb).2⟩
  refine wpAny_newObj_type ?_
  suffices key : ∀ s3 : Shared, Inv X pins σ (upd H2 s2.heap.objs.size (.lst [])) s3 → (∀ b o, s2.heap.get? b = some o → s3.heap.get? b = some o) →
      wpAny (model X.prog X.w) X.A (newFunctionEnv scope X.env.globals (clOf X.env scope.names []) [] X.env.qual none .none (some X.env)) (fun cenv s₄ =>
        codeAny (model X.prog X.w) X.A (.compStart (.ListComp elt [⟨tg, iter, ifs, 0⟩] scope pos) 0 (.ref it) (.ref s2.heap.objs.size) { cenv with scope := relabel scope X.env }) (RR (.ref s2.heap.objs.size) cenv.locals) s₄) E s3 from
    key _ I3 fun b o e => Heap.get?_push_of_some _ e
  intro s3 I3 up3
  have st3 : tn 0 s3.heap := T.keep _ _ _ st2 fun b _ o e => up3 b o e
  have lt3 : ∀ b ∈ fp, b < s3.heap.objs.size := fun b hb => by
    obtain ⟨o, e, _⟩ := T.obj _ _ st3 b hb
    exact Heap.lt_size e
  generalize hH3 : upd H2 s2.heap.objs.size (.lst []) = H3 at I3 f3 w0
  refine wpAny_newFunctionEnv c.nocell (by intro y hy; simp at hy) (fun h1 hns hsb => ?_) c.kind
  have I4 := comp_inv (src := src) (NC := NC) (ex := fp) (tk := s3.toks + ([] : List (Str × Value)).length) I3 c hsrc f3 lt3 hns hsb
  have st4 : tn 0 h1 := T.keep _ _ _ st3 fun b hb o e => hsb.extBut b o (Nat.ne_of_lt (lt3 b hb)) (Heap.get?_push_of_some _ e)
  generalize hX : cxC X scope NC fp s3 H3 = XC at I4
  have stat : ∀ {H' : Hp}, (∀ b ∈ fp, H' b = none) → ∀ b ∈ fp, FpOk XC [] H' b := fun {H'} hn b hb => by
    subst hX
    refine ⟨hn b hb, Nat.ne_of_lt (lt3 b hb), fun z => ?_, .inl hb, fun x d e => ?_, fun p hp => absurd (show p ∈ ([] : List (Addr × Obj)) from hp) (by simp)⟩
    · exact (I4.ok.exfs b hb) z
    · exact (I4.ok.exf b hb).2 x d e
  have loop : codeAny (model X.prog X.w) X.A (.compLoop (.ListComp elt [⟨tg, iter, ifs, 0⟩] scope pos) 0 (.ref it) (.ref s2.heap.objs.size) XC.env) (RR (.ref s2.heap.objs.size) s3.heap.objs.size)
      { s3 with heap := h1, toks := s3.toks + ([] : List (Str × Value)).length } := by
    refine codeAny_loop rfl (fun n s' => ∃ i σ' H', Inv XC [] σ' H' s' ∧ tn i s'.heap ∧ (∀ b ∈ fp, H' b = none) ∧ W i n σ' H') (fun n s' hI => ?_) m0 ⟨0, _, _, I4, st4, fun b hb => (f3 b hb).1, w0⟩
    obtain ⟨i, σ', H', I5, st5, fr5, w5⟩ := hI
    show wpAny _ X.A ((compTurn (.ListComp elt [⟨tg, iter, ifs, 0⟩] scope pos) 0 (.ref it) (.ref s2.heap.objs.size) XC.env).onRaise (fun x => do noteFrame x XC.env; theTreesLotGoes x)) _ _ s'
    refine wpAny_noted ?_
    rw [compTurn_list]
    have nox : ∀ {α : Type} {t : Sem α} {Q : α → Shared → Prop} {E : Value → Shared → Prop} {s : Shared}, wpAny (model XC.prog XC.w) XC.A t Q XC.xe s → wpAny (model X.prog X.w) X.A t Q E s := fun {α t Q E s} h => by
      subst hX
      exact wpAny_mono h (fun _ _ q => q) fun _ _ f => f.elim
    have hcC : XC.calm = true := by subst hX; exact hc
    have eP : XC.prog = X.prog := by subst hX; rfl
    have ew : XC.w = X.w := by subst hX; rfl
    have eK : XC.K = X.K := by subst hX; rfl
    have eA : XC.A = X.A := by subst hX; rfl
    have hgC : PG XC tg g := by subst hX; exact hg _ _
    have htC : PTs XC ifs tt := by subst hX; exact ht _ _
    have heC : PE XC elt te := by subst hX; exact he _ _
    refine wpAny_bind (wpAny_standAt (wpAny_bind ?_))
    rcases turn i n σ' H' w5 with ⟨stop, qn⟩ | ⟨go, N, hN, step⟩
    · have hd := T.done XC eP ew eK hcC i [] s' σ' H' (notedBy (model X.prog X.w) X.A XC.env fun e s' => RR (.ref s2.heap.objs.size) s3.heap.objs.size (.error e) s') I5 (stat fr5) st5 stop
      rw [eA] at hd
      refine thn hd fun r s6 ⟨hr, I6⟩ => ?_
      subst hr
      refine wpAny_pure ?_
      subst hX
      exact hRR _ s3 H3 σ' H' s6 I3 f3 I6 qn
    · have hd := T.item XC eP ew eK hcC i [] s' σ' H' (notedBy (model X.prog X.w) X.A XC.env fun e s' => RR (.ref s2.heap.objs.size) s3.heap.objs.size (.error e) s') I5 (stat fr5) st5 go
      rw [eA] at hd
      refine thn hd fun r s6 ⟨u, hr, h6⟩ => ?_
      subst hr
      refine wpAny_bind (thn h6 fun _ s7 ⟨x, H7, I7, r7, y7, st7, fr7⟩ => ?_)
      have I7' := I7.pinned (stat fr7) (T.obj _ _ st7)
      have again : ∀ {σ8 : St} {H8 : Hp} {s8 : Shared}, Inv XC ([] ++ pinsAt fp s7.heap) σ8 H8 s8 → N σ8 H8 → ∃ m, m < n ∧ ∃ i σ' H', Inv XC [] σ' H' s8 ∧ tn i s8.heap ∧ (∀ b ∈ fp, H' b = none) ∧ W i m σ' H' := fun {σ8 H8 s8} I8 n8 => by
        obtain ⟨m', hm, w8⟩ := hN σ8 H8 n8
        refine ⟨m', hm, i + 1, σ8, H8, I8.unpinned, T.keep _ _ _ st7 fun b hb o e => (I8.pin (b, o) (List.mem_append_right _ (List.mem_append_right _ (mem_pinsAt hb e)))).1, fun b hb => ?_, w8⟩
        obtain ⟨o, e, d⟩ := T.obj _ _ st7 b hb
        exact (I8.pin (b, o) (List.mem_append_right _ (List.mem_append_right _ (mem_pinsAt hb e)))).2.1
      refine wpAny_bind (nox (thn (hgC _ s7 σ' H7 x u _ I7' r7 (step x H7 y7)) fun _ s8 ⟨σ8, H8, I8, q8⟩ => ?_))
      refine wpAny_bind (nox (thn (htC _ s8 σ8 H8 _ I8 q8) fun b s9 ⟨H9, I9, q9⟩ => ?_))
      cases b with
      | false =>
        rw [if_neg Bool.false_ne_true] at q9
        exact wpAny_pure ⟨by subst hX; rfl, again I9 q9⟩
      | true =>
        rw [if_pos rfl] at q9
        refine wpAny_bind (wpAny_bind (nox (thn (heC _ s9 σ8 H9 _ I9 q9) fun y s10 ⟨v, H10, I10, r10, ys, hD, hz, q10⟩ => ?_)))
        refine wpAny_bind (nox (thn (mt_append _ s10 σ8 H10 (.ref s2.heap.objs.size) [v] _ [y] (fun _ H' => N σ8 H') I10 rfl (.cons r10 .nil) ⟨_, ys, v, rfl, rfl, hD, hz, q10⟩) fun _ s11 ⟨_, H11, I11, _, q11⟩ => ?_))
        exact wpAny_pure (wpAny_pure ⟨by subst hX; rfl, again I11 q11⟩)
  subst hX
  exact codeAny_compStart_list loop (T.self _ 0 _ _ _ st4 loop)
theorem pe_lc (hc : X.calm = true) (c : CompOk X scope) (hsrc : SrcOk scope X.N src NC) (hi : PI X tg iter wi)
    (hg : ∀ ex s H, PG (cxC X scope NC ex s H) tg g) (ht : ∀ ex s H, PTs (cxC X scope NC ex s H) ifs tt) (he : ∀ ex s H, PE (cxC X scope NC ex s H) elt te)
    (hs : ∀ x, foldedSetIterable iter X.env x = pure x := by intro _; rfl) : PE X (.ListComp elt [⟨tg, iter, ifs, 0⟩] scope pos) (tLC wi g tt te src) := by
  intro pins s σ H Q I h
  rw [eval_ListComp]
  refine wpAny_comprehension_free (use := none) rfl hs (closureFor_clOf (c.cells I.ok)) c.kind c.names (thn (hi pins s σ H _ I h) fun v s1 h1 => thn h1 fun itv s2 h2 => ?_)
  obtain ⟨it, fp, tn, J, H2, rfl, I2, T, st2, f2, hW⟩ := h2
  refine comp_block (RR := fun acc C => compPost (model X.prog X.w) X.A X.xe none (EP X pins σ Q) acc C) (Q := Q) hc c hsrc I2 T st2 f2 (hg fp) (ht fp) (he fp) hW ?_
  intro D s3 H3 σ' H' s' I3 f3 J' q
  obtain ⟨m, hn, _⟩ := J'.loc
  exact ⟨m, hn, fun h' sb => ⟨.ref D, H', comp_back I3 f3 J' sb, rfl, q⟩⟩
/-- x = [..]: the store is done ahead of the block's names -/
def tAsgLC (wi : TI) (g : TG) (tt : TT) (te : TE) (src : List (Option Nat)) (i : Nat) : TS := fun D σ H => tLC wi g tt te src σ H fun v H' => D.nx (σ.set i (some v)) H'
theorem ps_setlc {i : Nat} {x : Str} {px spos : Pos} (hc : X.calm = true) (hN : X.N.Nodup) (hi' : X.N[i]? = some x) (hx : Loc X.env.scope x) (c : CompOk X scope) (hsrc : SrcOk scope X.N src NC) (hi : PI X tg iter wi)
    (hg : ∀ ex s H, PG (cxC X scope NC ex s H) tg g) (ht : ∀ ex s H, PTs (cxC X scope NC ex s H) ifs tt) (he : ∀ ex s H, PE (cxC X scope NC ex s H) elt te)
    (hsw : swapsWith (.ListComp elt [⟨tg, iter, ifs, 0⟩] scope pos) (some (.Name x px)) spos.line X.env = pure true)
    (hf : X.fn x = true ∨ X.env.scope.names.lookup x = some .local := by first | exact .inl rfl | exact .inr rfl | assumption)
    (hs : ∀ x, foldedSetIterable iter X.env x = pure x := by intro _; rfl) : PS X (.Assign [.Name x px] (.ListComp elt [⟨tg, iter, ifs, 0⟩] scope pos) spos) (tAsgLC wi g tt te src i) := by
  intro pins s σ H D I h
  rw [exec_Assign_Name_used _ _ _ _ hsw]
  refine wpAny_bind (wpAny_standAt (wpAny_bind ?_))
  show wpAny _ X.A (do let _ ← comprehension (.ListComp elt [⟨tg, iter, ifs, 0⟩] scope pos) scope X.env _ (newList []) false (eval iter X.env) (some (assign (.Name x px) X.env))) _ _ s
  refine wpAny_bind (wpAny_mono (wpAny_comprehension_free (use := some (assign (.Name x px) X.env)) (Q := fun _ s' => SP X pins D .next s') rfl hs (closureFor_clOf (c.cells I.ok)) c.kind c.names
    (thn (hi pins s σ H _ I h) fun v s1 h1 => thn h1 fun itv s2 h2 => ?_)) (fun _ s' hq => wpAny_pure (wpAny_pure hq)) fun _ _ e => e)
  obtain ⟨it, fp, tn, J, H2, rfl, I2, T, st2, f2, hW⟩ := h2
  refine comp_block (RR := fun acc C => compPost (model X.prog X.w) X.A X.xe (some (assign (.Name x px) X.env)) (fun _ s' => SP X pins D .next s') acc C) (Q := fun v H' => D.nx (σ.set i (some v)) H') hc c hsrc I2 T st2 f2 (hg fp) (ht fp) (he fp) hW ?_
  intro a s3 H3 σ' H' s' I3 f3 J' q
  obtain ⟨m, hn, _⟩ := J'.loc
  have IX : Inv X pins σ H' s' := comp_back I3 f3 J' (.refl ..)
  show wpAny _ X.A (assign (.Name x px) X.env (.ref a)) _ _ _
  have nL : s3.heap.objs.size ≠ X.env.locals := Nat.ne_of_gt I3.lt
  have nc : ∀ y d, X.env.cells.lookup y = some d → d ≠ s3.heap.objs.size := fun y d e z => by
    obtain ⟨v, hv⟩ := I3.cell y d e
    have := hv.lt
    rw [z] at this
    exact absurd this (Nat.lt_irrefl _)
  have np : ∀ p ∈ X.pn ++ pins, p.1 ≠ s3.heap.objs.size := fun p hp z => by
    have := Heap.lt_size (I3.pin p hp).1
    rw [z] at this
    exact absurd this (Nat.lt_irrefl _)
  obtain ⟨oC, es, ep, hoC, hdC, rC⟩ := id hn
  have hHC : H' s3.heap.objs.size = none := J'.free
  have IP : Inv X ((s3.heap.objs.size, oC) :: pins) σ H' s' := IX.pins_of fun p hp => by
    rcases List.mem_cons.mp hp with z | z
    · rw [z]
      exact ⟨hoC, hHC, nL, I3.nofs (Nat.le_refl _), fun v w => by rw [hdC] at w; cases w⟩
    · exact IX.pin p (List.mem_append_right _ z)
  refine wpAny_assign_Name (store_ok (x := x) IP hN hi' hx (v := .ref a) rfl (fun s5 I5 => ?_) hf)
  have hC5 := (I5.pin (s3.heap.objs.size, oC) (List.mem_append_right _ List.mem_cons_self)).1
  refine ⟨m, ⟨oC, es, ep, hC5, hdC, rC⟩, fun h6 sb => ?_⟩
  have I5' : Inv X pins (σ.set i (some (.ref a))) H' s5 := I5.pins_of fun p hp => I5.pin p (List.mem_append_right _ (List.mem_cons_of_mem _ hp))
  exact ⟨_, H', I5'.turned (t' := s5.toks) (it := s3.heap.objs.size) (fun b o hb e => sb.extBut b o hb e) hHC nL (.inr I3.sz) nc np, q⟩
end
/-! ### the forms one uses -/
/-- over what an iterator yields: the invariant speaks of the made list -/
theorem lc_by {J : It} {g : TG} {tt : TT} {te : TE} {D : Addr} {σ : St} {H : Hp} {Q : VK} (n : Nat) (Pv : Nat → St → Hp → Prop) (h0 : Pv 0 σ H)
    (hgo : ∀ i σ H, i < n → Pv i σ H → J.go i H) (hstop : ∀ i σ H, n ≤ i → Pv i σ H → J.stop i H)
    (hs : ∀ i x σ H H3, i < n → Pv i σ H → J.yld i H x H3 → g x σ H3 fun σ4 H4 => tt σ4 H4 fun b H5 =>
      if b = true then te σ4 H5 fun v H6 => ∃ ys, H6 D = some (.lst ys) ∧ ys.length < sizeLine ∧ Pv (i + 1) σ4 (upd H6 D (.lst (ys ++ [v]))) else Pv (i + 1) σ4 H5)
    (hd : ∀ σ H, Pv n σ H → Q (.ref D) H) : LCW J g tt te D Q σ H := by
  refine ⟨fun i m σ H => m = n - i ∧ i ≤ n ∧ Pv i σ H, ⟨n, by simp, Nat.zero_le _, h0⟩, ?_⟩
  rintro i m σ H ⟨rfl, hi, p⟩
  by_cases hlt : i < n
  · exact .inr ⟨hgo i σ H hlt p, Pv (i + 1), fun σ' H' p' => ⟨n - (i + 1), by omega, rfl, hlt, p'⟩, fun x H3 y => hs i x σ H H3 hlt p y⟩
  · have e : i = n := by omega
    subst e
    exact .inl ⟨hstop _ σ H (Nat.le_refl _) p, hd σ H p⟩
end L2

set_option Elab.async false
set_option linter.all false
set_option maxRecDepth 100000
namespace L2
open PySem PySem.Spec PyProof.Rows
/-! ### records that turn, and a tuple laid -/
section
variable {X : Cx} {pins : List (Addr × Obj)} {σ : St} {H : Hp} {s : Shared} {h' : Heap} {fp : List Addr}
theorem Inv.turnedL {t' : Nat} (I : Inv X pins σ H s) (hf : ∀ b ∈ fp, FpOk X pins H b) (k : ∀ b o, b ∉ fp → s.heap.get? b = some o → h'.get? b = some o) : Inv X pins σ H { s with heap := h', toks := t' } := by
  refine I.step (g' := s.gens) (d' := s.drawn) (ch := fp) (fun b hb => ?_) (fun b o _ _ hc e _ => k b o hc e) (fun b o _ _ hc e _ => ⟨o.slots, k b o hc e⟩) (fun _ _ _ _ n => n)
    (fun b o hc e => ⟨o, k b o hc e⟩) (fun _ _ e => e) (fun _ _ _ e => e) (fun b ps e => ⟨#[], by rw [e]; simp⟩) (fun m hm => ?_) (fun b u e => ?_) I.bare
  · obtain ⟨_, f1, _, f3, f4, f5⟩ := hf b hb
    exact ⟨f3, f1, f4, f5⟩
  · obtain ⟨o, es, ep, ho, r⟩ := hm
    exact ⟨o, es, ep, k _ o (fun z => (hf _ z).2.1 rfl) ho, r⟩
  · have nf : ∀ b u, H b = some u → b ∉ fp := fun b u e z => by rw [(hf b z).1] at e; cases e
    refine (I.hok b u e).stay (fun c v hc q => k c v ?_ q) (fun _ q => q) fun _ _ q => q
    rcases hc with z | z
    · rw [z]; exact nf b u e
    · exact nf c _ z
theorem Inv.turnLay {t' : Nat} {t : Addr} {o : HO} (I : Inv X pins σ H s) (hf : ∀ b ∈ fp, FpOk X pins H b) (k : ∀ b o, b ∉ fp → s.heap.get? b = some o → h'.get? b = some o) (ht : s.heap.objs.size ≤ t)
    (new : ObjOk X.prog X.w (upd H t o) h' t o) : Inv X pins σ (upd H t o) { s with heap := h', toks := t' } := by
  have nt : H t = none := I.hok.fresh ht
  have up : ∀ b u, H b = some u → upd H t o b = some u := fun b u e => by rw [upd_ne (ne_of_none e nt)]; exact e
  refine I.step (g' := s.gens) (d' := s.drawn) (ch := fp) (fun b hb => ?_) (fun b o _ _ hc e _ => k b o hc e) (fun b o _ _ hc e _ => ⟨o.slots, k b o hc e⟩) (fun b o _ e n => ?_)
    (fun b o hc e => ⟨o, k b o hc e⟩) (fun b xs e => up b _ e) (fun b _ _ e => up b _ e) (fun b ps e => ⟨#[], by rw [up b _ e]; simp⟩) (fun m hm => ?_) (fun b u e => ?_) I.bare
  · obtain ⟨_, f1, _, f3, f4, f5⟩ := hf b hb
    exact ⟨f3, f1, f4, f5⟩
  · rw [upd_ne (Nat.ne_of_lt (Nat.lt_of_lt_of_le (Heap.lt_size e) ht))]; exact n
  · obtain ⟨o, es, ep, ho, r⟩ := hm
    exact ⟨o, es, ep, k _ o (fun z => (hf _ z).2.1 rfl) ho, r⟩
  · by_cases hb : b = t
    · subst hb
      rw [upd_same] at e
      cases e
      exact new
    · rw [upd_ne hb] at e
      have nf : ∀ b u, H b = some u → b ∉ fp := fun b u e z => by rw [(hf b z).1] at e; cases e
      refine (I.hok b u e).stay (fun c v hc q => k c v ?_ q) (fun b' q => up b' _ q) fun b' _ q => up b' _ q
      rcases hc with z | z
      · rw [z]; exact nf b u e
      · exact nf c _ z
end
/-! ### enumerate of a list, unpacked -/
def Ite (K : PySem.W.Frag) (a : Addr) : It :=
  ⟨fun i H => ∃ xs x, SqL K H a xs ∧ xs[i]? = some x, fun i H y H' => ∃ t x, y = .ref t ∧ H t = none ∧ H' = upd H t (.tup [.int i, x]) ∧ ∀ xs, SqL K H a xs → xs[i]? = some x, fun i H => ∃ xs, SqL K H a xs ∧ xs.length ≤ i⟩
theorem isTup_pair {h : Heap} {t : Addr} {u v : Value} (e : h.get? t = some { cls := .type "tuple", data := .seq #[u, v] }) : IsTup h t [u, v].toArray := ⟨_, e, rfl, _, rfl⟩
theorem turn_enum {P : Program} {w : World} {K : PySem.W.Frag} {es : List Expr} {k1} {tp : Pos} (a e it : Addr) (ne : e ≠ it) :
    Turn P w K (.Tuple es k1 tp) (Ite K a) [e, it] e (fun i h => (∃ old, IsEnum h e it i old) ∧ h.IsListIter it a i) where
  mem := by simp
  obj := fun i h st b hb => by
    obtain ⟨⟨old, he⟩, o, e2, c, d⟩ := st
    rcases List.mem_cons.mp hb with z | z
    · subst z
      exact ⟨_, he, fun v w => by cases w⟩
    · have z' : b = it := by simpa using z
      subst z'
      exact ⟨o, e2, fun v z => by rw [d] at z; cases z⟩
  keep := fun i h h' st k => by
    obtain ⟨⟨old, he⟩, st2⟩ := st
    exact ⟨⟨old, k e (by simp) _ he⟩, st2.at fun o q => k it (by simp) o q⟩
  item := by
    intro X hP hw hK hc i pins s σ H E I hf st hg
    subst hP hw hK
    obtain ⟨xs, x, hq, hx⟩ := hg
    obtain ⟨its, rv, p, hz⟩ := I.list hq
    obtain ⟨u, hu, ru⟩ := rv.get hx
    obtain ⟨⟨old, he⟩, hit⟩ := st
    refine wpAny_pyNext_enum_item he hit p.isList (x := u) (by simpa using hu) ne fun h' he' hit' ht' hsz' kk => ?_
    have k2 : ∀ b o, b ∉ [e, it] → s.heap.get? b = some o → h'.get? b = some o := fun b o hb q => kk b o (fun z => hb (by simp [z])) (fun z => hb (by simp [z])) q
    have I1 : Inv X pins σ (upd H s.heap.objs.size (.tup [.int i, x])) { s with heap := h', toks := s.toks + 1 } :=
      I.turnLay hf k2 (Nat.le_refl _) ⟨by show 2 ≤ sizeLine; decide, [.int i s.toks, u], .cons ⟨_, rfl⟩ (.cons ru .nil), isTup_pair ht'⟩
    refine ⟨_, rfl, wpAny_letOwnedTupleGo_enum he' fun h2 he2 sb => ?_⟩
    have lt : ∀ b ∈ [e, it], b < s.heap.objs.size := fun b hb => by
      rcases List.mem_cons.mp hb with z | z
      · rw [z]; exact Heap.lt_size he
      · obtain ⟨o, e2, _⟩ := hit
        have z' : b = it := by simpa using z
        rw [z']; exact Heap.lt_size e2
    have hf1 : ∀ b ∈ [e, it], FpOk X pins (upd H s.heap.objs.size (.tup [.int i, x])) b := fun b hb => ⟨by rw [upd_ne (Nat.ne_of_lt (lt b hb))]; exact (hf b hb).1, (hf b hb).2⟩
    refine ⟨.ref s.heap.objs.size, _, I1.turnedL (t' := s.toks + 1) hf1 (fun b o hb q => sb.extBut b o (fun z => hb (by simp [z])) q), rfl, ⟨_, x, rfl, I.hok.fresh (Nat.le_refl _), rfl, fun ys hy => by rw [I.list_inj hy hq]; exact hx⟩, ⟨⟨u, ?_⟩, hit'.extBut sb.extBut (Ne.symm ne)⟩, fun b hb => (hf1 b hb).1⟩
    have z : ((i + 1 : Nat) : Int) = (i : Int) + 1 := by omega
    rw [z]
    exact he2
  done := by
    intro X hP hw hK hc i pins s σ H E I hf st hg
    subst hP hw hK
    obtain ⟨xs, hq, hx⟩ := hg
    obtain ⟨its, rv, p, hz⟩ := I.list hq
    have hl := rv.length
    obtain ⟨⟨old, he⟩, hit⟩ := st
    exact wpAny_pyNext_enum_end (I.ok.hd hc) he hit p.isList (by simp; omega) fun h' eb => ⟨rfl, I.turnedL (t' := s.toks) hf fun b o hb q => eb b o (fun z => hb (by simp [z])) q⟩
  self := fun _ _ _ _ _ st h => by
    obtain ⟨⟨old, he⟩, _⟩ := st
    exact wpAny_pyIter_enum he h
section
variable {X : Cx}
def iEnum (K : PySem.W.Frag) (ta : TA) : TI := fun σ H R => ta σ H fun vs H1 => ∃ a, vs = [.ref a] ∧ (∃ xs, H1 a = some (.lst xs)) ∧ R (Ite K a) H1
theorem pi_enum {a : Expr} {ta : TA} {p pos : Pos} {es : List Expr} {k1} {tp : Pos} (hg : Gl X "enumerate") (hm : X.mg "enumerate" = none) (ha : PA X [a] ta) (hs : starEach [a] X.env = [(false, eval a X.env)] := by rfl) :
    PI X (.Tuple es k1 tp) (.Call (.Name "enumerate" p) [a] [] pos) (iEnum X.K ta) := by
  intro pins s σ H R I h
  refine Call_ (ld_blt I hg hm boot_enumerate (PyProof.Rows.callWith_type1 (thn (ha pos pins s σ H _ I h) fun us s1 ⟨vs, H1, I1, r1, q1⟩ => ?_) hs rfl))
  obtain ⟨l, e, ⟨xs, hl⟩, q⟩ := q1
  subst e
  obtain ⟨u, rfl, ru⟩ := r1.one
  cases ru
  obtain ⟨z, its, n, rv, hlen, e⟩ := I1.lstM hl
  refine call_enumerate_1 e fun h' he hit hsz kk => ?_
  refine wpAny_pyIter_enum he ?_
  have hne : s1.heap.objs.size + 1 ≠ s1.heap.objs.size := Nat.succ_ne_self _
  refine ⟨s1.heap.objs.size + 1, [s1.heap.objs.size + 1, s1.heap.objs.size], _, _, H1, rfl, I1.kept (t' := s1.toks) kk, turn_enum l _ _ hne, ⟨⟨_, he⟩, hit⟩, fun b hb => ?_, q⟩
  have hb' : s1.heap.objs.size ≤ b := by
    rcases List.mem_cons.mp hb with z | z
    · rw [z]; exact Nat.le_succ _
    · have z' : b = s1.heap.objs.size := by simpa using z
      rw [z']; exact Nat.le_refl _
  exact I1.fpOk hb' (I1.hok.fresh hb')
end
end L2

set_option Elab.async false
set_option linter.all false
set_option maxRecDepth 100000
namespace L2
open PySem PySem.Spec PyProof.Rows
def Itz (a b : Addr) : It :=
  ⟨fun i H => ∃ xs ys x y, H a = some (.lst xs) ∧ H b = some (.lst ys) ∧ xs[i]? = some x ∧ ys[i]? = some y,
   fun i H v H' => ∃ t x y, v = .ref t ∧ H t = none ∧ H' = upd H t (.tup [x, y]) ∧ (∀ xs, H a = some (.lst xs) → xs[i]? = some x) ∧ ∀ ys, H b = some (.lst ys) → ys[i]? = some y,
   fun i H => ∃ xs ys, H a = some (.lst xs) ∧ H b = some (.lst ys) ∧ (xs.length ≤ i ∨ ys.length ≤ i)⟩
structure ZN (z TI TO i1 i2 : Addr) : Prop where
  TIz : TI ≠ z
  TOz : TO ≠ z
  i1z : i1 ≠ z
  i2z : i2 ≠ z
  TITO : TI ≠ TO
  TIi1 : TI ≠ i1
  TIi2 : TI ≠ i2
  TOi1 : TO ≠ i1
  TOi2 : TO ≠ i2
  i12 : i1 ≠ i2
theorem turn_zip {P : Program} {w : World} {K : PySem.W.Frag} {es : List Expr} {k1} {tp : Pos} (l1 l2 z TI TO i1 i2 : Addr) (N : ZN z TI TO i1 i2) :
    Turn P w K (.Tuple es k1 tp) (Itz l1 l2) [z, TO, i1, i2, TI] z (fun i h => IsZip h z TI TO .none ∧ IsPair h TI (.ref i1) (.ref i2) ∧ (∃ a b, IsPair h TO a b) ∧ h.IsListIter i1 l1 i ∧ h.IsListIter i2 l2 i) where
  mem := by simp
  obj := fun i h st b hb => by
    obtain ⟨hz, hTI, ⟨a, c, hTO⟩, ⟨o1, e1, _, d1⟩, ⟨o2, e2, _, d2⟩⟩ := st
    simp only [List.mem_cons, List.not_mem_nil, or_false] at hb
    rcases hb with rfl | rfl | rfl | rfl | rfl
    · exact ⟨_, hz, fun v w => by cases w⟩
    · exact ⟨_, hTO, fun v w => by cases w⟩
    · exact ⟨o1, e1, fun v z => by rw [d1] at z; cases z⟩
    · exact ⟨o2, e2, fun v z => by rw [d2] at z; cases z⟩
    · exact ⟨_, hTI, fun v w => by cases w⟩
  keep := fun i h h' st k => by
    obtain ⟨hz, hTI, ⟨a, c, hTO⟩, h1, h2⟩ := st
    exact ⟨k z (by simp) _ hz, k TI (by simp) _ hTI, ⟨a, c, k TO (by simp) _ hTO⟩, h1.at fun o q => k i1 (by simp) o q, h2.at fun o q => k i2 (by simp) o q⟩
  item := by
    intro X hP hw hK hc i pins s σ H E I hf st hg
    subst hP hw hK
    obtain ⟨xs, ys, x, y, hq1, hq2, hx, hy⟩ := hg
    obtain ⟨its1, rv1, p1, hz1⟩ := I.list (SqL.of hq1)
    obtain ⟨its2, rv2, p2, hz2⟩ := I.list (SqL.of hq2)
    obtain ⟨u1, hu1, ru1⟩ := rv1.get hx
    obtain ⟨u2, hu2, ru2⟩ := rv2.get hy
    obtain ⟨hz, hTI, ⟨a, c, hTO⟩, h1, h2⟩ := st
    have hi2 := h2
    have hyy := hy
    have nf : ∀ l u, H l = some u → ∀ b ∈ [z, TO, i1, i2, TI], l ≠ b := fun l u e b hb q => by rw [q, (hf b hb).1] at e; cases e
    have D : ZipApart z TI TO i1 i2 l1 l2 := ⟨N.TIz, N.TOz, N.i1z, N.i2z, N.TITO, N.TIi1, N.TIi2, N.TOi1, N.TOi2, N.i12, nf _ _ hq1 z (by simp), nf _ _ hq1 TO (by simp), nf _ _ hq1 i1 (by simp), nf _ _ hq1 i2 (by simp),
      nf _ _ hq2 z (by simp), nf _ _ hq2 TO (by simp), nf _ _ hq2 i1 (by simp), nf _ _ hq2 i2 (by simp)⟩
    refine wpAny_pyNext_zip_item D hz hTI hTO h1 h2 p1.isList p2.isList (x := u1) (y := u2) (by simpa using hu1) (by simpa using hu2) fun h' hz' hTO' h1' h2' ht' hsz' kk => ?_
    have k2 : ∀ b o, b ∉ [z, TO, i1, i2, TI] → s.heap.get? b = some o → h'.get? b = some o := fun b o hb q => kk b o (fun z => hb (by simp [z])) (fun z => hb (by simp [z])) (fun z => hb (by simp [z])) (fun z => hb (by simp [z])) q
    have I1 : Inv X pins σ (upd H s.heap.objs.size (.tup [x, y])) { s with heap := h', toks := s.toks } :=
      I.turnLay hf k2 (Nat.le_refl _) ⟨by show 2 ≤ sizeLine; decide, [u1, u2], .cons ru1 (.cons ru2 .nil), isTup_pair ht'⟩
    refine ⟨_, rfl, wpAny_letOwnedTupleGo_zip hz' fun h2 hz2 sb => ?_⟩
    have lt : ∀ b ∈ [z, TO, i1, i2, TI], b < s.heap.objs.size := fun b hb => by
      simp only [List.mem_cons, List.not_mem_nil, or_false] at hb
      rcases hb with rfl | rfl | rfl | rfl | rfl
      · exact Heap.lt_size hz
      · exact Heap.lt_size hTO
      · obtain ⟨o, e, _⟩ := h1; exact Heap.lt_size e
      · obtain ⟨o, e, _⟩ := hi2; exact Heap.lt_size e
      · exact Heap.lt_size hTI
    have hf1 : ∀ b ∈ [z, TO, i1, i2, TI], FpOk X pins (upd H s.heap.objs.size (.tup [x, y])) b := fun b hb => ⟨by rw [upd_ne (Nat.ne_of_lt (lt b hb))]; exact (hf b hb).1, (hf b hb).2⟩
    have hTI1 : IsPair h' TI (.ref i1) (.ref i2) := kk TI _ N.TIz N.TITO N.TIi1 N.TIi2 hTI
    refine ⟨.ref s.heap.objs.size, _, I1.turnedL (t' := s.toks) hf1 (fun b o hb q => sb.extBut b o (fun z => hb (by simp [z])) q), rfl, ⟨_, x, y, rfl, I.hok.fresh (Nat.le_refl _), rfl, fun ys hy => ?_, fun ys hy => ?_⟩,
      ⟨hz2, sb.extBut _ _ N.TIz hTI1, ⟨_, _, sb.extBut _ _ N.TOz hTO'⟩, h1'.extBut sb.extBut N.i1z, h2'.extBut sb.extBut N.i2z⟩, fun b hb => (hf1 b hb).1⟩
    · rw [hq1] at hy; cases hy; exact hx
    · rw [hq2] at hy; cases hy; exact hyy
  done := by
    intro X hP hw hK hc i pins s σ H E I hf st hg
    subst hP hw hK
    obtain ⟨xs, ys, hq1, hq2, hx⟩ := hg
    obtain ⟨its1, rv1, p1, hz1⟩ := I.list (SqL.of hq1)
    obtain ⟨its2, rv2, p2, hz2⟩ := I.list (SqL.of hq2)
    have hl1 := rv1.length
    have hl2 := rv2.length
    obtain ⟨hz, hTI, ⟨a, c, hTO⟩, h1, h2⟩ := st
    have nf : ∀ l u, H l = some u → ∀ b ∈ [z, TO, i1, i2, TI], l ≠ b := fun l u e b hb q => by rw [q, (hf b hb).1] at e; cases e
    have D : ZipApart z TI TO i1 i2 l1 l2 := ⟨N.TIz, N.TOz, N.i1z, N.i2z, N.TITO, N.TIi1, N.TIi2, N.TOi1, N.TOi2, N.i12, nf _ _ hq1 z (by simp), nf _ _ hq1 TO (by simp), nf _ _ hq1 i1 (by simp), nf _ _ hq1 i2 (by simp),
      nf _ _ hq2 z (by simp), nf _ _ hq2 TO (by simp), nf _ _ hq2 i1 (by simp), nf _ _ hq2 i2 (by simp)⟩
    refine wpAny_pyNext_zip_end (I.ok.hd hc) D hz hTI hTO h1 h2 p1.isList p2.isList ?_ fun h' kk => ⟨rfl, I.turnedL (t' := s.toks) hf fun b o hb q => kk b o (fun z => hb (by simp [z])) (fun z => hb (by simp [z])) (fun z => hb (by simp [z])) (fun z => hb (by simp [z])) q⟩
    rcases hx with hx | hx
    · left; simp; omega
    · right; simp; omega
  self := fun _ _ _ _ _ st h => wpAny_pyIter_zip st.1 h
section
variable {X : Cx}
def iZip (ta : TA) : TI := fun σ H R => ta σ H fun vs H1 => ∃ a b xs ys, vs = [.ref a, .ref b] ∧ H1 a = some (.lst xs) ∧ H1 b = some (.lst ys) ∧ R (Itz a b) H1
theorem pi_zip {a b : Expr} {ta : TA} {p pos : Pos} {es : List Expr} {k1} {tp : Pos} (hg : Gl X "zip") (hm : X.mg "zip" = none) (ha : PA X [a, b] ta) (hs : starEach [a, b] X.env = [(false, eval a X.env), (false, eval b X.env)] := by rfl) (hs2 : starEach [b] X.env = [(false, eval b X.env)] := by rfl) :
    PI X (.Tuple es k1 tp) (.Call (.Name "zip" p) [a, b] [] pos) (iZip ta) := by
  intro pins s σ H R I h
  refine Call_ (ld_blt I hg hm (show bootBuiltins "zip" = some (.type "zip") by decide +kernel) (PyProof.Rows.callWith_type1 (thn (ha pos pins s σ H _ I h) fun us s1 ⟨vs, H1, I1, r1, q1⟩ => ?_) (by rw [hs, hs2]) (by rw [hs2]; rfl)))
  obtain ⟨l1, l2, xs, ys, e, hl1, hl2, q⟩ := q1
  subst e
  obtain ⟨u1, u2, rfl, ru1, ru2⟩ := r1.two
  cases ru1
  cases ru2
  obtain ⟨its1, rv1, p1, hz1⟩ := I1.list (SqL.of hl1)
  obtain ⟨its2, rv2, p2, hz2⟩ := I1.list (SqL.of hl2)
  refine call_zip_2 p1.isList p2.isList fun h' hz hTI hTO h1 h2 hsz kk => ?_
  refine wpAny_pyIter_zip hz ?_
  refine ⟨_, _, _, _, H1, rfl, I1.kept (t' := s1.toks) kk, turn_zip l1 l2 (s1.heap.objs.size + 4) (s1.heap.objs.size + 2) (s1.heap.objs.size + 3) s1.heap.objs.size (s1.heap.objs.size + 1) ?_, ⟨hz, hTI, ⟨_, _, hTO⟩, h1, h2⟩, fun b hb => ?_, q⟩
  · generalize s1.heap.objs.size = n
    exact ⟨show n + 2 ≠ n + 4 by omega, show n + 3 ≠ n + 4 by omega, show n ≠ n + 4 by omega, show n + 1 ≠ n + 4 by omega, show n + 2 ≠ n + 3 by omega, show n + 2 ≠ n by omega, show n + 2 ≠ n + 1 by omega, show n + 3 ≠ n by omega, show n + 3 ≠ n + 1 by omega, show n ≠ n + 1 by omega⟩
  · have hb' : s1.heap.objs.size ≤ b := by
      generalize s1.heap.objs.size = n at hb
      simp only [List.mem_cons, List.not_mem_nil, or_false] at hb
      rcases hb with z | z | z | z | z <;> (rw [z]; show n ≤ _; omega)
    exact I1.fpOk hb' (I1.hok.fresh hb')
end
end L2

set_option Elab.async false
set_option linter.all false
set_option maxRecDepth 100000
namespace L2
open PySem PySem.Spec PyProof.Rows
section
variable {X : Cx}
theorem Vals.ins {x : V} {u : Value} (r : RelV x u) {xs : List V} {us : List Value} (i : Nat) (h : Vals xs us) : Vals (Wb.ins xs i x) (Wb.ins us i u) := (h.take i).append (.cons r (h.drop i))
/-- xs.insert(i, y), i in 0 .. len -/
def rInsert : V → List V → Hp → VK → Prop := fun x vs H Q => ∃ l xs i y, x = .ref l ∧ vs = [.int i, y] ∧ H l = some (.lst xs) ∧ 0 ≤ i ∧ i ≤ xs.length ∧ xs.length < sizeLine ∧ Q .non (upd H l (.lst (Wb.ins xs i.toNat y)))
theorem mt_insert : MtM X "list.insert" rInsert := by
  intro pins s σ H x vs v us Q I rx rv h
  obtain ⟨l, xs, i, y, rfl, rfl, hH, h0, h1, hz, q⟩ := h
  cases rx
  obtain ⟨u1, u2, rfl, ⟨t, rfl⟩, ru⟩ := rv.two
  obtain ⟨z, its, n, r, hl, e⟩ := I.lstM hH
  have hlt := line63
  have hfit : ¬ (!Builtin.List.listFitsIndex i) = true := by
    rw [fitsIndex_both (by omega) (by omega)]
    exact Bool.false_ne_true
  refine call_meets F.slot_list_insert ⟨_, e, rfl⟩ F.entry_list_insert (F.args_list_insert_3 _ _ _) (AutoSeq1.list_insert_list_int_val_1 l its.toArray n i t u2 hfit (by rw [List.size_toArray]; omega)) ⟨e, ?_⟩
  refine ⟨.non, _, I.lset (its' := Wb.ins its i.toNat u2) hH e ?_ (r.ins ru i.toNat) ?_, rfl, q⟩
  · have hi : ¬ i < 0 := by omega
    have hm : min i.toNat its.length = i.toNat := by omega
    simp only [hi, if_false, List.size_toArray, hm]
    apply Array.toList_inj.mp
    unfold Wb.ins
    simp
    exact List.take_of_length_le (by rw [List.length_drop]; omega)
  · rw [Wb.ins_len]; omega
/-- xs.index(y): the first place at which it stands -/
def rIndex (K : PySem.W.Frag) : V → List V → Hp → VK → Prop := fun x vs H Q => ∃ (l : Addr) (xs : List V) (y : V) (j : Nat) (z : V), x = .ref l ∧ vs = [y] ∧ H l = some (.lst xs) ∧ flatV y = true ∧ xs.all flatV = true ∧ xs[j]? = some z ∧ eqV z y = true ∧
  (∀ (m : Nat) z, m < j → xs[m]? = some z → eqV z y = false) ∧ Q (.int j) H
theorem mt_index : MtM X "list.index" (rIndex X.K) := by
  intro pins s σ H x vs v us Q I rx rv h
  obtain ⟨l, xs, y, j, z, rfl, rfl, hH, fy, fs, hz, ez, hno, q⟩ := h
  cases rx
  obtain ⟨u, rfl, ru⟩ := rv.one
  obtain ⟨hsz, its, n, r, hl, e⟩ := I.lstM hH
  obtain ⟨w, hw, rw'⟩ := r.get hz
  have hj : j < its.toArray.size := by
    obtain ⟨h1, _⟩ := List.getElem?_eq_some_iff.mp hw
    simpa using h1
  have flat : ∀ (m : Nat) z, xs[m]? = some z → flatV z = true := fun m z h => (List.all_eq_true.mp fs) z (List.mem_of_getElem? h)
  have hwj : its.toArray[j] = w := by
    obtain ⟨h1, h2⟩ := List.getElem?_eq_some_iff.mp hw
    simpa using h2
  have hlt := line63
  have hj' : j < xs.length := by
    obtain ⟨h1, _⟩ := List.getElem?_eq_some_iff.mp hz
    exact h1
  refine call_meets F.slot_list_index ⟨_, e, rfl⟩ F.entry_list_index (F.args_list_index_2 _ _) (SeqAt.list_indexAt l its.toArray n none #[] u (eqU y) j hj (by omega) ?_ ?_) ⟨e, fun w hw => mem_eqAt ru fy r fs w (by simpa using hw), ?_⟩
  · rw [hwj, eqU_of rw' (flat j z hz)]; exact ez
  · intro m hm hmj
    have hm' : m < its.length := by simpa using hm
    obtain ⟨zm, hzm⟩ : ∃ zm, xs[m]? = some zm := ⟨_, List.getElem?_eq_getElem (by omega)⟩
    obtain ⟨wm, hwm, rwm⟩ := r.get hzm
    have ewm : its.toArray[m] = wm := by
      obtain ⟨h1, h2⟩ := List.getElem?_eq_some_iff.mp hwm
      simpa using h2
    rw [ewm, eqU_of rwm (flat m zm hzm)]
    exact hno m zm hmj hzm
  · exact ⟨.int j, H, I.tok _, ⟨_, rfl⟩, q⟩
end
end L2

set_option Elab.async false
set_option linter.all false
set_option maxRecDepth 100000
namespace L2
open PySem PySem.Spec PyProof.Rows
/-! ### == and != of data at any depth -/
mutual
inductive Dp (K : PySem.W.Frag) (H : Hp) : V → PyData → Prop
  | non : Dp K H .non .none
  | bl (b : Bool) : Dp K H (.bl b) (.bool b)
  | int (i : Int) : Dp K H (.int i) (.int i)
  | str (x : Str) (h : PyData.strOk x = true) : Dp K H (.str x) (.str x)
  | lst {a : Addr} {xs : List V} {ds : List PyData} : SqL K H a xs → DpAll K H xs ds → Dp K H (.ref a) (.list ds)
  | tup {a : Addr} {xs : List V} {ds : List PyData} : SqT K H a xs → DpAll K H xs ds → Dp K H (.ref a) (.tuple ds)
inductive DpAll (K : PySem.W.Frag) (H : Hp) : List V → List PyData → Prop
  | nil : DpAll K H [] []
  | cons {v : V} {vs : List V} {d : PyData} {ds : List PyData} : Dp K H v d → DpAll K H vs ds → DpAll K H (v :: vs) (d :: ds)
end
section
variable {X : Cx} {pins : List (Addr × Obj)} {σ : St} {H : Hp} {s : Shared}
mutual
theorem Dp.reads (I : Inv X pins σ H s) : ∀ {v : V} {d : PyData} {u : Value}, Dp X.K H v d → RelV v u → (∃ as, Reads s.heap u d as) ∧ d.canLay0 = true
  | _, _, _, .non, r => by cases r; exact ⟨⟨_, .none⟩, rfl⟩
  | _, _, _, .bl b, r => by cases r; exact ⟨⟨_, .bool b⟩, rfl⟩
  | _, _, _, .int i, r => by obtain ⟨t, rfl⟩ := r; exact ⟨⟨_, .int i t⟩, rfl⟩
  | _, _, _, .str x h, r => by obtain ⟨t, rfl⟩ := r; exact ⟨⟨_, .str x t⟩, by simpa [PyData.canLay0] using h⟩
  | _, _, _, .lst h a, r => by
    cases r
    obtain ⟨its, rv, pl, hz⟩ := I.list h
    obtain ⟨⟨as, ra⟩, c⟩ := DpAll.reads I a rv
    obtain ⟨o, ho, hc, n, hd⟩ := pl.isList
    exact ⟨⟨_, .list ho hc hd (by simpa using ra)⟩, by simpa [PyData.canLay0] using c⟩
  | _, _, _, .tup h a, r => by
    cases r
    obtain ⟨its, rv, pl, hz⟩ := I.tuple h
    obtain ⟨⟨as, ra⟩, c⟩ := DpAll.reads I a rv
    obtain ⟨o, ho, hc, n, hd⟩ := pl
    exact ⟨⟨_, .tuple ho hc hd (by simpa using ra)⟩, by simpa [PyData.canLay0] using c⟩
theorem DpAll.reads (I : Inv X pins σ H s) : ∀ {vs : List V} {ds : List PyData} {us : List Value}, DpAll X.K H vs ds → Vals vs us → (∃ as, ReadsAll s.heap us ds as) ∧ PyData.canLayAll0 ds = true
  | _, _, _, .nil, .nil => ⟨⟨_, .nil⟩, by simp [PyData.canLayAll0]⟩
  | _, _, _, .cons a as, .cons r rs => by
    obtain ⟨⟨x, h1⟩, c1⟩ := Dp.reads I a r
    obtain ⟨⟨y, h2⟩, c2⟩ := DpAll.reads I as rs
    exact ⟨⟨_, .cons h1 h2⟩, by simp [PyData.canLayAll0, c1, c2]⟩
end
end
section
variable {X : Cx}
def rEqD (K : PySem.W.Frag) : R2 := fun x y H Q => ∃ d e, Dp K H x d ∧ Dp K H y e ∧ d.depth ≤ 64 ∧ Q (.bl (PyData.eqv d e)) H
def rNeD (K : PySem.W.Frag) : R2 := fun x y H Q => ∃ d e, Dp K H x d ∧ Dp K H y e ∧ d.depth ≤ 64 ∧ Q (.bl (!PyData.eqv d e)) H
theorem op_eqD (hu : X.A.units + 64 < cLine) : OpR X (compareOp .Eq) (rEqD X.K) := by
  intro pins s σ H x y v u Q I rx ry h
  obtain ⟨d, e, hd, he, hz, q⟩ := h
  obtain ⟨⟨as, r1⟩, c1⟩ := hd.reads I rx
  obtain ⟨⟨bs, r2⟩, c2⟩ := he.reads I ry
  exact SeqAt.compareEq_reads r1 r2 c1 c2 (by have := Nat.min_le_left d.depth e.depth; omega) ⟨.bl _, H, I, rfl, q⟩
theorem op_neD (hu : X.A.units + 64 < cLine) : OpR X (compareOp .NotEq) (rNeD X.K) := by
  intro pins s σ H x y v u Q I rx ry h
  obtain ⟨d, e, hd, he, hz, q⟩ := h
  obtain ⟨⟨as, r1⟩, c1⟩ := hd.reads I rx
  obtain ⟨⟨bs, r2⟩, c2⟩ := he.reads I ry
  exact SeqAt.compareNe_reads r1 r2 c1 c2 (by have := Nat.min_le_left d.depth e.depth; omega) ⟨.bl _, H, I, rfl, q⟩
end
/-! the data of this law -/
def nD (n : Nat) : PyData := .int n
def rowD (r : List Nat) : PyData := .list (r.map nD)
def tupD (d : Nat × Nat) : PyData := .tuple [.int d.1, .int d.2]
theorem eqvAll_map {α : Type} {f : α → PyData} (hf : ∀ a b, PyData.eqv (f a) (f b) = true ↔ a = b) : ∀ xs ys : List α, PyData.eqvAll (xs.map f) (ys.map f) = true ↔ xs = ys
  | [], [] => by simp [PyData.eqvAll]
  | [], _ :: _ => by simp [PyData.eqvAll]
  | _ :: _, [] => by simp [PyData.eqvAll]
  | a :: xs, b :: ys => by
    have ih := eqvAll_map hf xs ys
    simp [PyData.eqvAll, hf, ih]
theorem eqv_nD (a b : Nat) : PyData.eqv (nD a) (nD b) = true ↔ a = b := by
  simp [nD, PyData.eqv]
  omega
theorem eqv_rowD (a b : List Nat) : PyData.eqv (rowD a) (rowD b) = true ↔ a = b := by
  unfold rowD
  rw [PyData.eqv]
  exact eqvAll_map eqv_nD a b
theorem eqv_tupD (a b : Nat × Nat) : PyData.eqv (tupD a) (tupD b) = true ↔ a = b := by
  unfold tupD
  obtain ⟨a1, a2⟩ := a
  obtain ⟨b1, b2⟩ := b
  simp [PyData.eqv, PyData.eqvAll]
  omega
theorem depthAll_map {α : Type} {f : α → PyData} {k : Nat} (hf : ∀ a, (f a).depth ≤ k) : ∀ xs : List α, PyData.depthAll (xs.map f) ≤ k
  | [] => by simp [PyData.depthAll]
  | a :: xs => by
    have := hf a
    have ih := depthAll_map hf xs
    simp [PyData.depthAll]
    omega
theorem depth_rowD (a : List Nat) : (rowD a).depth ≤ 2 := by
  unfold rowD
  rw [PyData.depth]
  have := depthAll_map (f := nD) (k := 1) (fun n => by simp [nD, PyData.depth]) a
  omega
theorem depth_tupD (a : Nat × Nat) : (tupD a).depth ≤ 2 := by simp [tupD, PyData.depth, PyData.depthAll]
def webD (w : List (List Nat)) : PyData := .list (w.map rowD)
def tiesD (t : List (Nat × Nat)) : PyData := .list (t.map tupD)
theorem eqv_webD (a b : List (List Nat)) : PyData.eqv (webD a) (webD b) = true ↔ a = b := by
  unfold webD
  rw [PyData.eqv]
  exact eqvAll_map eqv_rowD a b
theorem eqv_tiesD (a b : List (Nat × Nat)) : PyData.eqv (tiesD a) (tiesD b) = true ↔ a = b := by
  unfold tiesD
  rw [PyData.eqv]
  exact eqvAll_map eqv_tupD a b
theorem depth_webD (a : List (List Nat)) : (webD a).depth ≤ 3 := by
  unfold webD
  rw [PyData.depth]
  have := depthAll_map (f := rowD) (k := 2) depth_rowD a
  omega
theorem depth_tiesD (a : List (Nat × Nat)) : (tiesD a).depth ≤ 3 := by
  unfold tiesD
  rw [PyData.depth]
  have := depthAll_map (f := tupD) (k := 2) depth_tupD a
  omega
end L2

set_option Elab.async false
set_option linter.all false
set_option maxRecDepth 100000
namespace L2
open PySem PySem.Spec PyProof.Rows
theorem Vals.of_get : ∀ {xs : List V} {us : List Value}, xs.length = us.length → (∀ (k : Nat) x u, xs[k]? = some x → us[k]? = some u → RelV x u) → Vals xs us
  | [], [], _, _ => .nil
  | [], _ :: _, h, _ => by simp at h
  | _ :: _, [], h, _ => by simp at h
  | x :: xs, u :: us, h, r => .cons (r 0 x u rfl rfl) (Vals.of_get (by simpa using h) fun k y w h1 h2 => r (k + 1) y w (by simpa using h1) (by simpa using h2))
section
variable {X : Cx}
/-- all(xs), a list of bools -/
theorem call_all (hc : X.calm = true) : CallR X (.builtin "all") (fun xs H Q => ∃ (p : Addr) (bs : List Bool), xs = [.ref p] ∧ H p = some (.lst (bs.map V.bl)) ∧ Q (.bl (bs.all id)) H) := by
  intro pins s σ H xs us Q I rv h
  obtain ⟨p, bs, rfl, hp, q⟩ := h
  obtain ⟨u, rfl, ru⟩ := rv.one
  cases ru
  obtain ⟨its, r, pl, hz⟩ := I.list (SqL.of hp)
  have hl := r.length
  rw [List.length_map] at hl
  refine call_all_walk (wpAny_pyIter_list pl.isList ?_)
  have hne : p ≠ s.heap.objs.size := by
    obtain ⟨o, ho, _⟩ := pl.isList
    exact Nat.ne_of_lt (Heap.lt_size ho)
  have itv : ∀ i : Nat, i < its.length → ∃ b, bs[i]? = some b ∧ its[i]? = some (.bool b) := fun i hi => by
    obtain ⟨b, hb⟩ : ∃ b, bs[i]? = some b := ⟨_, List.getElem?_eq_getElem (by omega)⟩
    obtain ⟨w, hw, rw'⟩ := r.get (i := i) (x := .bl b) (by rw [List.getElem?_map, hb]; rfl)
    cases rw'
    exact ⟨b, hb, hw⟩
  refine ⟨_, _, _, its.toArray.size, _, _, fun i => bs.getD i false, rfl, Walks.list (show X.A.in1.handled = none from I.ok.hd hc) s.heap.objs.size p hne its.toArray, ⟨⟨_, Heap.get?_push_size _ rfl, rfl, rfl⟩, pl.isList.push _⟩, ?_, fun h' tk kk => ?_⟩
  · intro i v s Q E hv hq
    have hv' : its[i]? = some v := by simpa using hv
    have hi : i < its.length := by
      obtain ⟨h1, _⟩ := List.getElem?_eq_some_iff.mp hv'
      exact h1
    obtain ⟨b, hb, hw⟩ := itv i hi
    rw [hw] at hv'
    cases hv'
    refine wpAny_truthy_bool ?_
    have hq' : Q (bs.getD i false) s := hq
    rw [List.getD_eq_getElem?_getD, hb] at hq'
    exact hq'
  · have kept : ∀ b o, s.heap.get? b = some o → h'.get? b = some o := fun b o e => kk b o (by simp; exact Nat.ne_of_lt (Heap.lt_size e)) (Heap.get?_push_of_some _ e)
    have e : (List.range its.toArray.size).all (fun i => bs.getD i false) = bs.all id := by
      rw [List.size_toArray, ← hl]
      rw [Bool.eq_iff_iff, List.all_eq_true, List.all_eq_true]
      constructor
      · intro h x hx
        obtain ⟨i, hi, rfl⟩ := List.mem_iff_getElem.mp hx
        have := h i (List.mem_range.mpr hi)
        rw [List.getD_eq_getElem?_getD, List.getElem?_eq_getElem hi] at this
        exact this
      · intro h i hi
        have hi' := List.mem_range.mp hi
        rw [List.getD_eq_getElem?_getD, List.getElem?_eq_getElem hi']
        exact h _ (List.getElem_mem hi')
    rw [e]
    exact ⟨.bl _, H, I.kept kept, rfl, q⟩
/-- isinstance(x, int) and the like -/
theorem call_isinst : CallR X (.builtin "isinstance") (fun xs H Q => ∃ (x : V) (n : String) (t : Value) (b : Bool), xs = [x, .ty n] ∧ TyOf X.K H x t ∧ PySem.W.kitOne X.K t (.type n) = some b ∧ Q (.bl b) H) := by
  intro pins s σ H xs us Q I rv h
  obtain ⟨x, n, t, b, rfl, ty, e, q⟩ := h
  obtain ⟨u1, u2, rfl, r1, r2⟩ := rv.two
  cases r2
  exact isinst_ok I r1 ty e fun tk => ⟨.bl b, H, I.tok _, rfl, q⟩
/-- sorted(xs), at most 63 ints -/
theorem call_sortedI : CallR X (.builtin "sorted") (fun xs H Q => ∃ (p : Addr) (ns : List Int), xs = [.ref p] ∧ SqL X.K H p (ns.map V.int) ∧ ns.length < 64 ∧ ∀ (q : Addr) (ms : List Int), H q = none → ms.Perm ns → ms.Pairwise (· ≤ ·) → Q (.ref q) (upd H q (.lst (ms.map V.int)))) := by
  intro pins s σ H xs us Q I rv h
  obtain ⟨p, ns, rfl, hp, hz, q⟩ := h
  obtain ⟨u, rfl, ru⟩ := rv.one
  cases ru
  obtain ⟨its, r, pl, _⟩ := I.list hp
  have hl := r.length
  rw [List.length_map] at hl
  refine sorted_ints pl.isList (intsAre_of r) (by omega) fun out ms hI hperm hs => ?_
  obtain ⟨e, he⟩ := sortedAll_at s.heap its out
  have fr : H (s.heap.objs.size + 1) = none := I.hok.fresh (Nat.le_succ _)
  have hml := hperm.length_eq
  have hline : 64 ≤ sizeLine := by decide
  refine ⟨.ref (s.heap.objs.size + 1), _, I.laid (t' := s.toks) (fun b o hb => sortedAll_old hb) (Nat.le_succ _) (o := .lst (ms.map V.int)) ⟨by rw [List.length_map]; omega, out.toList, e, vals_ints hI, by simpa using he⟩, rfl, q _ ms fr hperm hs⟩
/-- range(a, b), an object -/
theorem call_rng2 : CallR X (.type "range") (fun xs H Q => ∃ i j : Int, xs = [.int i, .int j] ∧ ∀ q, H q = none → Q (.ref q) (upd H q (.rng i j))) := by
  intro pins s σ H xs us Q I rv h
  obtain ⟨i, j, rfl, q⟩ := h
  obtain ⟨u1, u2, rfl, ⟨t1, rfl⟩, ⟨t2, rfl⟩⟩ := rv.two
  refine call_range_2 ?_
  exact ⟨.ref s.heap.objs.size, _, I.laid (fun b o hb => Heap.get?_push_of_some _ hb) (Nat.le_refl _) (o := .rng i j) ⟨_, _, _, Heap.get?_push_size _ rfl⟩, rfl, q _ (I.hok.fresh (Nat.le_refl _))⟩
/-- list(range(a, b)) -/
def rangeV (i : Int) (n : Nat) : List V := (List.range n).map fun (k : Nat) => V.int (i + (k : Int))
theorem call_list_rng (hc : X.calm = true) : CallR X (.type "list") (fun xs H Q => ∃ (p : Addr) (i j : Int), xs = [.ref p] ∧ H p = some (.rng i j) ∧ -(2 ^ 62) ≤ i ∧ i < 2 ^ 62 ∧ -(2 ^ 62) ≤ j ∧ j < 2 ^ 62 ∧ (j - i).toNat ≤ 1000 ∧
    ∀ q, H q = none → Q (.ref q) (upd H q (.lst (rangeV i (j - i).toNat)))) := by
  intro pins s σ H xs us Q I rv h
  obtain ⟨p, i, j, rfl, hp, h1, h2, h3, h4, hz, q⟩ := h
  obtain ⟨u, rfl, ru⟩ := rv.one
  cases ru
  obtain ⟨t, u, v, e⟩ := (show ObjOk X.prog X.w H s.heap p (.rng i j) from I.hok p _ hp)
  refine call_list_range (n := (j - i).toNat) (I.ok.hd hc) e (small_one h1 h2 h3 h4) ?_ (by omega) fun h' tk acc c kk hS hacc => ?_
  · rw [rangeSize_one]; split <;> omega
  · have hline : 1000 ≤ sizeLine := by decide
    refine ⟨.ref s.heap.objs.size, _, I.laid kk (Nat.le_refl _) (o := .lst (rangeV i (j - i).toNat)) ⟨by unfold rangeV; simp; omega, acc.toList, c, ?_, by simpa using hS⟩, rfl, q _ (I.hok.fresh (Nat.le_refl _))⟩
    refine Vals.of_get (by unfold rangeV; simp [hacc.1]) fun k x w hx hw => ?_
    unfold rangeV at hx
    rw [List.getElem?_map] at hx
    obtain ⟨t', ht'⟩ := hacc.2 k w (by rw [← Array.getElem?_toList]; exact hw)
    have hk : (List.range (j - i).toNat)[k]? = some k := by
      cases q : (List.range (j - i).toNat)[k]? with
      | none => rw [q] at hx; cases hx
      | some z =>
        obtain ⟨a, b⟩ := List.getElem?_eq_some_iff.mp q
        rw [List.getElem_range] at b
        rw [b]
    rw [hk] at hx
    cases hx
    exact ⟨t', by rw [ht', Int.mul_one]⟩
end
end L2

set_option Elab.async false
set_option linter.all false
set_option maxRecDepth 100000
namespace L2
open PySem PySem.Spec PyProof.Rows
theorem compTurn_two0 (elt t0 i0 t1 i1 : Expr) (f0 f1 : List Expr) (scope : Scope) (pos : Pos) (it acc : Value) (env : Env) :
    compTurn (.ListComp elt [⟨t0, i0, f0, 0⟩, ⟨t1, i1, f1, 0⟩] scope pos) 0 it acc env = (do
      standAt i0.pos
      match ← pyNext it with
      | none => pure (.done .next)
      | some v =>
        letOwnedTupleGo t0 it v
        assign t0 env v
        let ok ← forIn f0 true fun c r => if r = true then do let ok ← isTrue c env (eval c env); pure (ForInStep.yield ok) else pure (ForInStep.yield r)
        if ok = true then
          let x ← eval i1 env
          standAt i1.pos
          let x ← foldedSetIterable i1 env x
          let it1 ← holding [x] (pyIter x)
          let _ ← runOwn (.compStart (.ListComp elt [⟨t0, i0, f0, 0⟩, ⟨t1, i1, f1, 0⟩] scope pos) 1 it1 acc env) env
          again (.compLoop (.ListComp elt [⟨t0, i0, f0, 0⟩, ⟨t1, i1, f1, 0⟩] scope pos) 0 it acc env)
        else again (.compLoop (.ListComp elt [⟨t0, i0, f0, 0⟩, ⟨t1, i1, f1, 0⟩] scope pos) 0 it acc env)) := by rfl
theorem compTurn_two1 (elt t0 i0 t1 i1 : Expr) (f0 f1 : List Expr) (scope : Scope) (pos : Pos) (it acc : Value) (env : Env) :
    compTurn (.ListComp elt [⟨t0, i0, f0, 0⟩, ⟨t1, i1, f1, 0⟩] scope pos) 1 it acc env = (do
      standAt i1.pos
      match ← pyNext it with
      | none => pure (.done .next)
      | some v =>
        letOwnedTupleGo t1 it v
        assign t1 env v
        let ok ← forIn f1 true fun c r => if r = true then do let ok ← isTrue c env (eval c env); pure (ForInStep.yield ok) else pure (ForInStep.yield r)
        if ok = true then
          (do let _ ← call (.builtin "list.append") [acc, ← eval elt env])
          again (.compLoop (.ListComp elt [⟨t0, i0, f0, 0⟩, ⟨t1, i1, f1, 0⟩] scope pos) 1 it acc env)
        else again (.compLoop (.ListComp elt [⟨t0, i0, f0, 0⟩, ⟨t1, i1, f1, 0⟩] scope pos) 1 it acc env)) := by rfl

section
variable {X XC : Cx} {elt i0 t0 i1 t1 : Expr} {f0 f1 : List Expr} {scope : Scope} {pos : Pos} {wi wi1 : TI} {g g1 : TG} {tt tt1 : TT} {te : TE} {src : List (Option Nat)} {NC : List Str}
theorem compStart_two1 {it acc : Value} {env : Env} {R : Result → Shared → Prop} {s : Shared} {A : Around}
    (h0 : codeAny (model X.prog X.w) A (.compLoop (.ListComp elt [⟨t0, i0, f0, 0⟩, ⟨t1, i1, f1, 0⟩] scope pos) 1 it acc env) R s)
    (hp : ∀ (Q : Value → Shared → Prop) (E : Value → Shared → Prop), Q it s → wpAny (model X.prog X.w) A (pyIter it) Q E s) :
    codeAny (model X.prog X.w) A (.compStart (.ListComp elt [⟨t0, i0, f0, 0⟩, ⟨t1, i1, f1, 0⟩] scope pos) 1 it acc env) R s := by
  refine codeAny_of_tree ?_
  show wpAny _ _ ((compStart (.ListComp elt [⟨t0, i0, f0, 0⟩, ⟨t1, i1, f1, 0⟩] scope pos) 1 it acc env).onRaise (fun x => do noteFrame x env; standAt theWindowsPlace)) _ _ s
  refine wpAny_notedAt ?_
  unfold compStart
  show wpAny _ _ (ask >>= _) _ _ s
  refine wpAny_bind (wpAny_askSetting (wpAny_ite ?_))
  split
  · first
      | exact wpAny_bind (wpAny_pure (wpAny_pure ⟨rfl, h0⟩))
      | exact wpAny_pure ⟨rfl, h0⟩
  · refine wpAny_bind (wpAny_rule ?_)
    show wpAny _ _ (standAt i1.pos >>= _) _ _ s
    exact wpAny_bind (wpAny_standAt (wpAny_bind (hp _ _ (wpAny_pure ⟨rfl, h0⟩))))
/-- the inner loop, in a context out of which no exception comes -/
theorem comp_inner {pins : List (Addr × Obj)} {s : Shared} {σ : St} {H : Hp} {it D : Addr} {fp : List Addr} {tn : Nat → Heap → Prop} {J : It} {R : Result → Shared → Prop} {N : St → Hp → Prop}
    (hxe : XC.xe = fun _ _ => False) (hc : XC.calm = true) (I : Inv XC pins σ H s) (T : Turn XC.prog XC.w XC.K t1 J fp it tn) (st : tn 0 s.heap) (f2 : ∀ b ∈ fp, FpOk XC pins H b)
    (hg : PG XC t1 g1) (ht : PTs XC f1 tt1) (he : PE XC elt te)
    (hW : ∃ W : Nat → Nat → St → Hp → Prop, (∃ m, W 0 m σ H) ∧ ∀ i m σ2 H2, W i m σ2 H2 → (J.stop i H2 ∧ N σ2 H2) ∨
      (J.go i H2 ∧ ∃ N1 : St → Hp → Prop, (∀ σ' H', N1 σ' H' → ∃ m', m' < m ∧ W (i + 1) m' σ' H') ∧ ∀ x H3, J.yld i H2 x H3 → g1 x σ2 H3 fun σ4 H4 => tt1 σ4 H4 fun b H5 =>
        if b = true then te σ4 H5 fun v H6 => ∃ ys, H6 D = some (.lst ys) ∧ ys.length < sizeLine ∧ N1 σ4 (upd H6 D (.lst (ys ++ [v]))) else N1 σ4 H5))
    (hR : ∀ σ' H' s', Inv XC pins σ' H' s' → N σ' H' → R (.ok .next) s') :
    codeAny (model XC.prog XC.w) XC.A (.compStart (.ListComp elt [⟨t0, i0, f0, 0⟩, ⟨t1, i1, f1, 0⟩] scope pos) 1 (.ref it) (.ref D) XC.env) R s := by
  obtain ⟨W, ⟨m0, w0⟩, turn⟩ := hW
  have nox : ∀ {α : Type} {t : Sem α} {Q : α → Shared → Prop} {E : Value → Shared → Prop} {s : Shared}, wpAny (model XC.prog XC.w) XC.A t Q XC.xe s → wpAny (model XC.prog XC.w) XC.A t Q E s := fun {α t Q E s} h =>
    wpAny_mono h (fun _ _ q => q) fun _ _ f => by rw [hxe] at f; exact f.elim
  have stat : ∀ {H' : Hp}, (∀ b ∈ fp, H' b = none) → ∀ b ∈ fp, FpOk XC pins H' b := fun hn b hb => ⟨hn b hb, (f2 b hb).2⟩
  have loop : codeAny (model XC.prog XC.w) XC.A (.compLoop (.ListComp elt [⟨t0, i0, f0, 0⟩, ⟨t1, i1, f1, 0⟩] scope pos) 1 (.ref it) (.ref D) XC.env) R s := by
    refine codeAny_loop rfl (fun n s' => ∃ i σ' H', Inv XC pins σ' H' s' ∧ tn i s'.heap ∧ (∀ b ∈ fp, H' b = none) ∧ W i n σ' H') (fun n s' hI => ?_) m0 ⟨0, σ, H, I, st, fun b hb => (f2 b hb).1, w0⟩
    obtain ⟨i, σ', H', I5, st5, fr5, w5⟩ := hI
    show wpAny _ XC.A ((compTurn (.ListComp elt [⟨t0, i0, f0, 0⟩, ⟨t1, i1, f1, 0⟩] scope pos) 1 (.ref it) (.ref D) XC.env).onRaise (fun x => do noteFrame x XC.env; theTreesLotGoes x)) _ _ s'
    refine wpAny_noted ?_
    rw [compTurn_two1]
    refine wpAny_bind (wpAny_standAt (wpAny_bind ?_))
    rcases turn i n σ' H' w5 with ⟨stop, qn⟩ | ⟨go, N1, hN, step⟩
    · refine thn (T.done XC rfl rfl rfl hc i pins s' σ' H' _ I5 (stat fr5) st5 stop) fun r s6 ⟨hr, I6⟩ => ?_
      subst hr
      exact wpAny_pure (hR σ' H' s6 I6 qn)
    · refine thn (T.item XC rfl rfl rfl hc i pins s' σ' H' _ I5 (stat fr5) st5 go) fun r s6 ⟨u, hr, h6⟩ => ?_
      subst hr
      refine wpAny_bind (thn h6 fun _ s7 ⟨x, H7, I7, r7, y7, st7, fr7⟩ => ?_)
      have I7' := I7.pinned (stat fr7) (T.obj _ _ st7)
      have nextT : ∀ {σ8 : St} {H8 : Hp} {s8 : Shared}, Inv XC (pins ++ pinsAt fp s7.heap) σ8 H8 s8 → N1 σ8 H8 → ∃ m, m < n ∧ ∃ i σ' H', Inv XC pins σ' H' s8 ∧ tn i s8.heap ∧ (∀ b ∈ fp, H' b = none) ∧ W i m σ' H' := fun {σ8 H8 s8} I8 n8 => by
        obtain ⟨m', hm, w8⟩ := hN σ8 H8 n8
        refine ⟨m', hm, i + 1, σ8, H8, I8.unpinned, T.keep _ _ _ st7 fun b hb o e => (I8.pin (b, o) (List.mem_append_right _ (List.mem_append_right _ (mem_pinsAt hb e)))).1, fun b hb => ?_, w8⟩
        obtain ⟨o, e, d⟩ := T.obj _ _ st7 b hb
        exact (I8.pin (b, o) (List.mem_append_right _ (List.mem_append_right _ (mem_pinsAt hb e)))).2.1
      refine wpAny_bind (nox (thn (hg _ s7 σ' H7 x u _ I7' r7 (step x H7 y7)) fun _ s8 ⟨σ8, H8, I8, q8⟩ => ?_))
      refine wpAny_bind (nox (thn (ht _ s8 σ8 H8 _ I8 q8) fun b s9 ⟨H9, I9, q9⟩ => ?_))
      cases b with
      | false =>
        rw [if_neg Bool.false_ne_true] at q9
        exact wpAny_pure ⟨rfl, nextT I9 q9⟩
      | true =>
        rw [if_pos rfl] at q9
        refine wpAny_bind (wpAny_bind (nox (thn (he _ s9 σ8 H9 _ I9 q9) fun y s10 ⟨v, H10, I10, r10, ys, hD, hz, q10⟩ => ?_)))
        refine wpAny_bind (nox (thn (mt_append _ s10 σ8 H10 (.ref D) [v] _ [y] (fun _ H' => N1 σ8 H') I10 rfl (.cons r10 .nil) ⟨_, ys, v, rfl, rfl, hD, hz, q10⟩) fun _ s11 ⟨_, H11, I11, _, q11⟩ => ?_))
        exact wpAny_pure (wpAny_pure ⟨rfl, nextT I11 q11⟩)
  exact compStart_two1 (X := XC) loop fun Q E q => T.self _ 0 _ _ _ st q
/-! ### a list comprehension of two clauses -/
def tIn (g1 : TG) (tt1 : TT) (te : TE) (D : Addr) (J : It) (N : St → Hp → Prop) : St → Hp → Prop := fun σ H =>
  ∃ W : Nat → Nat → St → Hp → Prop, (∃ m, W 0 m σ H) ∧ ∀ i m σ2 H2, W i m σ2 H2 → (J.stop i H2 ∧ N σ2 H2) ∨
    (J.go i H2 ∧ ∃ N1 : St → Hp → Prop, (∀ σ' H', N1 σ' H' → ∃ m', m' < m ∧ W (i + 1) m' σ' H') ∧ ∀ x H3, J.yld i H2 x H3 → g1 x σ2 H3 fun σ4 H4 => tt1 σ4 H4 fun b H5 =>
      if b = true then te σ4 H5 fun v H6 => ∃ ys, H6 D = some (.lst ys) ∧ ys.length < sizeLine ∧ N1 σ4 (upd H6 D (.lst (ys ++ [v]))) else N1 σ4 H5)
def tOut (g : TG) (tt : TT) (wi1 : TI) (g1 : TG) (tt1 : TT) (te : TE) (D : Addr) (J : It) (Q : VK) (σ : St) (H : Hp) : Prop :=
  ∃ W : Nat → Nat → St → Hp → Prop, (∃ m, W 0 m σ H) ∧ ∀ i m σ2 H2, W i m σ2 H2 →
    (J.stop i H2 ∧ Q (.ref D) H2) ∨
    (J.go i H2 ∧ ∃ N : St → Hp → Prop, (∀ σ' H', N σ' H' → ∃ m', m' < m ∧ W (i + 1) m' σ' H') ∧ ∀ x H3, J.yld i H2 x H3 → g x σ2 H3 fun σ4 H4 => tt σ4 H4 fun b H5 =>
      if b = true then wi1 σ4 H5 fun J1 H6 => tIn g1 tt1 te D J1 N σ4 H6 else N σ4 H5)
def tLC2 (wi : TI) (g : TG) (tt : TT) (wi1 : TI) (g1 : TG) (tt1 : TT) (te : TE) (src : List (Option Nat)) : TE := fun σ H Q => wi σ H fun J H1 => ∀ D, H1 D = none → tOut g tt wi1 g1 tt1 te D J Q (srcS src σ) (upd H1 D (.lst []))
theorem pe_lc2 (hc : X.calm = true) (c : CompOk X scope) (hsrc : SrcOk scope X.N src NC) (hi : PI X t0 i0 wi)
    (hg : ∀ ex s H, PG (cxC X scope NC ex s H) t0 g) (ht : ∀ ex s H, PTs (cxC X scope NC ex s H) f0 tt) (hi1 : ∀ ex s H, PI (cxC X scope NC ex s H) t1 i1 wi1) (hg1 : ∀ ex s H, PG (cxC X scope NC ex s H) t1 g1)
    (ht1 : ∀ ex s H, PTs (cxC X scope NC ex s H) f1 tt1) (he : ∀ ex s H, PE (cxC X scope NC ex s H) elt te)
    (hs : ∀ x, foldedSetIterable i0 X.env x = pure x := by intro _; rfl) (hs1 : ∀ env x, foldedSetIterable i1 env x = pure x := by intro _ _; rfl) :
    PE X (.ListComp elt [⟨t0, i0, f0, 0⟩, ⟨t1, i1, f1, 0⟩] scope pos) (tLC2 wi g tt wi1 g1 tt1 te src) := by
  intro pins s σ H Q I h
  rw [eval_ListComp]
  refine wpAny_comprehension_free (use := none) rfl hs (closureFor_clOf (c.cells I.ok)) c.kind c.names (thn (hi pins s σ H _ I h) fun v s1 h1 => thn h1 fun itv s2 h2 => ?_)
  obtain ⟨it, fp, tn, J, H2, rfl, I2, T, st2, f2, hW⟩ := h2
  obtain ⟨W, ⟨m0, w0⟩, turn⟩ := hW s2.heap.objs.size I2.fresh
  have I3 : Inv X pins σ (upd H2 s2.heap.objs.size (.lst [])) { s2 with heap := s2.heap.push { cls := .type "list", data := .seq ([] : List Value).toArray } } := I2.lnew (its := []) (t' := s2.toks) .nil (Nat.zero_le _)
  have lt2 : ∀ b ∈ fp, b < s2.heap.objs.size := fun b hb => by
    obtain ⟨o, e, _⟩ := T.obj _ _ st2 b hb
    exact Heap.lt_size e
  have f3 : ∀ b ∈ fp, FpOk X pins (upd H2 s2.heap.objs.size (.lst [])) b := fun b hb => ⟨by rw [upd_ne (Nat.ne_of_lt (lt2 b hb))]; exact (f2 b hb).1, (f2 b hb).2⟩
  refine wpAny_newObj_type ?_
  suffices key : ∀ s3 : Shared, Inv X pins σ (upd H2 s2.heap.objs.size (.lst [])) s3 → (∀ b o, s2.heap.get? b = some o → s3.heap.get? b = some o) →
      wpAny (model X.prog X.w) X.A (newFunctionEnv scope X.env.globals (clOf X.env scope.names []) [] X.env.qual none .none (some X.env)) (fun cenv s₄ =>
        codeAny (model X.prog X.w) X.A (.compStart (.ListComp elt [⟨t0, i0, f0, 0⟩, ⟨t1, i1, f1, 0⟩] scope pos) 0 (.ref it) (.ref s2.heap.objs.size) { cenv with scope := relabel scope X.env }) (compPost (model X.prog X.w) X.A X.xe none (EP X pins σ Q) (.ref s2.heap.objs.size) cenv.locals) s₄) X.xe s3 from
    key _ I3 fun b o e => Heap.get?_push_of_some _ e
  intro s3 I3 up3
  have st3 : tn 0 s3.heap := T.keep _ _ _ st2 fun b _ o e => up3 b o e
  have lt3 : ∀ b ∈ fp, b < s3.heap.objs.size := fun b hb => by
    obtain ⟨o, e, _⟩ := T.obj _ _ st3 b hb
    exact Heap.lt_size e
  generalize hH3 : upd H2 s2.heap.objs.size (.lst []) = H3 at I3 f3 w0
  refine wpAny_newFunctionEnv c.nocell (by intro y hy; simp at hy) (fun h1 hns hsb => ?_) c.kind
  have I4 := comp_inv (src := src) (NC := NC) (ex := fp) (tk := s3.toks + ([] : List (Str × Value)).length) I3 c hsrc f3 lt3 hns hsb
  have st4 : tn 0 h1 := T.keep _ _ _ st3 fun b hb o e => hsb.extBut b o (Nat.ne_of_lt (lt3 b hb)) (Heap.get?_push_of_some _ e)
  generalize hX : cxC X scope NC fp s3 H3 = XC at I4
  have stat : ∀ {H' : Hp}, (∀ b ∈ fp, H' b = none) → ∀ b ∈ fp, FpOk XC [] H' b := fun {H'} hn b hb => by
    subst hX
    refine ⟨hn b hb, Nat.ne_of_lt (lt3 b hb), fun z => ?_, .inl hb, fun x d e => ?_, fun p hp => absurd (show p ∈ ([] : List (Addr × Obj)) from hp) (by simp)⟩
    · exact (I4.ok.exfs b hb) z
    · exact (I4.ok.exf b hb).2 x d e
  have hcC : XC.calm = true := by subst hX; exact hc
  have eP : XC.prog = X.prog := by subst hX; rfl
  have ew : XC.w = X.w := by subst hX; rfl
  have eK : XC.K = X.K := by subst hX; rfl
  have eA : XC.A = X.A := by subst hX; rfl
  have hxe : XC.xe = fun _ _ => False := by subst hX; rfl
  have hgC : PG XC t0 g := by subst hX; exact hg _ _ _
  have htC : PTs XC f0 tt := by subst hX; exact ht _ _ _
  have hiC : PI XC t1 i1 wi1 := by subst hX; exact hi1 _ _ _
  have hg1C : PG XC t1 g1 := by subst hX; exact hg1 _ _ _
  have ht1C : PTs XC f1 tt1 := by subst hX; exact ht1 _ _ _
  have heC : PE XC elt te := by subst hX; exact he _ _ _
  have nox : ∀ {α : Type} {t : Sem α} {Q : α → Shared → Prop} {E : Value → Shared → Prop} {s : Shared}, wpAny (model XC.prog XC.w) XC.A t Q XC.xe s → wpAny (model X.prog X.w) X.A t Q E s := fun {α t Q E s} h => by
    rw [← eP, ← ew, ← eA]
    exact wpAny_mono h (fun _ _ q => q) fun _ _ f => by rw [hxe] at f; exact f.elim
  have loop : codeAny (model X.prog X.w) X.A (.compLoop (.ListComp elt [⟨t0, i0, f0, 0⟩, ⟨t1, i1, f1, 0⟩] scope pos) 0 (.ref it) (.ref s2.heap.objs.size) XC.env) (compPost (model X.prog X.w) X.A X.xe none (EP X pins σ Q) (.ref s2.heap.objs.size) s3.heap.objs.size)
      { s3 with heap := h1, toks := s3.toks + ([] : List (Str × Value)).length } := by
    refine codeAny_loop rfl (fun n s' => ∃ i σ' H', Inv XC [] σ' H' s' ∧ tn i s'.heap ∧ (∀ b ∈ fp, H' b = none) ∧ W i n σ' H') (fun n s' hI => ?_) m0 ⟨0, _, _, I4, st4, fun b hb => (f3 b hb).1, w0⟩
    obtain ⟨i, σ', H', I5, st5, fr5, w5⟩ := hI
    show wpAny _ X.A ((compTurn (.ListComp elt [⟨t0, i0, f0, 0⟩, ⟨t1, i1, f1, 0⟩] scope pos) 0 (.ref it) (.ref s2.heap.objs.size) XC.env).onRaise (fun x => do noteFrame x XC.env; theTreesLotGoes x)) _ _ s'
    refine wpAny_noted ?_
    rw [compTurn_two0]
    refine wpAny_bind (wpAny_standAt (wpAny_bind ?_))
    rcases turn i n σ' H' w5 with ⟨stop, qn⟩ | ⟨go, N, hN, step⟩
    · have hd := T.done XC eP ew eK hcC i [] s' σ' H' (notedBy (model X.prog X.w) X.A XC.env fun e s' => compPost (model X.prog X.w) X.A X.xe none (EP X pins σ Q) (.ref s2.heap.objs.size) s3.heap.objs.size (.error e) s') I5 (stat fr5) st5 stop
      rw [eA] at hd
      refine thn hd fun r s6 ⟨hr, I6⟩ => ?_
      subst hr
      refine wpAny_pure ?_
      subst hX
      obtain ⟨m, hn, _⟩ := I6.loc
      exact ⟨m, hn, fun h' sb => ⟨.ref s2.heap.objs.size, H', comp_back I3 f3 I6 sb, rfl, qn⟩⟩
    · have hd := T.item XC eP ew eK hcC i [] s' σ' H' (notedBy (model X.prog X.w) X.A XC.env fun e s' => compPost (model X.prog X.w) X.A X.xe none (EP X pins σ Q) (.ref s2.heap.objs.size) s3.heap.objs.size (.error e) s') I5 (stat fr5) st5 go
      rw [eA] at hd
      refine thn hd fun r s6 ⟨u, hr, h6⟩ => ?_
      subst hr
      refine wpAny_bind (thn h6 fun _ s7 ⟨x, H7, I7, r7, y7, st7, fr7⟩ => ?_)
      have I7' := I7.pinned (stat fr7) (T.obj _ _ st7)
      have nextT : ∀ {σ8 : St} {H8 : Hp} {s8 : Shared}, Inv XC ([] ++ pinsAt fp s7.heap) σ8 H8 s8 → N σ8 H8 → ∃ m, m < n ∧ ∃ i σ' H', Inv XC [] σ' H' s8 ∧ tn i s8.heap ∧ (∀ b ∈ fp, H' b = none) ∧ W i m σ' H' := fun {σ8 H8 s8} I8 n8 => by
        obtain ⟨m', hm, w8⟩ := hN σ8 H8 n8
        refine ⟨m', hm, i + 1, σ8, H8, I8.unpinned, T.keep _ _ _ st7 fun b hb o e => (I8.pin (b, o) (List.mem_append_right _ (List.mem_append_right _ (mem_pinsAt hb e)))).1, fun b hb => ?_, w8⟩
        obtain ⟨o, e, d⟩ := T.obj _ _ st7 b hb
        exact (I8.pin (b, o) (List.mem_append_right _ (List.mem_append_right _ (mem_pinsAt hb e)))).2.1
      refine wpAny_bind (nox (thn (hgC _ s7 σ' H7 x u _ I7' r7 (step x H7 y7)) fun _ s8 ⟨σ8, H8, I8, q8⟩ => ?_))
      refine wpAny_bind (nox (thn (htC _ s8 σ8 H8 _ I8 q8) fun b s9 ⟨H9, I9, q9⟩ => ?_))
      cases b with
      | false =>
        rw [if_neg Bool.false_ne_true] at q9
        exact wpAny_pure ⟨by subst hX; rfl, nextT I9 q9⟩
      | true =>
        rw [if_pos rfl] at q9
        refine wpAny_bind (nox (thn (hiC _ s9 σ8 H9 _ I9 q9) fun v1 s10 h10 => ?_))
        refine wpAny_bind (wpAny_standAt (wpAny_bind (wpAny_of_eq (hs1 _ v1) (wpAny_bind (wpAny_holding (nox (thn h10 fun itv s11 h11 => ?_)))))))
        obtain ⟨it1, fp1, tn1, J1, H11, rfl, I11, T1, st11, f11, hin⟩ := h11
        refine wpAny_bind (wpAny_runOwn ?_)
        have tr : ∀ (cd : Code) (R : Result → Shared → Prop), codeAny (model XC.prog XC.w) XC.A cd R s11 → codeAny (model X.prog X.w) X.A cd R s11 := fun cd R h => by rw [eP, ew, eA] at h; exact h
        exact tr _ _ (comp_inner hxe hcC I11 T1 st11 f11 hg1C ht1C heC hin fun σ' H' s' I12 n12 => wpAny_pure ⟨by subst hX; rfl, nextT I12 n12⟩)
  subst hX
  exact codeAny_compStart_list loop (T.self _ 0 _ _ _ st4 loop)
end
end L2

set_option Elab.async false
set_option linter.all false
set_option maxRecDepth 100000
namespace KS
open PySem PySem.W PyProof.Rows
def ev {α : Type} (lt : Nat → Nat → Bool) : KasT α → α
  | .ret a => a
  | .ask i j k => ev lt (k (lt i j))
theorem ev_bind {α β : Type} (lt : Nat → Nat → Bool) (f : α → KasT β) : ∀ t : KasT α, ev lt (t.bind f) = ev lt (f (ev lt t))
  | .ret _ => rfl
  | .ask i j k => ev_bind lt f (k (lt i j))
structure Ord (lt : Nat → Nat → Bool) : Prop where
  irr : ∀ a, lt a a = false
  neg : ∀ a b c, lt a c = true → lt a b = true ∨ lt b c = true
  tr : ∀ a b c, lt a b = true → lt b c = true → lt a c = true
section
variable {lt : Nat → Nat → Bool} (O : Ord lt)
def Le (lt : Nat → Nat → Bool) (a b : Nat) : Prop := lt b a = false
include O
theorem Ord.as {a b : Nat} (h : lt a b = true) : Le lt a b := by
  unfold Le
  cases q : lt b a with
  | false => rfl
  | true => have := O.tr _ _ _ h q; rw [O.irr] at this; cases this
theorem Ord.le_tr {a b c : Nat} (h : Le lt a b) (h' : Le lt b c) : Le lt a c := by
  unfold Le at *
  cases q : lt c a with
  | false => rfl
  | true => rcases O.neg _ b _ q with z | z
            · rw [h'] at z; cases z
            · rw [h] at z; cases z
theorem Ord.rf (a : Nat) : Le lt a a := O.irr a
omit O
def P (p : Array Nat) (i : Nat) : Nat := p.getD i 0
theorem P_of {p q : Array Nat} {i j : Nat} (h : p[i]? = q[j]?) : P p i = P q j := by unfold P; rw [Array.getD_eq_getD_getElem?, Array.getD_eq_getD_getElem?, h]
def Asc (lt : Nat → Nat → Bool) (p : Array Nat) (k : Nat) : Prop := ∀ i j, i ≤ j → j < k → Le lt (P p i) (P p j)
def Dsc (lt : Nat → Nat → Bool) (p : Array Nat) (k : Nat) : Prop := ∀ i j, i ≤ j → j < k → Le lt (P p j) (P p i)
theorem P_rev {p : Array Nat} {i j : Nat} (hj : j ≤ p.size) (k : Nat) : P (kas_rev p i j) k = if i ≤ k ∧ k < j then P p (i + j - 1 - k) else P p k := by
  have e := getElem?_mirror_all (xs := p) (i := i) hj k
  unfold kas_rev
  split
  · rename_i h; rw [if_pos h] at e; exact P_of e
  · rename_i h; rw [if_neg h] at e; exact P_of e
theorem rev_perm (p : Array Nat) (i j : Nat) : (kas_rev p i j).Perm p := mirror_perm _ _ _ _
theorem rev_size (p : Array Nat) (i j : Nat) : (kas_rev p i j).size = p.size := mirror_size _ _ _ _
include O
theorem asc_one {p : Array Nat} : Asc lt p 1 := fun i j h1 h2 => by
  have e : i = j := by omega
  subst e; exact O.rf _
theorem asc_ok {p : Array Nat} : ∀ (f n : Nat), 1 ≤ n → Asc lt p n → Asc lt p (ev lt (kas_asc p f n)) ∧ n ≤ ev lt (kas_asc p f n) ∧ ev lt (kas_asc p f n) ≤ n + f ∧
    (ev lt (kas_asc p f n) < n + f → lt (P p (ev lt (kas_asc p f n))) (P p (ev lt (kas_asc p f n) - 1)) = true)
  | 0, n, h1, h => ⟨h, Nat.le_refl _, Nat.le_refl _, fun z => absurd z (Nat.lt_irrefl _)⟩
  | f + 1, n, h1, h => by
    have e : ev lt (kas_asc p (f + 1) n) = ev lt (if lt (P p n) (P p (n - 1)) = true then KasT.ret n else kas_asc p f (n + 1)) := rfl
    rw [e]
    cases c : lt (P p n) (P p (n - 1)) with
    | true =>
      rw [if_pos rfl]
      exact ⟨h, Nat.le_refl _, by show n ≤ _; omega, fun _ => c⟩
    | false =>
      rw [if_neg Bool.false_ne_true]
      have up : Asc lt p (n + 1) := fun i j h2 h3 => by
        by_cases hj : j < n
        · exact h i j h2 hj
        · by_cases hi : i = j
          · subst hi; exact O.rf _
          · have : j = n := by omega
            subst this
            exact O.le_tr (h i (j - 1) (by omega) (by omega)) c
      obtain ⟨a, b, d, e⟩ := asc_ok f (n + 1) (by omega) up
      exact ⟨a, by omega, by omega, fun z => e (by omega)⟩
theorem dsc_ok : ∀ (f : Nat) (p : Array Nat) (n q : Nat), 1 ≤ n → q + 1 ≤ n → n + f ≤ p.size → Dsc lt p n → (∀ i, n - (q + 1) ≤ i → i < n → Le lt (P p i) (P p (n - 1))) →
    ∃ p' n' q', ev lt (kas_desc f p n q) = (p', n', q') ∧ p'.Perm p ∧ n ≤ n' ∧ n' ≤ n + f ∧ q' + 1 ≤ n' ∧ Dsc lt p' n' ∧ (∀ i, n' - (q' + 1) ≤ i → i < n' → Le lt (P p' i) (P p' (n' - 1)))
  | 0, p, n, q, h1, hq, hz, h, he => ⟨p, n, q, rfl, .refl _, Nat.le_refl _, Nat.le_refl _, hq, h, he⟩
  | f + 1, p, n, q, h1, hq, hz, h, he => by
    have e : ev lt (kas_desc (f + 1) p n q) = ev lt (if lt (P p n) (P p (n - 1)) = true then (if q > 0 then kas_desc f (kas_rev p (n - (q + 1)) n) (n + 1) 0 else kas_desc f p (n + 1) 0)
        else KasT.ask (P p (n - 1)) (P p n) fun d => if d = true then KasT.ret (p, n, q) else kas_desc f p (n + 1) (q + 1)) := rfl
    rw [e]
    cases c : lt (P p n) (P p (n - 1)) with
    | true =>
      rw [if_pos rfl]
      have up : Dsc lt p (n + 1) := fun i j h2 h3 => by
        by_cases hj : j < n
        · exact h i j h2 hj
        · by_cases hi : i = j
          · subst hi; exact O.rf _
          · have : j = n := by omega
            subst this
            exact O.le_tr (O.as c) (h i (j - 1) (by omega) (by omega))
      by_cases hq0 : q > 0
      · rw [if_pos hq0]
        have hk : ∀ i, i < n + 1 → Le lt (P (kas_rev p (n - (q + 1)) n) i) (P p i) ∧ Le lt (P p i) (P (kas_rev p (n - (q + 1)) n) i) := fun i hi => by
          rw [P_rev (by omega)]
          split
          · rename_i hh
            have a1 := he i hh.1 hh.2
            have a2 := he (n - (q + 1) + n - 1 - i) (by omega) (by omega)
            have b1 := h i (n - 1) (by omega) (by omega)
            have b2 := h (n - (q + 1) + n - 1 - i) (n - 1) (by omega) (by omega)
            exact ⟨O.le_tr a2 b1, O.le_tr a1 b2⟩
          · exact ⟨O.rf _, O.rf _⟩
        have up' : Dsc lt (kas_rev p (n - (q + 1)) n) (n + 1) := fun i j h2 h3 => O.le_tr (hk j h3).1 (O.le_tr (up i j h2 h3) (hk i (by omega)).2)
        obtain ⟨p', n', q', e', a, b, d, g, w, v⟩ := dsc_ok f (kas_rev p (n - (q + 1)) n) (n + 1) 0 (by omega) (by omega) (by rw [rev_size]; omega) up' (fun i h2 h3 => by
          have : i = n + 1 - 1 := by omega
          rw [this]; exact O.rf _)
        exact ⟨p', n', q', e', a.trans (rev_perm _ _ _), by omega, by omega, g, w, v⟩
      · rw [if_neg hq0]
        obtain ⟨p', n', q', e', a, b, d, g, w, v⟩ := dsc_ok f p (n + 1) 0 (by omega) (by omega) (by omega) up (fun i h2 h3 => by
          have : i = n + 1 - 1 := by omega
          rw [this]; exact O.rf _)
        exact ⟨p', n', q', e', a, by omega, by omega, g, w, v⟩
    | false =>
      rw [if_neg Bool.false_ne_true]
      have e2 : ev lt (KasT.ask (P p (n - 1)) (P p n) fun d => if d = true then KasT.ret (p, n, q) else kas_desc f p (n + 1) (q + 1)) = ev lt (if lt (P p (n - 1)) (P p n) = true then KasT.ret (p, n, q) else kas_desc f p (n + 1) (q + 1)) := rfl
      rw [e2]
      cases c2 : lt (P p (n - 1)) (P p n) with
      | true =>
        rw [if_pos rfl]
        exact ⟨p, n, q, rfl, .refl _, Nat.le_refl _, by omega, hq, h, he⟩
      | false =>
        rw [if_neg Bool.false_ne_true]
        have up : Dsc lt p (n + 1) := fun i j h2 h3 => by
          by_cases hj : j < n
          · exact h i j h2 hj
          · by_cases hi : i = j
            · subst hi; exact O.rf _
            · have : j = n := by omega
              subst this
              exact O.le_tr c2 (h i (j - 1) (by omega) (by omega))
        obtain ⟨p', n', q', e', a, b, d, g, w, v⟩ := dsc_ok f p (n + 1) (q + 1) (by omega) (by omega) (by omega) up (fun i h2 h3 => by
          show Le lt (P p i) (P p n)
          by_cases hi : i = n
          · subst hi; exact O.rf _
          · exact O.le_tr (he i (by omega) (by omega)) c)
        exact ⟨p', n', q', e', a, by omega, by omega, g, w, v⟩
/-- a falling run turned about rises -/
theorem rev_asc {p : Array Nat} {n : Nat} (hz : n ≤ p.size) (h : Dsc lt p n) : Asc lt (kas_rev p 0 n) n := fun i j h2 h3 => by
  rw [P_rev hz, P_rev hz, if_pos ⟨Nat.zero_le _, by omega⟩, if_pos ⟨Nat.zero_le _, h3⟩]
  exact h _ _ (by omega) (by omega)
theorem tail_ok {p : Array Nat} {n nrem : Nat} (h1 : 1 ≤ n) (hn : n ≤ nrem) (hz : nrem ≤ p.size) (h : Dsc lt p n) :
    ∃ m p', ev lt (kas_tail3 n nrem p) = (m, p') ∧ p'.Perm p ∧ 1 ≤ m ∧ m ≤ nrem ∧ Asc lt p' m := by
  unfold kas_tail3
  rw [ev_bind]
  obtain ⟨a, b, c, _⟩ := asc_ok O (p := kas_rev p 0 n) (nrem - n) n h1 (rev_asc O (by omega) h)
  exact ⟨_, _, rfl, rev_perm _ _ _, by omega, by omega, a⟩
theorem descPart_ok {p : Array Nat} {n nrem : Nat} (h1 : 1 ≤ n) (hn : n < nrem) (hz : nrem ≤ p.size) (h : Dsc lt p (n + 1)) :
    ∃ m p', ev lt (kas_descPart n nrem p) = (m, p') ∧ p'.Perm p ∧ 1 ≤ m ∧ m ≤ nrem ∧ Asc lt p' m := by
  unfold kas_descPart
  rw [ev_bind]
  obtain ⟨p', n', q', e', a, b, d, g, w, v⟩ := dsc_ok O (nrem - (n + 1)) p (n + 1) 0 (by omega) (by omega) (by omega) h (fun i h2 h3 => by
    have : i = n + 1 - 1 := by omega
    rw [this]; exact O.rf _)
  rw [e']
  dsimp only
  have hz' : p'.size = p.size := a.size_eq
  by_cases hq : q' > 0
  · rw [if_pos hq]
    have hk : ∀ i, i < n' → Le lt (P (kas_rev p' (n' - (q' + 1)) n') i) (P p' i) ∧ Le lt (P p' i) (P (kas_rev p' (n' - (q' + 1)) n') i) := fun i hi => by
      rw [P_rev (by omega)]
      split
      · rename_i hh
        have a1 := v i hh.1 hh.2
        have a2 := v (n' - (q' + 1) + n' - 1 - i) (by omega) (by omega)
        have b1 := w i (n' - 1) (by omega) (by omega)
        have b2 := w (n' - (q' + 1) + n' - 1 - i) (n' - 1) (by omega) (by omega)
        exact ⟨O.le_tr a2 b1, O.le_tr a1 b2⟩
      · exact ⟨O.rf _, O.rf _⟩
    have up' : Dsc lt (kas_rev p' (n' - (q' + 1)) n') n' := fun i j h2 h3 => O.le_tr (hk j h3).1 (O.le_tr (w i j h2 h3) (hk i (by omega)).2)
    obtain ⟨m, p2, e2, a2, b2, c2, d2⟩ := tail_ok O (n := n') (nrem := nrem) (p := kas_rev p' (n' - (q' + 1)) n') (by omega) (by omega) (by rw [rev_size]; omega) up'
    exact ⟨m, p2, e2, a2.trans ((rev_perm _ _ _).trans a), b2, c2, d2⟩
  · rw [if_neg hq]
    obtain ⟨m, p2, e2, a2, b2, c2, d2⟩ := tail_ok O (n := n') (nrem := nrem) (p := p') (by omega) (by omega) (by omega) w
    exact ⟨m, p2, e2, a2.trans a, b2, c2, d2⟩
theorem count_ok {p : Array Nat} {nrem : Nat} (hn : 1 ≤ nrem) (hz : nrem ≤ p.size) : ∃ m p', ev lt (kas_count nrem p) = (m, p') ∧ p'.Perm p ∧ 1 ≤ m ∧ m ≤ nrem ∧ Asc lt p' m := by
  unfold kas_count
  rw [ev_bind]
  obtain ⟨a, b, c, d⟩ := asc_ok O (p := p) (nrem - 1) 1 (Nat.le_refl _) (asc_one O)
  generalize ev lt (kas_asc p (nrem - 1) 1) = n at a b c d
  by_cases hnn : n = nrem
  · rw [if_pos (by simpa using hnn)]
    exact ⟨_, _, rfl, .refl _, by omega, by omega, a⟩
  · rw [if_neg (by simpa using hnn)]
    have hlt := d (by omega)
    by_cases h2 : n > 1
    · rw [if_pos h2]
      have e : ev lt (KasT.ask (P p 0) (P p (n - 1)) fun c => if c = true then KasT.ret (n, p) else kas_descPart n nrem (kas_rev p 0 n)) = ev lt (if lt (P p 0) (P p (n - 1)) = true then KasT.ret (n, p) else kas_descPart n nrem (kas_rev p 0 n)) := rfl
      show ∃ m p', ev lt (KasT.ask (P p 0) (P p (n - 1)) fun c => if c = true then KasT.ret (n, p) else kas_descPart n nrem (kas_rev p 0 n)) = (m, p') ∧ _
      rw [e]
      cases hc : lt (P p 0) (P p (n - 1)) with
      | true =>
        rw [if_pos rfl]
        exact ⟨_, _, rfl, .refl _, by omega, by omega, a⟩
      | false =>
        rw [if_neg Bool.false_ne_true]
        have alle : ∀ i j, i < n → j < n → Le lt (P p i) (P p j) := fun i j hi hj => O.le_tr (a i (n - 1) (by omega) (by omega)) (O.le_tr hc (a 0 j (by omega) hj))
        have ds : Dsc lt (kas_rev p 0 n) (n + 1) := fun i j h3 h4 => by
          rw [P_rev (by omega), P_rev (by omega)]
          by_cases hj : j < n
          · rw [if_pos ⟨Nat.zero_le _, hj⟩, if_pos ⟨Nat.zero_le _, by omega⟩]
            exact alle _ _ (by omega) (by omega)
          · have hjn : j = n := by omega
            subst hjn
            rw [if_neg (by omega)]
            by_cases hi : i < j
            · rw [if_pos ⟨Nat.zero_le _, hi⟩]
              exact O.le_tr (O.as hlt) (alle _ _ (by omega) (by omega))
            · rw [if_neg (by omega)]
              have : i = j := by omega
              subst this; exact O.rf _
        obtain ⟨m, p2, e2, a2, b2, c2, d2⟩ := descPart_ok O (n := n) (nrem := nrem) (p := kas_rev p 0 n) (by omega) (by omega) (by rw [rev_size]; omega) ds
        exact ⟨m, p2, e2, a2.trans (rev_perm _ _ _), b2, c2, d2⟩
    · rw [if_neg h2]
      have h1 : n = 1 := by omega
      subst h1
      have ds : Dsc lt p (1 + 1) := fun i j h3 h4 => by
        by_cases hi : i = j
        · subst hi; exact O.rf _
        · have hj : j = 1 := by omega
          have hi' : i = 0 := by omega
          subst hj hi'
          exact O.as hlt
      exact descPart_ok O (n := 1) (nrem := nrem) (p := p) (by omega) (by omega) hz ds
theorem place_ok {p : Array Nat} {k : Nat} (h : Asc lt p k) : ∀ (f l r : Nat), r ≤ l + f → l ≤ r → r ≤ k → (∀ i, i < l → Le lt (P p i) (P p k)) → (∀ i, r ≤ i → i < k → lt (P p k) (P p i) = true) →
    ev lt (kas_place p k f l r) ≤ k ∧ (∀ i, i < ev lt (kas_place p k f l r) → Le lt (P p i) (P p k)) ∧ (∀ i, ev lt (kas_place p k f l r) ≤ i → i < k → lt (P p k) (P p i) = true)
  | 0, l, r, h1, h2, h3, h4, h5 => by
    have e : l = r := by omega
    subst e
    exact ⟨h3, h4, h5⟩
  | f + 1, l, r, h1, h2, h3, h4, h5 => by
    by_cases hlr : l ≥ r
    · have e : ev lt (kas_place p k (f + 1) l r) = l := by
        show ev lt (if l ≥ r then KasT.ret l else _) = l
        rw [if_pos hlr]; rfl
      have e2 : l = r := by omega
      rw [e]
      subst e2
      exact ⟨h3, h4, h5⟩
    · have e : ev lt (kas_place p k (f + 1) l r) = ev lt (if lt (P p k) (P p ((l + r) / 2)) = true then kas_place p k f l ((l + r) / 2) else kas_place p k f ((l + r) / 2 + 1) r) := by
        show ev lt (if l ≥ r then KasT.ret l else _) = _
        rw [if_neg hlr]; rfl
      rw [e]
      cases c : lt (P p k) (P p ((l + r) / 2)) with
      | true =>
        rw [if_pos rfl]
        refine place_ok h f l ((l + r) / 2) (by omega) (by omega) (by omega) h4 fun i hi hk => ?_
        rcases O.neg _ (P p i) _ c with z | z
        · exact z
        · have := h ((l + r) / 2) i hi hk
          unfold Le at this
          rw [this] at z; cases z
      | false =>
        rw [if_neg Bool.false_ne_true]
        exact place_ok h f ((l + r) / 2 + 1) r (by omega) (by omega) h3 (fun i hi => O.le_tr (h i ((l + r) / 2) (by omega) (by omega)) c) h5
theorem bin_ok : ∀ (f : Nat) (p : Array Nat) (k : Nat), k + f ≤ p.size → Asc lt p k → ∃ p', ev lt (kas_bin f p k) = p' ∧ p'.Perm p ∧ Asc lt p' (k + f)
  | 0, p, k, _, h => ⟨p, rfl, .refl _, h⟩
  | f + 1, p, k, hz, h => by
    have e : ev lt (kas_bin (f + 1) p k) = ev lt (kas_bin f (bubble p k (k - ev lt (kas_place p k k 0 k))) (k + 1)) := by
      show ev lt ((kas_place p k k 0 k).bind fun l => kas_bin f (bubble p k (k - l)) (k + 1)) = _
      rw [ev_bind]
    rw [e]
    obtain ⟨a, b, c⟩ := place_ok O h k 0 k (by omega) (Nat.zero_le _) (Nat.le_refl _) (fun i hi => absurd hi (Nat.not_lt_zero _)) (fun i h1 h2 => absurd h2 (by omega))
    generalize ev lt (kas_place p k k 0 k) = l at a b c
    have hb : ∀ x, P (bubble p k (k - l)) x = if x = l then P p k else if l < x ∧ x ≤ k then P p (x - 1) else P p x := fun x => by
      have q := getElem?_bubble (xs := p) (src := k) (by omega) (k - l) (by omega) x
      have e1 : k - (k - l) = l := by omega
      rw [e1] at q
      split
      · rename_i hh; rw [if_pos hh] at q; exact P_of q
      · rename_i hh
        rw [if_neg hh] at q
        split
        · rename_i h2; rw [if_pos h2] at q; exact P_of q
        · rename_i h2; rw [if_neg h2] at q; exact P_of q
    have up : Asc lt (bubble p k (k - l)) (k + 1) := fun i j h1 h2 => by
      rw [hb, hb]
      by_cases e1 : i = l
      · rw [if_pos e1]
        by_cases e2 : j = l
        · rw [if_pos e2]; exact O.rf _
        · rw [if_neg e2, if_pos ⟨by omega, by omega⟩]
          exact O.as (c (j - 1) (by omega) (by omega))
      · rw [if_neg e1]
        by_cases e2 : j = l
        · rw [if_pos e2, if_neg (by omega)]
          exact b i (by omega)
        · rw [if_neg e2]
          by_cases e3 : l < i
          · rw [if_pos ⟨e3, by omega⟩, if_pos ⟨by omega, by omega⟩]
            exact h _ _ (by omega) (by omega)
          · rw [if_neg (by omega)]
            by_cases e4 : l < j
            · rw [if_pos ⟨e4, by omega⟩]
              exact h _ _ (by omega) (by omega)
            · rw [if_neg (by omega)]
              exact h _ _ h1 (by omega)
    obtain ⟨p', e', a', b'⟩ := bin_ok f (bubble p k (k - l)) (k + 1) (by rw [bubble_size]; omega) up
    exact ⟨p', e', a'.trans (bubble_perm _ _ _), by rw [show k + (f + 1) = k + 1 + f by omega]; exact b'⟩
theorem sort_ok {n : Nat} (hn : 1 ≤ n) : ∃ p, ev lt (kas_sort n) = p ∧ p.toList.Perm (List.range n) ∧ p.toList.Pairwise (Le lt) := by
  have pw : ∀ p : Array Nat, p.size = n → Asc lt p n → p.toList.Pairwise (Le lt) := fun p hz h => by
    rw [List.pairwise_iff_getElem]
    intro i j hi hj hij
    have hi' : i < p.size := by simpa using hi
    have hj' : j < p.size := by simpa using hj
    have q := h i j (by omega) (by omega)
    unfold P at q
    simpa [Array.getD, hi', hj'] using q
  unfold kas_sort
  rw [ev_bind]
  obtain ⟨m, p', e', a, b, c, d⟩ := count_ok O (p := List.toArray (List.range n)) hn (by simp)
  rw [e']
  dsimp only
  have hz' : p'.size = n := by rw [a.size_eq]; simp
  have pl : p'.toList.Perm (List.range n) := by simpa using Array.perm_iff_toList_perm.mp a
  by_cases hm : m < n
  · rw [if_pos hm]
    obtain ⟨p2, e2, a2, b2⟩ := bin_ok O (n - max m 1) p' (max m 1) (by omega) (by rw [show max m 1 = m by omega]; exact d)
    refine ⟨p2, e2, (Array.perm_iff_toList_perm.mp a2).trans pl, pw p2 (by rw [a2.size_eq, hz']) ?_⟩
    rw [show max m 1 + (n - max m 1) = n by omega] at b2
    exact b2
  · rw [if_neg hm]
    have : m = n := by omega
    subst this
    exact ⟨p', rfl, pl, pw p' hz' d⟩
end
end KS

set_option Elab.async false
set_option linter.all false
set_option maxRecDepth 100000
namespace KS
open PySem PySem.W PyProof.Rows
/-! ### all asks are about places that there are -/
def AllI {α : Type} (n : Nat) (Q : α → Prop) : KasT α → Prop
  | .ret a => Q a
  | .ask i j k => i < n ∧ j < n ∧ ∀ b, AllI n Q (k b)
theorem allI_mono {α : Type} {n : Nat} {Q Q' : α → Prop} (h : ∀ a, Q a → Q' a) : ∀ t : KasT α, AllI n Q t → AllI n Q' t
  | .ret a, z => h a z
  | .ask _ _ k, z => ⟨z.1, z.2.1, fun b => allI_mono h (k b) (z.2.2 b)⟩
theorem allI_bind {α β : Type} {n : Nat} {Q : β → Prop} {f : α → KasT β} : ∀ t : KasT α, AllI n (fun a => AllI n Q (f a)) t → AllI n Q (t.bind f)
  | .ret _, z => z
  | .ask _ _ k, z => ⟨z.1, z.2.1, fun b => allI_bind (k b) (z.2.2 b)⟩
def InN (n : Nat) (p : Array Nat) : Prop := 0 < n ∧ ∀ x ∈ p.toList, x < n
theorem InN.at {n : Nat} {p : Array Nat} (h : InN n p) (i : Nat) : p.getD i 0 < n := by
  rw [Array.getD_eq_getD_getElem?]
  cases q : p[i]? with
  | none => exact h.1
  | some x =>
    refine h.2 x ?_
    rw [← Array.getElem?_toList] at q
    exact List.mem_of_getElem? q
theorem InN.perm {n : Nat} {p q : Array Nat} (h : InN n p) (hp : q.Perm p) : InN n q := ⟨h.1, fun x hx => h.2 x ((Array.perm_iff_toList_perm.mp hp).mem_iff.mp hx)⟩
theorem asc_all {n : Nat} {p : Array Nat} (h : InN n p) : ∀ f m, AllI n (fun _ => True) (kas_asc p f m)
  | 0, _ => trivial
  | f + 1, m => ⟨h.at _, h.at _, fun b => by cases b with | true => exact trivial | false => exact asc_all h f (m + 1)⟩
theorem desc_all {n : Nat} : ∀ (f : Nat) (p : Array Nat) (m q : Nat), InN n p → AllI n (fun r => InN n r.1) (kas_desc f p m q)
  | 0, p, m, q, h => h
  | f + 1, p, m, q, h => ⟨h.at _, h.at _, fun b => by
    cases b with
    | true =>
      show AllI n _ (if q > 0 then kas_desc f (kas_rev p (m - (q + 1)) m) (m + 1) 0 else kas_desc f p (m + 1) 0)
      split
      · exact desc_all f _ _ _ (h.perm (rev_perm _ _ _))
      · exact desc_all f _ _ _ h
    | false =>
      refine ⟨h.at _, h.at _, fun d => ?_⟩
      cases d with
      | true => exact h
      | false => exact desc_all f _ _ _ h⟩
theorem tail_all {n : Nat} {p : Array Nat} (h : InN n p) (m nrem : Nat) : AllI n (fun r => InN n r.2) (kas_tail3 m nrem p) :=
  allI_bind _ (allI_mono (fun _ _ => h.perm (rev_perm _ _ _)) _ (asc_all (h.perm (rev_perm _ _ _)) _ _))
theorem descPart_all {n : Nat} {p : Array Nat} (h : InN n p) (m nrem : Nat) : AllI n (fun r => InN n r.2) (kas_descPart m nrem p) :=
  allI_bind _ (allI_mono (fun r hr => by
    show AllI n _ (if r.2.2 > 0 then _ else _)
    split
    · exact tail_all (hr.perm (rev_perm _ _ _)) _ _
    · exact tail_all hr _ _) _ (desc_all _ _ _ _ h))
theorem count_all {n : Nat} {p : Array Nat} (h : InN n p) (nrem : Nat) : AllI n (fun r => InN n r.2) (kas_count nrem p) :=
  allI_bind _ (allI_mono (fun m _ => by
    show AllI n _ (if (m == nrem) = true then _ else _)
    split
    · exact h
    · split
      · refine ⟨h.at _, h.at _, fun b => ?_⟩
        cases b with
        | true => exact h
        | false => exact descPart_all (h.perm (rev_perm _ _ _)) _ _
      · exact descPart_all h _ _) _ (asc_all h _ _))
theorem place_all {n : Nat} {p : Array Nat} (h : InN n p) (k : Nat) : ∀ f l r, AllI n (fun _ => True) (kas_place p k f l r)
  | 0, _, _ => trivial
  | f + 1, l, r => by
    show AllI n _ (if l ≥ r then _ else _)
    split
    · exact trivial
    · refine ⟨h.at _, h.at _, fun b => ?_⟩
      cases b with
      | true => exact place_all h k f _ _
      | false => exact place_all h k f _ _
theorem bin_all {n : Nat} : ∀ (f : Nat) (p : Array Nat) (k : Nat), InN n p → AllI n (fun _ => True) (kas_bin f p k)
  | 0, _, _, _ => trivial
  | f + 1, p, k, h => allI_bind _ (allI_mono (fun l _ => bin_all f _ _ (h.perm (bubble_perm _ _ _))) _ (place_all h k _ _ _))
theorem sort_all {n : Nat} (hn : 0 < n) : AllI n (fun _ => True) (kas_sort n) :=
  allI_bind _ (allI_mono (fun r hr => by
    show AllI n _ (if r.1 < n then _ else _)
    split
    · exact bin_all _ _ _ hr
    · exact trivial) _ (count_all (n := n) (p := List.toArray (List.range n)) ⟨hn, fun x hx => List.mem_range.mp (by simpa using hx)⟩ n))
theorem wp_in {α : Type} {cmp : Nat → Nat → (Bool → Shared → Prop) → Shared → Prop} {lt : Nat → Nat → Bool} {s : Shared} {Q : α → Shared → Prop} {n : Nat}
    (hc : ∀ i j (C : Bool → Shared → Prop), i < n → j < n → C (lt i j) s → cmp i j C s) : ∀ t : KasT α, AllI n (fun _ => True) t → Q (ev lt t) s → t.kasWp cmp Q s
  | .ret _, _, h => h
  | .ask i j k, z, h => hc i j _ z.1 z.2.1 (wp_in hc (k (lt i j)) (z.2.2 _) h)
/-! ### sorted of fewer than two -/
section
variable {prog : Program} {w : World} {A : Around} {E : Value → Shared → Prop} {s : Shared}
theorem sort_short {a : Addr} {vs : List Value} {n : Nat} {G : PySem.Fin → Shared → Prop} (ho : s.heap.get? a = some (seqObj "list" vs.toArray n)) (h2 : vs.length < 2)
    (h : G (.done (.ret .none)) { s with heap := sortedHeap s.heap a vs vs.toArray }) : wpAny (model prog w) A (Builtin.«list.sort» ⟨[.ref a], []⟩) G E s := by
  rw [list_sort_plain]
  have la : a < s.heap.objs.size := Heap.lt_size ho
  refine wpAny_bind (listItems_at ho rfl (wpAny_bind (listUpdate_at ho rfl ?_)))
  obtain ⟨e1, ho1⟩ : ∃ k, (s.heap.update a (Obj.mapSeq fun _ => #[])).get? a = some (seqObj "list" #[] k) := ⟨_, get?_update_seq ho (fun _ => #[])⟩
  refine wpAny_bind (seqEpoch_at ho1 rfl (wpAny_bind (wpAny_newTuple (wpAny_bind (wpAny_newList (wpAny_holding ?_))))))
  have ho6 : (((s.heap.update a (Obj.mapSeq fun _ => #[])).push (seqObj "tuple" vs.toArray 0)).push (seqObj "list" #[] 0)).get? a = some (seqObj "list" #[] e1) := Heap.get?_push_of_some _ (Heap.get?_push_of_some _ ho1)
  show wpAny (model prog w) A _ G E { s with heap := ((s.heap.update a (Obj.mapSeq fun _ => #[])).push (seqObj "tuple" vs.toArray 0)).push (seqObj "list" #[] 0) }
  dsimp only
  have lz : vs.toArray.size < 2 := by simpa using h2
  rw [if_pos lz, if_pos lz]
  refine wpAny_bind (wpAny_pure ?_)
  rw [StateT.run_pure]
  refine wpAny_bind (wpAny_pure ?_)
  dsimp only
  have ez : (arrOf (SortSt.mk' general' (vs.toArray.zip vs.toArray) #[] 7 none)).map (·.2) = vs.toArray := by
    show (vs.toArray.zip vs.toArray).map (·.2) = vs.toArray
    apply Array.toList_inj.mp
    simp [List.map_snd_zip]
  refine wpAny_bind (seqEpoch_at ho6 rfl (wpAny_bind (listUpdate_at ho6 rfl ?_ (hsz2 := by rw [ez]; rw [sizeLine_eq]; omega))))
  simp only [bne_self_eq_false, Bool.false_eq_true, if_false]
  have h' := h
  unfold sortedHeap at h'
  rw [ez]
  exact wpAny_pure h'
theorem sorted_short {l : Addr} {vs : List Value} {G : Value → Shared → Prop} (hl : s.heap.IsList l vs.toArray) (h2 : vs.length < 2) (h : G (.ref (s.heap.objs.size + 1)) { s with heap := sortedAll s.heap vs vs.toArray }) :
    wpAny (model prog w) A (call (.builtin "sorted") [.ref l]) G E s := by
  refine Calls.call_function_entry kind_sorted plain_sorted entry_sorted (args_sorted1 (.ref l)) ?_
  unfold Builtin.«sorted»
  have l2 : vs.length ≤ sizeLine := by rw [sizeLine_eq]; omega
  refine wpAny_bind (m := checkCount "sorted" 1 1 _) (wpAny_pure (wpAny_bind (collect_list hl (wpAny_bind (wpAny_newList ?_ l2)) l2)))
  have z1 : ((s.heap.push (seqObj "list" #[] 0)).update s.heap.objs.size (Obj.mapSeq (· ++ vs.toArray))).objs.size = s.heap.objs.size + 1 := by rw [Heap.size_update, size_push']
  have z2 : (((s.heap.push (seqObj "list" #[] 0)).update s.heap.objs.size (Obj.mapSeq (· ++ vs.toArray))).push (seqObj "list" vs.toArray 0)).get? (s.heap.objs.size + 1) = some (seqObj "list" vs.toArray 0) := by
    rw [← z1]; exact Heap.get?_push_size _ rfl
  show wpAny (model prog w) _ _ _ E { s with heap := ((s.heap.push (seqObj "list" #[] 0)).update s.heap.objs.size (Obj.mapSeq (· ++ vs.toArray))).push (seqObj "list" vs.toArray 0) }
  rw [z1]
  exact wpAny_bind (wpAny_holding (wpAny_call_entry slot_list_sort ⟨_, z2, rfl⟩ entry_list_sort (sort_short z2 h2 ⟨_, rfl, wpAny_pure ⟨_, rfl, h⟩⟩) (args_list_sort _)))
end
end KS

set_option Elab.async false
set_option linter.all false
set_option maxRecDepth 100000
namespace L2
open PySem PySem.Spec PyProof.Rows
section
variable {X : Cx} {pins : List (Addr × Obj)} {σ : St} {H : Hp} {s : Shared} {h' : Heap}
/-- all objects but the frame's own are kept, its map is, and one object is laid -/
theorem Inv.layNs {t' : Nat} {t : Addr} {o : HO} (I : Inv X pins σ H s) (k : ∀ b o, b ≠ X.env.locals → s.heap.get? b = some o → h'.get? b = some o) (ns : ∀ m, s.heap.Ns X.env.locals m → h'.Ns X.env.locals m)
    (ht : s.heap.get? t = none) (nt : H t = none) (new : ObjOk X.prog X.w (upd H t o) h' t o) : Inv X pins σ (upd H t o) { s with heap := h', toks := t' } := by
  have up : ∀ b u, H b = some u → upd H t o b = some u := fun b u e => by rw [upd_ne (ne_of_none e nt)]; exact e
  have nL : ∀ b u, H b = some u → b ≠ X.env.locals := fun b u e z => by rw [z, I.free] at e; cases e
  refine I.step (g' := s.gens) (d' := s.drawn) (ch := []) (fun b hb => by cases hb) (fun b o hb _ _ e _ => k b o hb e) (fun b o hb _ _ e _ => ⟨o.slots, k b o hb e⟩) (fun b o _ e n => ?_)
    (fun b o _ e => ?_) (fun b xs e => up b _ e) (fun b _ _ e => up b _ e) (fun b ps e => ⟨#[], by rw [up b _ e]; simp⟩) ns (fun b u e => ?_) I.bare
  · rw [upd_ne (fun z => by rw [z, ht] at e; cases e)]; exact n
  · by_cases hb : b = X.env.locals
    · obtain ⟨m, hm, _⟩ := I.loc
      obtain ⟨o', _, _, ho', _⟩ := ns m hm
      rw [hb]; exact ⟨o', ho'⟩
    · exact ⟨o, k b o hb e⟩
  · by_cases hb : b = t
    · subst hb
      rw [upd_same] at e
      cases e
      exact new
    · rw [upd_ne hb] at e
      refine (I.hok b u e).stay (fun c v hc q => k c v ?_ q) (fun b' q => up b' _ q) fun b' _ q => up b' _ q
      rcases hc with z | z
      · rw [z]; exact nL b u e
      · exact nL c _ z
end
/-! ### sorted of pairs of numbers -/
def pairV (k : Nat × Nat) : List V := [.int (k.1 : Nat), .int (k.2 : Nat)]
/-- the tuples at these addresses, with their numbers -/
def Prs (H : Hp) (L : List (Addr × (Nat × Nat))) : Prop := ∀ p ∈ L, H p.1 = some (.tup (pairV p.2))
def lexB (a b : Nat × Nat) : Bool := if a.1 = b.1 then decide (a.2 < b.2) else decide (a.1 < b.1)
theorem lexB_iff (x y : Nat × Nat) : lexB x y = true ↔ x.1 < y.1 ∨ (x.1 = y.1 ∧ x.2 < y.2) := by
  unfold lexB
  by_cases e : x.1 = y.1
  · rw [if_pos e, decide_eq_true_iff]
    omega
  · rw [if_neg e, decide_eq_true_iff]
    omega
theorem lexB_neg (x y z : Nat × Nat) (h : lexB x z = true) : lexB x y = true ∨ lexB y z = true := by
  rw [lexB_iff] at *
  rw [lexB_iff]
  omega
theorem lexB_tr (x y z : Nat × Nat) (h : lexB x y = true) (h' : lexB y z = true) : lexB x z = true := by
  rw [lexB_iff] at *
  omega
theorem lexB_ord (L : List (Addr × (Nat × Nat))) : KS.Ord fun i j => lexB (L.getD i (0, (0, 0))).2 (L.getD j (0, (0, 0))).2 where
  irr := fun a => by unfold lexB; rw [if_pos rfl]; simp
  neg := fun a b c h => lexB_neg _ _ _ h
  tr := fun a b c h h' => lexB_tr _ _ _ h h'
theorem lexB_le {a b : Nat × Nat} (h : lexB b a = false) : Wb.lexLe a b := by
  unfold lexB at h
  unfold Wb.lexLe
  by_cases e : b.1 = a.1
  · rw [if_pos e] at h
    have := of_decide_eq_false h
    right; omega
  · rw [if_neg e] at h
    have := of_decide_eq_false h
    left; omega
/-- the key comparison of two such tuples -/
theorem key_lt {prog : Program} {w : World} {A : Around} {E : Value → Shared → Prop} {s : Shared} {x y : Addr} {a1 a2 b1 b2 : Int} {t1 t2 u1 u2 : Tok} {C : Bool → Shared → Prop}
    (hx : IsTup s.heap x [.int a1 t1, .int a2 t2].toArray) (hy : IsTup s.heap y [.int b1 u1, .int b2 u2].toArray)
    (h : C (if a1 = b1 then decide (a2 < b2) else decide (a1 < b1)) s) : wpAny (model prog w) A (keyLt' (tuples' true) (.ref x) (.ref y)) C E s := by
  obtain ⟨ox, hox, _, nx, dx⟩ := hx
  obtain ⟨oy, hoy, _, ny, dy⟩ := hy
  refine PySem.W.kat_lt hox dx hoy dy ?_
  refine PySem.W.kat_cons (SeqAt.EqAt.int_int a1 t1 b1 u1 prog w _ _ ?_)
  by_cases e1 : a1 = b1
  · rw [if_pos e1] at h
    rw [show (a1 == b1) = true by simpa using e1]
    refine PySem.W.kat_yes (PySem.W.kat_cons (SeqAt.EqAt.int_int a2 t2 b2 u2 prog w _ _ ?_))
    by_cases e2 : a2 = b2
    · rw [show (a2 == b2) = true by simpa using e2]
      refine PySem.W.kat_yes (PySem.W.kat_nil ?_)
      rw [show decide (a2 < b2) = false by simp; omega] at h
      simpa using h
    · rw [show (a2 == b2) = false by simpa using e2]
      refine PySem.W.kat_no (PySem.W.kat_one _ _ ?_)
      exact lt_int h
  · rw [if_neg e1] at h
    rw [show (a1 == b1) = false by simpa using e1]
    exact PySem.W.kat_no (oneLt_int h)
section
variable {X : Cx}
theorem getD_perm {α : Type} {L : List α} {d : α} {π : List Nat} (h : π.Perm (List.range L.length)) : (π.map fun i => L.getD i d).Perm L := by
  have e : (List.range L.length).map (fun i => L.getD i d) = L := by
    apply List.ext_getElem?
    intro i
    rw [List.getElem?_map]
    by_cases hi : i < L.length
    · rw [List.getElem?_eq_getElem (by simpa using hi), List.getElem?_eq_getElem hi]
      simp [hi]
    · rw [List.getElem?_eq_none (by simp; omega), List.getElem?_eq_none (by omega)]; rfl
  have := h.map (fun i => L.getD i d)
  rw [e] at this
  exact this
theorem vals_refs : ∀ {as : List Addr} {us : List Value}, Vals (as.map V.ref) us → us = as.map Value.ref
  | [], _, .nil => rfl
  | a :: as, _, .cons r t => by cases r; rw [vals_refs t]; rfl
theorem refs_vals : ∀ as : List Addr, Vals (as.map V.ref) (as.map Value.ref)
  | [] => .nil
  | a :: as => .cons rfl (refs_vals as)
theorem obj_at {P : Program} {w : World} {H : Hp} {h : Heap} {a : Addr} {o : HO} (x : ObjOk P w H h a o) : ∃ u, h.get? a = some u := by
  induction o with
  | lst xs => obtain ⟨_, _, _, _, e⟩ := x; exact ⟨_, e⟩
  | tup xs => obtain ⟨_, _, _, ob, e, _⟩ := x; exact ⟨_, e⟩
  | dK kvs => obtain ⟨_, _, _, _, ob, _, _, e, _⟩ := x; exact ⟨_, e⟩
  | dT kvs => obtain ⟨_, _, _, _, ob, _, _, e, _⟩ := x; exact ⟨_, e⟩
  | set S n => obtain ⟨ob, _, _, _, e, _⟩ := x; exact ⟨_, e⟩
  | ins C dx fs => obtain ⟨_, _, _, e, _⟩ := x; exact ⟨_, e⟩
  | own y => exact x
  | xd fs => obtain ⟨_, ⟨od, _, _, e, _⟩, _⟩ := x; exact ⟨_, e⟩
  | rng lo hi => obtain ⟨_, _, _, e⟩ := x; exact ⟨_, e⟩
  | frz ob u ih => exact ⟨_, x.1⟩
  | tbl ps => exact ⟨_, x⟩
  | met f y => exact ⟨_, x⟩
  | ext φ => exact x.2.1
theorem pair_tup {pins : List (Addr × Obj)} {σ : St} {H : Hp} {s : Shared} {a : Addr} {k : Nat × Nat} (I : Inv X pins σ H s) (h : H a = some (.tup (pairV k))) :
    ∃ t u, IsTup s.heap a [.int (k.1 : Nat) t, .int (k.2 : Nat) u].toArray := by
  obtain ⟨its, r, p, _⟩ := I.tuple (SqT.of h)
  obtain ⟨u1, u2, rfl, ⟨t, rfl⟩, ⟨u, rfl⟩⟩ := Vals.two r
  exact ⟨t, u, p⟩
/-- sorted(xs), at most 63 pairs of numbers -/
theorem call_sortedP (hu : X.A.units + 64 < cLine) : CallR X (.builtin "sorted") (fun xs H Q => ∃ (p : Addr) (L : List (Addr × (Nat × Nat))), xs = [.ref p] ∧ SqL X.K H p (L.map fun e => V.ref e.1) ∧ Prs H L ∧ L.length < 64 ∧
    ∀ (q : Addr) (M : List (Addr × (Nat × Nat))), H q = none → M.Perm L → (M.map (·.2)).Pairwise Wb.lexLe → Q (.ref q) (upd H q (.lst (M.map fun e => V.ref e.1)))) := by
  intro pins s σ H xs us Q I rv h
  obtain ⟨p, L, rfl, hp, hL, hz, q⟩ := h
  obtain ⟨u, rfl, ru⟩ := rv.one
  cases ru
  obtain ⟨its, r, pl, _⟩ := I.list hp
  have hl := r.length
  rw [List.length_map] at hl
  have hline : 64 ≤ sizeLine := by decide
  have ei : its = L.map fun e => Value.ref e.1 := by
    have := vals_refs (as := L.map (·.1)) (us := its) (by rw [List.map_map]; exact r)
    rw [this, List.map_map]; rfl
  by_cases h2 : L.length < 2
  · refine KS.sorted_short pl.isList (by omega) ?_
    obtain ⟨e, he⟩ := sortedAll_at s.heap its its.toArray
    have fr : H (s.heap.objs.size + 1) = none := I.hok.fresh (Nat.le_succ _)
    refine ⟨.ref (s.heap.objs.size + 1), _, I.laid (t' := s.toks) (fun b o hb => sortedAll_old hb) (Nat.le_succ _) (o := .lst (L.map fun e => V.ref e.1)) ⟨by rw [List.length_map]; omega, its, e, r, he⟩, rfl, q _ L fr (.refl _) ?_⟩
    match L, h2 with
    | [], _ => exact .nil
    | [_], _ => exact List.pairwise_singleton _ _
  · obtain ⟨m, F⟩ := I.fr
    have N := news_all (g := X.base) (h := s.heap) (L := X.env.locals)
    refine PySem.W.kat_sorted F N pl.isList (by omega) (by omega) fun D e1 h' F' N' hD => ?_
    have kept : ∀ b o, b ≠ X.env.locals → s.heap.get? b = some o → h'.get? b = some o := fun b o hb e => by
      cases qb : X.base.get? b with
      | some u =>
        have := I.bk b u qb
        rw [e] at this; cases this
        exact F'.keep b _ qb
      | none => exact (N' (b, o) (List.mem_cons_of_mem _ (mem_allNews hb qb e))).1
    have nL : ∀ b u, H b = some u → b ≠ X.env.locals := fun b u e z => by rw [z, I.free] at e; cases e
    have tupAt : ∀ i, i < L.length → ∃ t u, its.getD i Value.none = .ref (L.getD i (0, (0, 0))).1 ∧ IsTup h' (L.getD i (0, (0, 0))).1 [.int ((L.getD i (0, (0, 0))).2.1 : Nat) t, .int ((L.getD i (0, (0, 0))).2.2 : Nat) u].toArray := fun i hi => by
      have hm : L.getD i (0, (0, 0)) ∈ L := by
        rw [List.getD_eq_getElem?_getD, List.getElem?_eq_getElem hi]; exact List.getElem_mem hi
      obtain ⟨t, u, o, ho, hc, n, hd⟩ := pair_tup I (hL _ hm)
      refine ⟨t, u, ?_, o, kept _ _ (nL _ _ (hL _ hm)) ho, hc, n, hd⟩
      rw [ei, List.getD_eq_getElem?_getD, List.getElem?_map, List.getD_eq_getElem?_getD, List.getElem?_eq_getElem hi]
      rfl
    have tups : PySem.W.KatTups h' its (L.map fun e => Value.int (e.2.1 : Nat) 0) ∨ ∃ fs : List Value, PySem.W.KatTups h' its fs ∧ fs.length = L.length ∧ ∀ v ∈ fs, ∃ i t, v = .int i t := by
      right
      have go : ∀ (M : List (Addr × (Nat × Nat))), (∀ e ∈ M, e ∈ L) → ∃ fs : List Value, PySem.W.KatTups h' (M.map fun e => Value.ref e.1) fs ∧ fs.length = M.length ∧ ∀ v ∈ fs, ∃ i t, v = .int i t := by
        intro M
        induction M with
        | nil => exact fun _ => ⟨[], PySem.W.KatTups.nil, rfl, fun v hv => by cases hv⟩
        | cons e M ih =>
          intro hM
          obtain ⟨fs, a, b, c⟩ := ih fun x hx => hM x (List.mem_cons_of_mem _ hx)
          have he := hL e (hM e List.mem_cons_self)
          obtain ⟨t, u, o, ho, hc, n, hd⟩ := pair_tup I he
          refine ⟨.int (e.2.1 : Nat) t :: fs, PySem.W.KatTups.cons (kept _ _ (nL _ _ he) ho) hc hd rfl a, by simp [b], fun v hv => ?_⟩
          rcases List.mem_cons.mp hv with z | z
          · exact ⟨_, _, z⟩
          · exact c v z
      rw [ei]
      exact go L fun _ h => h
    obtain ⟨fs, kt, kl, ki⟩ := tups.elim (fun z => ⟨_, z, by simp, fun v hv => by obtain ⟨e, _, rfl⟩ := List.mem_map.mp hv; exact ⟨_, _, rfl⟩⟩) id
    refine PySem.W.kat_kind (T := .type "int") kt (by omega) (fun v hv => by obtain ⟨i, t, rfl⟩ := ki v hv; exact .now) (by decide) ?_
    have hb : (Value.type "int" != Value.type "tuple") = true := by decide
    rw [hb]
    have hn : its.length = L.length := by omega
    rw [hn]
    obtain ⟨π, eπ, pp, ps⟩ := KS.sort_ok (lexB_ord L) (n := L.length) (by omega)
    refine KS.wp_in (lt := fun i j => lexB (L.getD i (0, (0, 0))).2 (L.getD j (0, (0, 0))).2) (n := L.length) (fun i j C hi hj hC => ?_) _ (KS.sort_all (by omega)) ?_
    · obtain ⟨t1, t2, g1, k1⟩ := tupAt i hi
      obtain ⟨u1, u2, g2, k2⟩ := tupAt j hj
      unfold PySem.W.kas_ask
      rw [g1, g2]
      refine key_lt k1 k2 ?_
      have e : (if ((L.getD i (0, (0, 0))).2.1 : Int) = ((L.getD j (0, (0, 0))).2.1 : Int) then decide (((L.getD i (0, (0, 0))).2.2 : Int) < ((L.getD j (0, (0, 0))).2.2 : Int)) else decide (((L.getD i (0, (0, 0))).2.1 : Int) < ((L.getD j (0, (0, 0))).2.1 : Int)))
          = lexB (L.getD i (0, (0, 0))).2 (L.getD j (0, (0, 0))).2 := by
        unfold lexB
        simp only [Int.ofNat_inj, Int.ofNat_lt]
      rw [e]
      exact hC
    · show PySem.W.KasFin _ _ _ _ _ _ _ _
      rw [eπ]
      refine PySem.W.KasFin.intro F' N' (.head fun p hp => Nat.ne_of_lt (hD p hp)) fun h2 c F2 N2 => ?_
      have kept2 : ∀ b o, b ≠ X.env.locals → s.heap.get? b = some o → h2.get? b = some o := fun b o hb e => by
        cases qb : X.base.get? b with
        | some u =>
          have := I.bk b u qb
          rw [e] at this; cases this
          exact F2.keep b _ qb
        | none => exact (N2 (b, o) (List.mem_cons_of_mem _ (mem_allNews hb qb e))).1
      obtain ⟨_, hDL, hDb⟩ := N' (D, seqObj "list" #[] e1) List.mem_cons_self
      have hDs : s.heap.get? D = none := by
        cases qd : s.heap.get? D with
        | none => rfl
        | some o => exact absurd (hD (D, o) (mem_allNews hDL hDb qd)) (Nat.lt_irrefl _)
      have hDH : H D = none := by
        cases qd : H D with
        | none => rfl
        | some o => exact absurd hDL (fun _ => by
            obtain ⟨o', ho'⟩ := obj_at (I.hok D o qd)
            rw [hDs] at ho'; cases ho')
      have ns2 : ∀ m', s.heap.Ns X.env.locals m' → h2.Ns X.env.locals m' := fun m' hm' => by
        rw [hm'.eq_nsMap, ← F.ns.eq_nsMap]; exact F2.ns
      have hMl : (π.toList.map fun i => L.getD i (0, (0, 0))).Perm L := getD_perm pp
      have hDo2 := (N2 (D, _) List.mem_cons_self).1
      refine ⟨.ref D, _, I.layNs (t' := s.toks) kept2 ns2 hDs hDH (o := .lst ((π.toList.map fun i => L.getD i (0, (0, 0))).map fun e => V.ref e.1)) ⟨by rw [List.length_map, hMl.length_eq]; omega, (π.toList.map fun i => its.getD i Value.none), c, ?_, hDo2⟩, rfl, q D _ hDH hMl ?_⟩
      · have e : (π.toList.map fun i => its.getD i Value.none) = ((π.toList.map fun i => L.getD i (0, (0, 0))).map (·.1)).map Value.ref := by
          rw [List.map_map, List.map_map]
          refine List.map_congr_left fun i hi => ?_
          obtain ⟨_, _, g, _⟩ := tupAt i (List.mem_range.mp (pp.mem_iff.mp hi))
          exact g
        rw [e, show (fun e : Addr × (Nat × Nat) => V.ref e.1) = V.ref ∘ (·.1) from rfl, ← List.map_map]
        exact refs_vals _
      · rw [List.map_map, List.pairwise_map]
        exact ps.imp fun hle => lexB_le hle
end
end L2

set_option Elab.async false
set_option linter.all false
set_option maxRecDepth 100000
set_option maxHeartbeats 4000000
namespace L2
open PySem
theorem CompOk.of {X : Cx} {scope : Scope} (sc : Scope) (e : X.env.scope = sc) (k : scope.kind = .function) (a : ∀ x ∈ scope.names, x.2 = .local → scope.names.lookup x.1 = some .local) (b : ∀ x ∈ scope.names, x.2 ≠ .cell)
    (c : ∀ x ∈ scope.names, x.2 = .free → sc.names.lookup x.1 = some .cell ∨ sc.names.lookup x.1 = some .free) : CompOk X scope := ⟨k, a, b, fun x hx hf => by rw [← e] at c; exact c x hx hf⟩
theorem for_enum {K : PySem.W.Frag} {a : Addr} {xs : List V} {g : TG} {tb : TS} {D : Ends} {σ : St} {H : Hp} (Pv : Nat → St → Hp → Prop) (h0 : Pv 0 σ H) (hl : ∀ i σ H, i ≤ xs.length → Pv i σ H → SqL K H a xs)
    (hs : ∀ (i : Nat) x t σ H, xs[i]? = some x → H t = none → Pv i σ H → g (.ref t) σ (upd H t (.tup [.int (i : Int), x])) fun σ2 H2 => tb { D with nx := Pv (i + 1), ct := Pv (i + 1), bk := D.nx } σ2 H2) (hd : ∀ σ H, Pv xs.length σ H → D.nx σ H) :
    ∃ W : Nat → Nat → St → Hp → Prop, (∃ m, W 0 m σ H) ∧ ∀ i m σ H, W i m σ H →
      ((Ite K a).stop i H ∧ D.nx σ H) ∨ ((Ite K a).go i H ∧ ∃ N : St → Hp → Prop, (∀ σ' H', N σ' H' → ∃ m', m' < m ∧ W (i + 1) m' σ' H') ∧ ∀ x H', (Ite K a).yld i H x H' → g x σ H' fun σ2 H2 => tb { D with nx := N, ct := N, bk := D.nx } σ2 H2) := by
  refine ⟨fun i m σ H => m = xs.length - i ∧ i ≤ xs.length ∧ Pv i σ H, ⟨xs.length, by simp, Nat.zero_le _, h0⟩, ?_⟩
  rintro i m σ H ⟨rfl, hi, p⟩
  have q := hl i σ H hi p
  by_cases hlt : i < xs.length
  · refine .inr ⟨⟨xs, xs[i], q, by simp [hlt]⟩, Pv (i + 1), fun σ' H' p' => ⟨xs.length - (i + 1), by omega, rfl, hlt, p'⟩, fun x H' y => ?_⟩
    obtain ⟨t, v, rfl, ht, rfl, hv⟩ := y
    exact hs i v t σ H (hv xs q) ht p
  · have e : i = xs.length := by omega
    subst e
    exact .inl ⟨⟨xs, q, Nat.le_refl _⟩, hd σ H p⟩
theorem ix_listK {X : Cx} {K : PySem.W.Frag} (e : X.K = K := by rfl) : IxR X (rIxL K) := by rw [← e]; exact ix_list
theorem ix_tupK {X : Cx} {K : PySem.W.Frag} (e : X.K = K := by rfl) : IxR X (rIxT K) := by rw [← e]; exact ix_tup
theorem op_notInK {X : Cx} {K : PySem.W.Frag} (e : X.K = K := by rfl) : OpR X (compareOp .NotIn) (rIn K true) := by rw [← e]; exact op_notIn_seq
end L2

set_option Elab.async false
set_option linter.all false
set_option maxRecDepth 100000
set_option maxHeartbeats 4000000
namespace K11
open PySem L2
def top (i : Nat) : Stmt := PySem.Challenge.pw_mapdye_k11_web_told_back.main.body.getD i (.Pass ⟨0, 0, 0, 0⟩)
abbrev sCell : Stmt := top 20
abbrev sMixed : Stmt := top 21
abbrev sDigits : Stmt := top 22
abbrev sTake : Stmt := top 23
/-- a def of the text -/
structure Dfn (K : PySem.W.Frag) (mg : Str → Option Value) (x : Str) (st : Stmt) (ps : List Str) where
  f : Addr
  fd : FuncData
  F : Fun K x x st f fd
  b : Binds K fd ps []
  m : mg x = some (.ref f)
theorem same_new {H : Hp} {p : Addr} (h : H p = none) (o : HO) : Same H (upd H p o) := fun b u q => by rw [upd_ne (ne_of_none q h)]; exact q
theorem small {n : Nat} (h : n ≤ 1000) : n ≤ sizeLine := Nat.le_of_lt (small1000 h)
def spCell (K : PySem.W.Frag) : Sp := fun vs H Q _ => ∃ (a : Addr) (ns : List Int) (k : Int), vs = [.ref a, .int k] ∧ SqL K H a (ns.map V.int) ∧ ns.length ≤ 63 ∧ 0 ≤ k ∧ k ≤ 100 ∧ ∀ (v : Int) (H' : Hp), Same H H' → Q (.int v) H'
section
variable {P : Program} {w : World} {K : PySem.W.Frag} {mg : Str → Option Value} {base : Heap}
theorem scCell : FnScope ["_law_script", "_law_k"] ["_law_script", "_law_k"] (defScope sCell) := ⟨rfl, rfl, rfl, by decide +kernel, rfl, by decide +kernel, by decide +kernel⟩
theorem ok_cell (D : Dfn K mg "_law_cell" sCell ["_law_script", "_law_k"]) : FnOk P w K mg base CX0 1 D.f D.fd ["_law_script", "_law_k"] (spCell K) := by
  refine D.F.ok scCell (fun vs H Q E h => ?_) (fun cdv A outer s H vs Q E hr h => ?_)
  · obtain ⟨a, ns, k, rfl, _⟩ := h
    rfl
  obtain ⟨a, ns, k, rfl, hS, h63, h0, h1, q⟩ := h
  refine ⟨_, pss_one (ps_ret (pe_ix ix_list (pe_op op_cat (pe_slice sl_list (pv 0) (po_some (pv 1)) (po_some (pe_op op_add (pv 1) pe_int))) (pe_lst (pa_cons pe_int pa_nil))) pe_int (fun _ _ => rfl))), ?_⟩
  refine ⟨_, rfl, _, rfl, k, rfl, _, rfl, _, _, rfl, rfl, _, rfl, a, _, rfl, hS, fun p hp => ?_⟩
  refine ⟨by show 1 ≤ sizeLine; decide, fun p2 hp2 => ?_⟩
  have ne : p ≠ p2 := ne_of_none (upd_same (H := H) (a := p)) hp2
  have hlen := cutV_length (ns.map V.int) (some k) (some (k + 1))
  rw [List.length_map] at hlen
  refine ⟨p, p2, _, _, rfl, rfl, by rw [upd_ne ne]; exact upd_same, upd_same, small (by show _ + 1 ≤ 1000; omega), fun p3 hp3 => ?_⟩
  have sm : Same H (upd (upd (upd H p (.lst (cutV (ns.map V.int) (some k) (some (k + 1))))) p2 (.lst [.int 0])) p3 (.lst (cutV (ns.map V.int) (some k) (some (k + 1)) ++ [.int 0]))) :=
    (same_new hp _).trans ((same_new hp2 _).trans (same_new hp3 _))
  have hint : ∃ v : Int, atI (cutV (ns.map V.int) (some k) (some (k + 1)) ++ [V.int 0]) 0 = some (.int v) := by
    have : ∀ x ∈ cutV (ns.map V.int) (some k) (some (k + 1)) ++ [V.int 0], ∃ v, x = V.int v := fun x hx => by
      rcases List.mem_append.mp hx with z | z
      · unfold cutV at z
        obtain ⟨v, _, rfl⟩ := List.mem_map.mp (List.mem_of_mem_drop (List.mem_of_mem_take z))
        exact ⟨v, rfl⟩
      · exact ⟨0, by simpa using z⟩
    cases e : cutV (ns.map V.int) (some k) (some (k + 1)) ++ [V.int 0] with
    | nil => simp at e
    | cons x r =>
      obtain ⟨v, rfl⟩ := this x (by rw [e]; exact List.mem_cons_self)
      exact ⟨v, atI_nat (j := 0) rfl⟩
  obtain ⟨v, hv⟩ := hint
  exact ⟨p3, _, 0, .int v, rfl, rfl, SqL.of upd_same, hv, q v _ sm⟩
end
end K11

set_option Elab.async false
set_option linter.all false
set_option maxRecDepth 100000
set_option maxHeartbeats 4000000
namespace K11
open PySem L2
theorem boot_max : bootBuiltins "max" = some (.builtin "max") := by decide +kernel
theorem boot_min : bootBuiltins "min" = some (.builtin "min") := by decide +kernel
def spMixed (K : PySem.W.Frag) : Sp := fun vs H Q _ => ∃ (a : Addr) (ns : List Int) (k : Int), vs = [.ref a, .int k] ∧ SqL K H a (ns.map V.int) ∧ ns.length ≤ 63 ∧ ∀ (v : Int) (H' : Hp), Same H H' → Q (.int v) H'
/-- the built-ins are nobody else's -/
structure Blt (mg : Str → Option Value) : Prop where
  len : mg "len" = none
  range : mg "range" = none
  max : mg "max" = none
  min : mg "min" = none
  enumerate : mg "enumerate" = none
  zip : mg "zip" = none
  sorted : mg "sorted" = none
  all : mg "all" = none
  isinstance : mg "isinstance" = none
  int : mg "int" = none
  bool : mg "bool" = none
  list : mg "list" = none
  tuple : mg "tuple" = none
section
variable {P : Program} {w : World} {K : PySem.W.Frag} {mg : Str → Option Value} {base : Heap}
theorem scMixed : FnScope ["_law_script", "_law_turn", "_law_number", "_law_k", "_law_part"] ["_law_script", "_law_turn"] (defScope sMixed) := ⟨rfl, rfl, rfl, by decide +kernel, rfl, by decide +kernel, by decide +kernel⟩
theorem ok_mixed (B : Blt mg) (C : Dfn K mg "_law_cell" sCell ["_law_script", "_law_k"]) (D : Dfn K mg "_law_mixed" sMixed ["_law_script", "_law_turn"]) : FnOk P w K mg base CX0 2 D.f D.fd ["_law_script", "_law_turn"] (spMixed K) := by
  refine D.F.ok scMixed (fun vs H Q E h => ?_) (fun cdv A outer s H vs Q E hr h => ?_)
  · obtain ⟨a, ns, k, rfl, _⟩ := h
    rfl
  obtain ⟨a, ns, k, rfl, hS, h63, q⟩ := h
  have nd := scMixed.nd
  refine ⟨_, pss_cons (ps_set (i := 2) nd rfl (Or.inl rfl) pe_int)
    (pss_cons (ps_for PassesOwn.never rfl (pi_range1 rfl B.range (pa_cons (pe_callB (call_max2 rfl) rfl B.max boot_max (pa_cons pe_int (pa_cons (pe_callB (call_min2 rfl) rfl B.min boot_min (pa_cons pe_int (pa_cons (pe_callB call_len_seq rfl B.len PySem.boot_len (pa_cons (pv 0) pa_nil)) pa_nil))) pa_nil))) pa_nil)) (pg_name (i := 3) nd rfl (Or.inl rfl))
      (pss_cons (ps_set (i := 4) nd rfl (Or.inl rfl) (pe_op op_mod (pe_op op_mul (pe_op op_add (pe_op op_add (pe_op op_add (pe_op op_mod (pe_call (ok_cell C) hr rfl C.m C.F.kp C.b .nil pass0 (pa_cons (pv 0) (pa_cons (pv 3) pa_nil))) pe_int) (pe_op op_mul pe_int (pv 3))) (pe_op op_mul pe_int (pv 1))) pe_int) pe_int) pe_int))
        (pss_one (ps_set (i := 2) nd rfl (Or.inl rfl) (pe_op op_add (pe_op op_mul (pv 2) pe_int) (pe_op op_mod (pe_op op_mul (pv 4) (pv 4)) pe_int))))))
    (pss_one (ps_ret (pv 2)))), ?_⟩
  refine ⟨_, rfl, a, _, rfl, .inl hS, _, _, rfl, _, _, rfl, _, rfl, ?_⟩
  have hl : (ns.map V.int).length = ns.length := List.length_map _
  rw [hl]
  have hb : (if (if (ns.length : Int) < 63 then (ns.length : Int) else 63) > 12 then (if (ns.length : Int) < 63 then (ns.length : Int) else 63) else 12) ≤ 63 ∧ 0 ≤ (if (if (ns.length : Int) < 63 then (ns.length : Int) else 63) > 12 then (if (ns.length : Int) < 63 then (ns.length : Int) else 63) else (12 : Int)) := by
    repeat' split
    all_goals omega
  generalize (if (if (ns.length : Int) < 63 then (ns.length : Int) else 63) > 12 then (if (ns.length : Int) < 63 then (ns.length : Int) else 63) else (12 : Int)) = n at hb
  refine ⟨by omega, by omega, for_range (fun i σ H' => ∃ num o3 o4, σ = [some (.ref a), some (.int k), some (.int num), o3, o4] ∧ Same H H') ⟨_, _, _, rfl, Same.refl _⟩ (fun i σ H' hi hP => ?_) (fun σ H' hP => ?_)⟩
  · obtain ⟨num, o3, o4, rfl, sm⟩ := hP
    have hz : (0 : Int) + (i : Int) = (i : Int) := by omega
    refine ⟨_, rfl, _, rfl, a, ns, _, rfl, sm.seq hS, h63, by omega, by omega, fun v H2 sm2 => ?_⟩
    refine ⟨_, _, rfl, rfl, (by show (0 : Int) < 2147483647; decide), ?_⟩
    refine ⟨_, rfl, _, _, rfl, rfl, .inl ⟨by decide, by decide⟩, _, _, rfl, rfl, ?_⟩
    refine ⟨_, rfl, _, _, rfl, rfl, .inl ⟨by decide, by decide⟩, _, _, rfl, rfl, _, _, rfl, rfl, ?_⟩
    refine ⟨_, _, rfl, rfl, .inr ⟨by decide, by decide⟩, _, _, rfl, rfl, (by show (0 : Int) < 2147483647; decide), ?_⟩
    generalize hpart : ((v % 2147483647 + 40692 * (0 + (i : Int)) + 7 * k + 1) * 48271) % 2147483647 = part
    have p0 : 0 ≤ part := by rw [← hpart]; exact Int.emod_nonneg _ (by decide)
    have p1 : part < 2147483647 := by rw [← hpart]; exact Int.emod_lt_of_pos _ (by decide)
    refine ⟨_, rfl, _, _, rfl, rfl, .inr ⟨by decide, by decide⟩, ?_⟩
    refine ⟨_, rfl, _, rfl, _, _, rfl, rfl, .inl ⟨by omega, by omega⟩, _, _, rfl, rfl, (by show (0 : Int) < 2147483629; decide), _, _, rfl, rfl, ?_⟩
    exact ⟨_, _, _, rfl, sm.trans sm2⟩
  · obtain ⟨num, o3, o4, rfl, sm⟩ := hP
    exact ⟨_, rfl, q _ _ sm⟩
def spDigits (K : PySem.W.Frag) : Sp := fun vs H Q _ => ∃ (a : Addr) (ns : List Int) (k : Int), vs = [.ref a, .int k] ∧ SqL K H a (ns.map V.int) ∧ ns.length ≤ 63 ∧ 0 ≤ k ∧ k ≤ 100 ∧
  ∀ (r : Addr) (ds : List Int) (H' : Hp), Same H H' → H r = none → H' r = some (.lst (ds.map V.int)) → ds ≠ [] → ds.length ≤ 2 → Q (.ref r) H'
theorem scDigits : FnScope ["_law_script", "_law_at"] ["_law_script", "_law_at"] (defScope sDigits) := ⟨rfl, rfl, rfl, by decide +kernel, rfl, by decide +kernel, by decide +kernel⟩
theorem ok_digits (B : Blt mg) (C : Dfn K mg "_law_cell" sCell ["_law_script", "_law_k"]) (M : Dfn K mg "_law_mixed" sMixed ["_law_script", "_law_turn"]) (D : Dfn K mg "_law_digits" sDigits ["_law_script", "_law_at"]) : FnOk P w K mg base CX0 3 D.f D.fd ["_law_script", "_law_at"] (spDigits K) := by
  refine D.F.ok scDigits (fun vs H Q E h => ?_) (fun cdv A outer s H vs Q E hr h => ?_)
  · obtain ⟨a, ns, k, rfl, _⟩ := h
    rfl
  obtain ⟨a, ns, k, rfl, hS, h63, h0, h1, q⟩ := h
  have gC := (ok_cell (P := P) (w := w) (base := base) C).mono (show 1 ≤ 2 by decide)
  have gM := ok_mixed (P := P) (w := w) (base := base) B C M
  refine ⟨_, pss_cons (ps_if (pt_cmpR op_lt (pe_call gC hr rfl C.m C.F.kp C.b .nil pass0 (pa_cons (pv 0) (pa_cons (pv 1) pa_nil))) (pe_op op_pow pe_int pe_int) (nomark _))
      (pss_one (ps_ret (pe_lst (pa_cons (pe_call gM hr rfl M.m M.F.kp M.b .nil pass0 (pa_cons (pv 0) (pa_cons (pv 1) pa_nil))) pa_nil)))) pss_nil)
    (pss_one (ps_ret (pe_lst (pa_cons (pe_call gC hr rfl C.m C.F.kp C.b .nil pass0 (pa_cons (pv 0) (pa_cons (pv 1) pa_nil))) (pa_cons (pe_call gM hr rfl M.m M.F.kp M.b .nil pass0 (pa_cons (pv 0) (pa_cons (pv 1) pa_nil))) pa_nil))))), ?_⟩
  refine ⟨_, rfl, _, rfl, a, ns, k, rfl, hS, h63, h0, h1, fun v H1 s1 => ?_⟩
  refine ⟨_, _, rfl, rfl, ⟨by decide, by decide, by decide⟩, _, _, rfl, rfl, _, rfl, ?_⟩
  refine ite2 (fun _ => ?_) (fun _ => ?_)
  · refine ⟨_, rfl, _, rfl, a, ns, k, rfl, s1.seq hS, h63, fun v2 H2 s2 => ?_⟩
    refine ⟨by show 1 ≤ sizeLine; decide, fun r hr' => ?_⟩
    have s12 := s1.trans s2
    exact q r [v2] _ (s12.trans (same_new hr' _)) (s12.free hr') upd_same (by simp) (by simp)
  · refine ⟨_, rfl, _, rfl, a, ns, k, rfl, s1.seq hS, h63, h0, h1, fun v2 H2 s2 => ?_⟩
    refine ⟨_, rfl, _, rfl, a, ns, k, rfl, (s1.trans s2).seq hS, h63, fun v3 H3 s3 => ?_⟩
    refine ⟨by show 2 ≤ sizeLine; decide, fun r hr' => ?_⟩
    have s13 := (s1.trans s2).trans s3
    exact q r [v2, v3] _ (s13.trans (same_new hr' _)) (s13.free hr') upd_same (by simp) (by simp)
def spTake : Sp := fun vs H Q _ => ∃ (l : Addr) (ns : List Int) (m : Int), vs = [.ref l, .int m] ∧ H l = some (.lst (ns.map V.int)) ∧ ns ≠ [] ∧ ns.length ≤ 1000 ∧ 0 < m ∧ m < 1073741824 ∧
  ∀ (d : Int) (ds : List Int), 0 ≤ d → d < m → ds ≠ [] → ds.length ≤ ns.length → Q (.int d) (upd H l (.lst (ds.map V.int)))
theorem scTake : FnScope ["_law_left", "_law_many", "_law_digit"] ["_law_left", "_law_many"] (defScope sTake) := ⟨rfl, rfl, rfl, by decide +kernel, rfl, by decide +kernel, by decide +kernel⟩
theorem ok_take (B : Blt mg) (D : Dfn K mg "_law_take" sTake ["_law_left", "_law_many"]) : FnOk P w K mg base CX0 1 D.f D.fd ["_law_left", "_law_many"] spTake := by
  refine D.F.ok scTake (fun vs H Q E h => ?_) (fun cdv A outer s H vs Q E hr h => ?_)
  · obtain ⟨a, ns, k, rfl, _⟩ := h
    rfl
  obtain ⟨l, ns, m, rfl, hl, hne, hz, h0, h1, q⟩ := h
  have nd := scTake.nd
  refine ⟨_, pss_cons (ps_if (PW.pt (pw_and (pt_cmpR op_lt (pe_ix ix_list (pv 0) pe_int (fun _ _ => rfl)) pe_int (nomark _)) (pw_and1 (pt_cmpR op_gt (pe_callB call_len_seq rfl B.len PySem.boot_len (pa_cons (pv 0) pa_nil)) pe_int (nomark _)))))
      (pss_one (ps_expr (pe_bm PySem.F.plainAttrs_list PySem.F.slot_list_pop PySem.F.type_list_pop mt_popAt (pv 0) (pa_cons pe_int pa_nil)))) pss_nil)
    (pss_cons (ps_set (i := 2) nd rfl (Or.inl rfl) (pe_op op_mod (pe_ix ix_list (pv 0) pe_int (fun _ _ => rfl)) (pv 1)))
    (pss_cons (ps_asg (pe_op op_fdiv (pe_ix ix_list (pv 0) pe_int (fun _ _ => rfl)) (pv 1)) (pg_sub (pv 0) pe_int set_list))
    (pss_one (ps_ret (pv 2))))), ?_⟩
  -- the last three statements, from a list that is not empty
  have fin : ∀ (ms : List Int), ms ≠ [] → ms.length ≤ ns.length → ∀ H1, H1 = H ∨ H1 = upd H l (.lst (ms.map V.int)) → H1 l = some (.lst (ms.map V.int)) →
      (tSeq (tAsg (tOp (rI (fun _ j => 0 < j) fun i j => V.int (i % j)) (tOp (rIxL K) (tVar 0) (tC (.int 0))) (tVar 1)) (gName 2)) (tSeq (tAsg (tOp (rI CDiv fun i j => V.int (i / j)) (tOp (rIxL K) (tVar 0) (tC (.int 0))) (tVar 1)) (gSub (tVar 0) (tC (.int 0)) rSetL)) (tRet (tVar 2))))
        { nx := fun _ H' => Q .non H', rt := Q } (start ["_law_left", "_law_many", "_law_digit"] [.ref l, .int m]) H1 := by
    intro ms hms hml H1 hH1 e1
    obtain ⟨x, r, rfl⟩ : ∃ x r, ms = x :: r := by
      cases ms with
      | nil => exact absurd rfl hms
      | cons x r => exact ⟨x, r, rfl⟩
    refine ⟨_, rfl, l, _, 0, .int x, rfl, rfl, SqL.of e1, atI_nat (j := 0) rfl, _, rfl, _, _, rfl, rfl, h0, ?_⟩
    refine ⟨_, rfl, l, _, 0, .int x, rfl, rfl, SqL.of e1, atI_nat (j := 0) rfl, _, rfl, _, _, rfl, rfl, ⟨h0, h1⟩, ?_⟩
    refine ⟨_, rfl, l, _, 0, 0, rfl, rfl, e1, ?_, ?_⟩
    · show ixN (r.length + 1 |> fun n => ((x :: r).map V.int).length) 0 = some 0
      unfold ixN
      rw [if_pos (by decide), if_pos (by simp)]
      rfl
    · refine ⟨_, rfl, ?_⟩
      have e2 : upd H1 l (.lst (((x :: r).map V.int).set 0 (.int (x / m)))) = upd H l (.lst (((x / m) :: r).map V.int)) := by
        rcases hH1 with z | z
        · rw [z]; rfl
        · rw [z, upd_upd]; rfl
      rw [e2]
      exact q (x % m) ((x / m) :: r) (Int.emod_nonneg _ (by omega)) (Int.emod_lt_of_pos _ h0) (by simp) (by simpa using hml)
  obtain ⟨x, r, rfl⟩ : ∃ x r, ns = x :: r := by
    cases ns with
    | nil => exact absurd rfl hne
    | cons x r => exact ⟨x, r, rfl⟩
  refine ⟨_, rfl, l, _, 0, .int x, rfl, rfl, SqL.of hl, atI_nat (j := 0) rfl, _, _, rfl, rfl, _, rfl, ?_⟩
  refine ite2 (fun _ => ?_) (fun _ => ?_)
  · refine ⟨_, rfl, l, _, rfl, .inl (SqL.of hl), _, _, rfl, rfl, _, rfl, ?_⟩
    refine ite2 (fun c => ?_) (fun _ => ?_)
    · have c' := of_decide_eq_true c
      have hr2 : r ≠ [] := by
        intro z; subst z
        simp at c'
      refine ⟨_, rfl, .inl ⟨rfl, _, SqL.of hl⟩, l, _, 0, 0, .int x, rfl, rfl, hl, by decide, by decide, ?_, rfl, ?_⟩
      · simp [seqIndex?]
      · exact fin r hr2 (by simp) _ (.inr rfl) upd_same
    · exact fin (x :: r) (by simp) (Nat.le_refl _) _ (.inl rfl) hl
  · exact iteF (fin (x :: r) (by simp) (Nat.le_refl _) _ (.inl rfl) hl)
end
end K11

set_option Elab.async false
set_option linter.all false
set_option maxRecDepth 100000
set_option maxHeartbeats 4000000
namespace K11
open PySem L2 Wb
abbrev sTree : Stmt := top 24
def rowV (r : List Nat) : List V := r.map fun (n : Nat) => V.int (n : Int)
/-- nothing but what is new and what stands in S is changed -/
def Off (S : List Addr) (H H' : Hp) : Prop := ∀ b o, b ∉ S → H b = some o → H' b = some o
theorem Off.trans {S : List Addr} {H H1 H2 : Hp} (a : Off S H H1) (b : Off S H1 H2) : Off S H H2 := fun c o hc h => b c o hc (a c o hc h)
theorem Off.of_same {S : List Addr} {H H' : Hp} (h : Same H H') : Off S H H' := fun b o _ e => h b o e
theorem Off.put {S : List Addr} {H : Hp} {a : Addr} {o : HO} (h : a ∈ S ∨ H a = none) : Off S H (upd H a o) := fun b u hb e => by
  rw [upd_ne (fun z => ?_)]
  · exact e
  · rcases h with h | h
    · rw [z] at hb; exact hb h
    · rw [z, h] at e; cases e
/-- a web of lists -/
structure RowsAt (H : Hp) (T : Addr) (as : List Addr) (w : W) : Prop where
  top : H T = some (.lst (as.map V.ref))
  nod : as.Nodup
  nT : T ∉ as
  len : as.length = w.length
  row : ∀ (i : Nat) a, as[i]? = some a → H a = some (.lst (rowV (Wb.row w i)))
theorem RowsAt.keep {H H' : Hp} {T : Addr} {as : List Addr} {w : W} (R : RowsAt H T as w) (h : ∀ b, b = T ∨ b ∈ as → H' b = H b) : RowsAt H' T as w :=
  ⟨by rw [h T (.inl rfl)]; exact R.top, R.nod, R.nT, R.len, fun i a e => by rw [h a (.inr (List.mem_of_getElem? e))]; exact R.row i a e⟩
theorem RowsAt.off {S : List Addr} {H H' : Hp} {T : Addr} {as : List Addr} {w : W} (R : RowsAt H T as w) (h : Off S H H') (hT : T ∉ S) (ha : ∀ a ∈ as, a ∉ S) : RowsAt H' T as w :=
  ⟨h _ _ hT R.top, R.nod, R.nT, R.len, fun i a e => h _ _ (ha a (List.mem_of_getElem? e)) (R.row i a e)⟩
theorem RowsAt.at {H : Hp} {T : Addr} {as : List Addr} {w : W} (R : RowsAt H T as w) {p : Nat} (hp : p < w.length) : ∃ a, as[p]? = some a ∧ H a = some (.lst (rowV (Wb.row w p))) := by
  have : p < as.length := by rw [R.len]; exact hp
  exact ⟨_, List.getElem?_eq_getElem this, R.row p _ (List.getElem?_eq_getElem this)⟩
theorem get_inj {α : Type} {l : List α} (h : l.Nodup) {i j : Nat} {a : α} (h1 : l[i]? = some a) (h2 : l[j]? = some a) : i = j := by
  obtain ⟨a1, b1⟩ := List.getElem?_eq_some_iff.mp h1
  obtain ⟨a2, b2⟩ := List.getElem?_eq_some_iff.mp h2
  exact (List.getElem_inj h).mp (b1.trans b2.symm)
theorem RowsAt.put {H H' : Hp} {T : Addr} {as : List Addr} {w : W} (R : RowsAt H T as w) {p : Nat} {a : Addr} {r : List Nat} (ha : as[p]? = some a) (h : ∀ b, b = T ∨ b ∈ as → b ≠ a → H' b = H b) (e : H' a = some (.lst (rowV r))) : RowsAt H' T as (w.set p r) := by
  have hp : p < w.length := by rw [← R.len]; exact (List.getElem?_eq_some_iff.mp ha).1
  have am := List.mem_of_getElem? ha
  refine ⟨by rw [h T (.inl rfl) (fun z => R.nT (by rw [z]; exact am))]; exact R.top, R.nod, R.nT, by rw [R.len, List.length_set], fun i b hb => ?_⟩
  rw [row_set hp]
  by_cases hi : p = i
  · subst hi
    rw [ha] at hb; cases hb
    rw [if_pos rfl]; exact e
  · rw [if_neg hi, h b (.inr (List.mem_of_getElem? hb)) (fun z => hi (get_inj R.nod ha (by rw [← z]; exact hb)))]
    exact R.row i b hb
theorem RowsAt.snoc {H H' : Hp} {T : Addr} {as : List Addr} {w : W} (R : RowsAt H T as w) {a : Addr} {r : List Nat} (na : a ∉ as) (nT : a ≠ T) (h : ∀ b, b ∈ as → H' b = H b) (eT : H' T = some (.lst ((as ++ [a]).map V.ref))) (e : H' a = some (.lst (rowV r))) : RowsAt H' T (as ++ [a]) (w ++ [r]) := by
  refine ⟨eT, ?_, fun z => ?_, by simp [R.len], fun i b hb => ?_⟩
  · rw [List.nodup_append]
    exact ⟨R.nod, by simp, fun x hx y hy z => by
      have : y = a := by simpa using hy
      rw [this] at z; rw [z] at hx; exact na hx⟩
  · rcases List.mem_append.mp z with z | z
    · exact R.nT z
    · have z' : T = a := by simpa using z
      exact nT z'.symm
  · rw [row_snoc]
    by_cases hi : i < as.length
    · rw [List.getElem?_append_left hi] at hb
      rw [if_neg (by rw [← R.len]; omega), h b (List.mem_of_getElem? hb)]
      exact R.row i b hb
    · have hi' : i = as.length := by
        have := (List.getElem?_eq_some_iff.mp hb).1
        simp at this; omega
      subst hi'
      rw [List.getElem?_append_right (Nat.le_refl _)] at hb
      simp at hb
      rw [if_pos R.len, ← hb]; exact e
theorem rowV_len (r : List Nat) : (rowV r).length = r.length := List.length_map _
theorem rowV_ins (r : List Nat) (i n : Nat) : rowV (ins r i n) = ins (rowV r) i (.int (n : Int)) := ins_map _ _ _ _
def spTree : Sp := fun vs H Q _ => ∃ (l : Addr) (ns : List Int) (m : Nat), vs = [.int (m : Int), .ref l] ∧ H l = some (.lst (ns.map V.int)) ∧ ns ≠ [] ∧ ns.length ≤ 2 ∧ 1 ≤ m ∧ m ≤ 14 ∧
  ∀ (T : Addr) (as : List Addr) (w : W) (ds : List Int) (H' : Hp), Off [l] H H' → H T = none → (∀ a ∈ as, H a = none) → RowsAt H' T as w → Good w → w.length = m → H' l = some (.lst (ds.map V.int)) → ds ≠ [] → ds.length ≤ 2 → deg w + 2 = 2 * m → Q (.ref T) H'
section
variable {P : Program} {w : World} {K : PySem.W.Frag} {mg : Str → Option Value} {base : Heap}
theorem scTree : FnScope ["_law_many", "_law_left", "_law_turns", "_law_new", "_law_p"] ["_law_many", "_law_left"] (defScope sTree) := ⟨rfl, rfl, rfl, by decide +kernel, rfl, by decide +kernel, by decide +kernel⟩
theorem ok_tree (B : Blt mg) (Tk : Dfn K mg "_law_take" sTake ["_law_left", "_law_many"]) (D : Dfn K mg "_law_tree" sTree ["_law_many", "_law_left"]) : FnOk P w K mg base CX0 2 D.f D.fd ["_law_many", "_law_left"] spTree := by
  refine D.F.ok scTree (fun vs H Q E h => ?_) (fun cdv A outer s H vs Q E hr h => ?_)
  · obtain ⟨a, ns, k, rfl, _⟩ := h
    rfl
  obtain ⟨l, ns, m, rfl, hl, hne, hz, h1, h14, q⟩ := h
  have nd := scTree.nd
  have gT := ok_take (P := P) (w := w) (base := base) B Tk
  refine ⟨_, pss_cons (ps_set (i := 2) nd rfl (Or.inl rfl) (pe_lst (pa_cons (pe_lst pa_nil) pa_nil)))
    (pss_cons (ps_for PassesOwn.never rfl (pi_range2 rfl B.range (pa_cons pe_int (pa_cons (pv 0) pa_nil))) (pg_name (i := 3) nd rfl (Or.inl rfl))
      (pss_cons (ps_set (i := 4) nd rfl (Or.inl rfl) (pe_call gT hr rfl Tk.m Tk.F.kp Tk.b .nil pass0 (pa_cons (pv 1) (pa_cons (pv 3) pa_nil))))
      (pss_cons (ps_expr (pe_bm PySem.F.plainAttrs_list PySem.F.slot_list_insert PySem.F.type_list_insert mt_insert (pe_ix ix_list (pv 2) (pv 4) (fun _ _ => rfl))
          (pa_cons (pe_call gT hr rfl Tk.m Tk.F.kp Tk.b .nil pass0 (pa_cons (pv 1) (pa_cons (pe_op op_add (pe_callB call_len_seq rfl B.len PySem.boot_len (pa_cons (pe_ix ix_list (pv 2) (pv 4) (fun _ _ => rfl)) pa_nil)) pe_int) pa_nil))) (pa_cons (pv 3) pa_nil))))
      (pss_one (ps_expr (pe_bm PySem.F.plainAttrs_list PySem.F.slot_list_append PySem.F.type_list_append mt_append (pv 2) (pa_cons (pe_lst (pa_cons (pv 4) pa_nil)) pa_nil)))))))
    (pss_one (ps_ret (pv 2)))), ?_⟩
  refine ⟨by show 0 ≤ sizeLine; decide, fun r0 hr0 => ⟨by show 1 ≤ sizeLine; decide, fun T hT => ?_⟩⟩
  have nT0 : T ≠ r0 := fun z => by rw [z, upd_same] at hT; cases hT
  have hT' : H T = none := by rw [upd_ne nT0] at hT; exact hT
  have nlT : l ≠ T := ne_of_none hl hT'
  have nl0 : l ≠ r0 := ne_of_none hl hr0
  refine ⟨_, rfl, 1, (m : Int), rfl, ⟨by decide, by decide, by omega, by omega⟩, ?_⟩
  refine for_range (fun i σ H' => ∃ as w ds o3 o4, σ = [some (.int (m : Int)), some (.ref l), some (.ref T), o3, o4] ∧ Off [l] H H' ∧ (∀ a ∈ as, H a = none) ∧ RowsAt H' T as w ∧ Good w ∧ w.length = i + 1 ∧ H' l = some (.lst (ds.map V.int)) ∧ ds ≠ [] ∧ ds.length ≤ 2 ∧ deg w = 2 * i) ?_ (fun i σ H' hi hP => ?_) (fun σ H' hP => ?_)
  · refine ⟨[r0], [[]], ns, _, _, rfl, (Off.put (.inr hr0)).trans (Off.put (.inr hT)), fun a ha => ?_, ⟨upd_same, by simp, by simpa using nT0, rfl, fun i a e => ?_⟩, good_one, rfl, ?_, hne, hz, rfl⟩
    · have : a = r0 := by simpa using ha
      rw [this]; exact hr0
    · cases i with
      | zero =>
        have : a = r0 := by simpa using e.symm
        rw [this, upd_ne (Ne.symm nT0), upd_same]; rfl
      | succ i => simp at e
    · rw [upd_ne nlT, upd_ne nl0]; exact hl
  · obtain ⟨as, w', ds, o3, o4, rfl, off, fr, R, g, hlen, hl', hne', hz', hdg⟩ := hP
    have hlas : l ∉ as := fun z => by have := fr l z; rw [hl] at this; cases this
    refine ⟨_, rfl, _, rfl, l, ds, _, rfl, hl', hne', by omega, by omega, by omega, fun d ds1 d0 d1 hne1 hz1 => ?_⟩
    have R1 : RowsAt (upd H' l (.lst (ds1.map V.int))) T as w' := R.keep fun b hb => by
      refine upd_ne fun z => ?_
      rcases hb with hb | hb
      · exact nlT (z.symm.trans hb)
      · rw [z] at hb; exact hlas hb
    obtain ⟨p, rfl⟩ := Int.eq_ofNat_of_zero_le d0
    have hp : p < w'.length := by omega
    obtain ⟨a, ha, hrow⟩ := R1.at hp
    have nla : l ≠ a := fun z => hlas (by rw [z]; exact List.mem_of_getElem? ha)
    have at1 : atI (as.map V.ref) ((p : Nat) : Int) = some (.ref a) := atI_nat (by rw [List.getElem?_map, ha]; rfl)
    refine ⟨_, rfl, _, rfl, T, _, _, _, rfl, rfl, SqL.of R1.top, at1, .inl ⟨rfl, _, SqL.of hrow⟩, ?_⟩
    refine ⟨_, rfl, _, rfl, _, rfl, T, _, _, _, rfl, rfl, SqL.of R1.top, at1, a, _, rfl, .inl (SqL.of hrow), _, _, rfl, rfl, ?_⟩
    have rl := row_len g p
    rw [rowV_len]
    refine ⟨l, ds1, _, rfl, upd_same, hne1, by omega, by omega, by omega, fun d2 ds2 e0 e1 hne2 hz2 => ?_⟩
    rw [upd_upd]
    have R2 : RowsAt (upd H' l (.lst (ds2.map V.int))) T as w' := R.keep fun b hb => by
      refine upd_ne fun z => ?_
      rcases hb with hb | hb
      · exact nlT (z.symm.trans hb)
      · rw [z] at hb; exact hlas hb
    have hrow2 := R2.row p a ha
    refine ⟨_, rfl, a, _, d2, _, rfl, rfl, hrow2, e0, by rw [rowV_len]; omega, Nat.lt_of_le_of_lt (by rw [rowV_len]; exact rl) (small1000 (by omega)), ?_⟩
    obtain ⟨j, rfl⟩ := Int.eq_ofNat_of_zero_le e0
    have ew : (1 : Int) + (i : Int) = ((w'.length : Nat) : Int) := by omega
    rw [ew, Int.toNat_natCast, ← rowV_ins]
    have R3 : RowsAt (upd (upd H' l (.lst (ds2.map V.int))) a (.lst (rowV (ins (row w' p) j w'.length)))) T as (w'.set p (ins (row w' p) j w'.length)) := R2.put ha (fun b _ hb => upd_ne hb) upd_same
    refine ⟨_, rfl, .inl ⟨rfl, _, SqL.of R3.top⟩, _, rfl, by show 1 ≤ sizeLine; decide, fun r hr' => ?_⟩
    have nrT : r ≠ T := Ne.symm (ne_of_none R3.top hr')
    have nras : r ∉ as := fun z => by
      obtain ⟨k, hk⟩ := List.getElem?_of_mem z
      have := R3.row k r hk
      rw [hr'] at this; cases this
    have nrl : r ≠ l := fun z => by
      rw [z, upd_ne nla, upd_same] at hr'; cases hr'
    refine ⟨T, _, .ref r, rfl, rfl, by rw [upd_ne (Ne.symm nrT)]; exact R3.top, Nat.lt_of_le_of_lt (by rw [List.length_map, R3.len, List.length_set]; exact Nat.le_refl _) (small1000 (by omega)), ?_⟩
    have hra : H r = none := by
      cases e : H r with
      | none => rfl
      | some o =>
        have := off r o (by simpa using nrl) e
        rw [upd_ne (fun z => nras (by rw [z]; exact List.mem_of_getElem? ha)), upd_ne nrl] at hr'
        rw [hr'] at this; cases this
    have haH : H a = none := fr a (List.mem_of_getElem? ha)
    refine ⟨as ++ [r], leaf w' p j, ds2, _, _, rfl, ?_, fun b hb => ?_, ?_, good_leaf g hp, by rw [leaf_len]; omega, ?_, hne2, by omega, by rw [deg_leaf hp]; omega⟩
    · intro b o hb e
      have hbl : b ≠ l := by simpa using hb
      rw [upd_ne (fun z => by rw [z, hT'] at e; cases e), upd_ne (fun z => by rw [z, hra] at e; cases e), upd_ne (fun z => by rw [z, haH] at e; cases e), upd_ne hbl]
      exact off b o hb e
    · rcases List.mem_append.mp hb with z | z
      · exact fr b z
      · have : b = r := by simpa using z
        rw [this]; exact hra
    · refine R3.snoc (r := [p]) nras nrT (fun b hb => ?_) ?_ ?_
      · rw [upd_ne (fun z => R3.nT (by rw [← z]; exact hb)), upd_ne (fun z => nras (by rw [← z]; exact hb))]
      · rw [upd_same, List.map_append]; rfl
      · rw [upd_ne nrT, upd_same]; rfl
    · rw [upd_ne nlT, upd_ne (Ne.symm nrl), upd_ne nla, upd_same]
  · obtain ⟨as, w', ds, o3, o4, rfl, off, fr, R, g, hlen, hl', hne', hz', hdg⟩ := hP
    exact ⟨_, rfl, q T as w' ds H' off hT' fr R g (by omega) hl' hne' hz' (by omega)⟩
end
end K11

set_option Elab.async false
set_option linter.all false
set_option maxRecDepth 100000
set_option maxHeartbeats 4000000
namespace K11
open PySem L2 Wb
abbrev sNext : Stmt := top 25
abbrev sRound : Stmt := top 26
theorem rowV_get {r : List Nat} {i n : Nat} (h : r[i]? = some n) : (rowV r)[i]? = some (.int (n : Int)) := by unfold rowV; rw [List.getElem?_map, h]; rfl
theorem rowV_flat (r : List Nat) : (rowV r).all flatV = true := by
  rw [List.all_eq_true]
  intro x hx
  obtain ⟨n, _, rfl⟩ := List.mem_map.mp hx
  rfl
theorem rowV_inv {r : List Nat} {i : Nat} {z : V} (h : (rowV r)[i]? = some z) : ∃ n, r[i]? = some n ∧ z = .int (n : Int) := by
  unfold rowV at h
  rw [List.getElem?_map] at h
  cases e : r[i]? with
  | none => rw [e] at h; cases h
  | some n => rw [e] at h; cases h; exact ⟨n, rfl, rfl⟩
theorem idx_get {r : List Nat} {p : Nat} (h : p ∈ r) : r[r.idxOf p]? = some p := by
  have lt := List.idxOf_lt_length_iff.mpr h
  rw [List.getElem?_eq_getElem lt, List.getElem_idxOf lt]
theorem idx_no {r : List Nat} (nd : r.Nodup) {p m n : Nat} (h : p ∈ r) (hm : m < r.idxOf p) (e : r[m]? = some n) : n ≠ p := fun z => by
  rw [z] at e
  have := get_inj nd e (idx_get h)
  omega
theorem eqV_self (p : Nat) : eqV (.int (p : Int)) (.int (p : Int)) = true := by simp [eqV]
theorem no_before {r : List Nat} (nd : r.Nodup) {p : Nat} (h : p ∈ r) (m : Nat) (z : V) (hm : m < r.idxOf p) (hz : (rowV r)[m]? = some z) : eqV z (.int (p : Int)) = false := by
  obtain ⟨n, hn, rfl⟩ := rowV_inv hz
  have := idx_no nd h hm hn
  simp [eqV]; omega
def spNext : Sp := fun vs H Q _ => ∃ (T sd : Addr) (as : List Addr) (w : W) (d : Nat × Nat), vs = [.ref T, .ref sd] ∧ RowsAt H T as w ∧ Good w ∧ w.length ≤ 14 ∧ H sd = some (.tup (pairV d)) ∧ Dart w d ∧
  ∀ t, H t = none → Q (.ref t) (upd H t (.tup (pairV (nxt w d))))
section
variable {P : Program} {w : World} {K : PySem.W.Frag} {mg : Str → Option Value} {base : Heap}
theorem scNext : FnScope ["_law_turns", "_law_side", "_law_p", "_law_q"] ["_law_turns", "_law_side"] (defScope sNext) := ⟨rfl, rfl, rfl, by decide +kernel, rfl, by decide +kernel, by decide +kernel⟩
theorem ok_next (B : Blt mg) (D : Dfn K mg "_law_next" sNext ["_law_turns", "_law_side"]) : FnOk P w K mg base CX0 1 D.f D.fd ["_law_turns", "_law_side"] spNext := by
  refine D.F.ok scNext (fun vs H Q E h => ?_) (fun cdv A outer s H vs Q E hr h => ?_)
  · obtain ⟨T, sd, as, w, d, rfl, _⟩ := h
    rfl
  obtain ⟨T, sd, as, w', ⟨p, q'⟩, rfl, R, g, h14, hsd, hd, q⟩ := h
  have nd := scNext.nd
  refine ⟨_, pss_cons (ps_asg (pv 1) (pg_tup rfl (pgs_cons (pg_name (i := 2) nd rfl (Or.inl rfl)) (pgs_cons (pg_name (i := 3) nd rfl (Or.inl rfl)) pgs_nil))))
    (pss_one (ps_ret (pe_tup (pa_cons (pv 3) (pa_cons (pe_ix ix_list (pe_ix ix_list (pv 0) (pv 3) (fun _ _ => rfl))
      (pe_op op_mod (pe_op op_add (pe_bm PySem.F.plainAttrs_list PySem.F.slot_list_index PySem.F.type_list_index mt_index (pe_ix ix_list (pv 0) (pv 3) (fun _ _ => rfl)) (pa_cons (pv 2) pa_nil)) pe_int)
        (pe_callB call_len_seq rfl B.len PySem.boot_len (pa_cons (pe_ix ix_list (pv 0) (pv 3) (fun _ _ => rfl)) pa_nil))) (fun _ _ => rfl)) pa_nil))))), ?_⟩
  have hpq : p ∈ row w' q' := g.sym _ _ hd
  have hq : q' < w'.length := g.rng _ _ hd
  obtain ⟨a, ha, hrow⟩ := R.at hq
  have at1 : atI (as.map V.ref) ((q' : Nat) : Int) = some (.ref a) := atI_nat (by rw [List.getElem?_map, ha]; rfl)
  have hlen : 0 < (row w' q').length := List.length_pos_of_mem hpq
  refine ⟨_, rfl, sd, _, rfl, SqT.of hsd, rfl, _, _, rfl, _, _, rfl, rfl, ?_⟩
  refine ⟨_, rfl, _, rfl, _, rfl, T, _, _, _, rfl, rfl, SqL.of R.top, at1, ?_⟩
  refine ⟨_, rfl, _, rfl, T, _, _, _, rfl, rfl, SqL.of R.top, at1, .inl ⟨rfl, _, SqL.of hrow⟩, _, rfl, ?_⟩
  refine ⟨a, _, _, (row w' q').idxOf p, _, rfl, rfl, hrow, rfl, rowV_flat _, rowV_get (idx_get hpq), eqV_self p, no_before (g.nod _) hpq, ?_⟩
  refine ⟨_, _, rfl, rfl, _, rfl, _, rfl, T, _, _, _, rfl, rfl, SqL.of R.top, at1, a, _, rfl, .inl (SqL.of hrow), _, _, rfl, rfl, ?_⟩
  rw [rowV_len]
  refine ⟨by omega, ?_⟩
  have em : ((((row w' q').idxOf p : Nat) : Int) + 1) % ((row w' q').length : Int) = ((((row w' q').idxOf p + 1) % (row w' q').length : Nat) : Int) := by rw [Int.natCast_emod, Int.natCast_add]; rfl
  have hat : atI (rowV (row w' q')) (((((row w' q').idxOf p : Nat) : Int) + 1) % ((row w' q').length : Int)) = some (.int (succR (row w' q') p : Nat)) := by
    rw [em]; exact atI_nat (rowV_get (succR_get hpq))
  refine ⟨a, _, _, _, rfl, rfl, SqL.of hrow, hat, by show 2 ≤ sizeLine; decide, fun t ht => ?_⟩
  exact q t ht
def spRound : Sp := fun vs H Q _ => ∃ (T sd : Addr) (as : List Addr) (w : W) (d : Nat × Nat), vs = [.ref T, .ref sd] ∧ RowsAt H T as w ∧ Good w ∧ w.length ≤ 14 ∧ H sd = some (.tup (pairV d)) ∧ Dart w d ∧
  ∀ (F : Addr) (L : List (Addr × (Nat × Nat))) (k : Nat) (H' : Hp), Same H H' → H F = none → H' F = some (.lst (L.map fun e => V.ref e.1)) → Prs H' L → L.map (·.2) = walk w d k → 0 < k → itr w k d = d → (∀ j, 0 < j → j < k → itr w j d ≠ d) → Q (.ref F) H'
theorem scRound : FnScope ["_law_turns", "_law_side", "_law_found", "_law_here"] ["_law_turns", "_law_side"] (defScope sRound) := ⟨rfl, rfl, rfl, by decide +kernel, rfl, by decide +kernel, by decide +kernel⟩
theorem dp_pair {K : PySem.W.Frag} {H : Hp} {a : Addr} {d : Nat × Nat} (h : H a = some (.tup (pairV d))) : Dp K H (.ref a) (tupD d) := .tup (SqT.of h) (.cons (.int _) (.cons (.int _) .nil))
theorem ok_round (B : Blt mg) (Nx : Dfn K mg "_law_next" sNext ["_law_turns", "_law_side"]) (D : Dfn K mg "_law_round" sRound ["_law_turns", "_law_side"]) : FnOk P w K mg base CX0 2 D.f D.fd ["_law_turns", "_law_side"] spRound := by
  refine D.F.ok scRound (fun vs H Q E h => ?_) (fun cdv A outer s H vs Q E hr h => ?_)
  · obtain ⟨T, sd, as, w, d, rfl, _⟩ := h
    rfl
  obtain ⟨T, sd, as, w', d, rfl, R, g, h14, hsd, hd, q⟩ := h
  have nd := scRound.nd
  have gN := ok_next (P := P) (w := w) (base := base) B Nx
  refine ⟨_, pss_cons (ps_set (i := 2) nd rfl (Or.inl rfl) (pe_lst (pa_cons (pv 1) pa_nil)))
    (pss_cons (ps_set (i := 3) nd rfl (Or.inl rfl) (pe_call gN hr rfl Nx.m Nx.F.kp Nx.b .nil pass0 (pa_cons (pv 0) (pa_cons (pv 1) pa_nil))))
    (pss_cons (ps_while PassesOwn.never (pt_cmpR (op_neD hr.units) (pv 3) (pv 1) (nomark _))
      (pss_cons (ps_expr (pe_bm PySem.F.plainAttrs_list PySem.F.slot_list_append PySem.F.type_list_append mt_append (pv 2) (pa_cons (pv 3) pa_nil)))
        (pss_one (ps_set (i := 3) nd rfl (Or.inl rfl) (pe_call gN hr rfl Nx.m Nx.F.kp Nx.b .nil pass0 (pa_cons (pv 0) (pa_cons (pv 3) pa_nil)))))))
    (pss_one (ps_ret (pv 2))))), ?_⟩
  refine ⟨_, rfl, by show 1 ≤ sizeLine; decide, fun F hF => ?_⟩
  have s1 : Same H (upd H F (.lst [.ref sd])) := same_new hF _
  have R1 : RowsAt (upd H F (.lst [.ref sd])) T as w' := R.off (S := []) (Off.of_same s1) (by simp) (by simp)
  refine ⟨_, rfl, _, rfl, T, sd, as, w', d, rfl, R1, g, h14, s1 _ _ hsd, hd, fun t ht => ?_⟩
  have dl := darts_len g
  have hw : w'.length * w'.length ≤ 196 := Nat.mul_le_mul h14 h14
  refine while_by (fun σ H' => ∃ (k : Nat) (L : List (Addr × (Nat × Nat))) (t : Addr), σ = [some (.ref T), some (.ref sd), some (.ref F), some (.ref t)] ∧ 0 < k ∧ L.map (·.2) = walk w' d k ∧ (∀ j, 0 < j → j < k → itr w' j d ≠ d) ∧ Same H H' ∧ H' F = some (.lst (L.map fun e => V.ref e.1)) ∧ Prs H' L ∧ H' t = some (.tup (pairV (itr w' k d))))
    (fun σ H' => (darts w').length + 1 - (match H' F with | some (.lst xs) => xs.length | _ => 0)) ?_ (fun σ H' hP => ?_) (fun σ H Q Q' hq h => ?_)
  · have nFt : F ≠ t := fun z => by rw [← z, upd_same] at ht; cases ht
    have nsF : sd ≠ F := ne_of_none hsd hF
    refine ⟨1, [(sd, d)], t, rfl, by omega, rfl, fun j h1 h2 => by omega, s1.trans (same_new ht _), by rw [upd_ne nFt]; exact upd_same, fun e he => ?_, upd_same⟩
    have he' : e = (sd, d) := by simpa using he
    rw [he']
    exact (s1.trans (same_new ht _)) _ _ hsd
  · obtain ⟨k, L, t, rfl, hk, hL, hno, sm, hF', hprs, htt⟩ := hP
    refine ⟨_, rfl, _, rfl, _, _, dp_pair htt, dp_pair (sm _ _ hsd), by have := depth_tupD (itr w' k d); omega, _, rfl, ?_⟩
    refine ite2 (fun c => ?_) (fun c => ?_)
    · have hne : itr w' k d ≠ d := fun z => by
        rw [(eqv_tupD _ _).mpr z] at c; cases c
      have hno' : ∀ j, 0 < j → j < k + 1 → itr w' j d ≠ d := fun j h1 h2 => by
        by_cases hj : j = k
        · rw [hj]; exact hne
        · exact hno j h1 (by omega)
      have hkd := walk_le g hd hno'
      have lL : L.length = k := by have := congrArg List.length hL; rw [List.length_map, walk_len] at this; exact this
      refine ⟨_, rfl, .inl ⟨rfl, _, SqL.of hF'⟩, _, rfl, F, _, .ref t, rfl, rfl, hF', Nat.lt_of_le_of_lt (by rw [List.length_map, lL]; exact Nat.le_refl _) (small1000 (by omega)), ?_⟩
      have nFH : H F = none := hF
      have sm2 : Same H (upd H' F (.lst ((L.map fun e => V.ref e.1) ++ [.ref t]))) := fun b o e => by rw [upd_ne (ne_of_none e hF)]; exact sm b o e
      have R2 : RowsAt (upd H' F (.lst ((L.map fun e => V.ref e.1) ++ [.ref t]))) T as w' := R.off (S := []) (Off.of_same sm2) (by simp) (by simp)
      have ntF : t ≠ F := fun z => by rw [z, hF'] at htt; cases htt
      refine ⟨_, rfl, _, rfl, T, t, as, w', itr w' k d, rfl, R2, g, h14, by rw [upd_ne ntF]; exact htt, itr_dart g hd k, fun t2 ht2 => ?_⟩
      have nt2F : t2 ≠ F := fun z => by rw [z, upd_same] at ht2; cases ht2
      have nt2 : H' t2 = none := by rw [upd_ne nt2F] at ht2; exact ht2
      refine ⟨⟨k + 1, L ++ [(t, itr w' k d)], t2, rfl, by omega, ?_, hno', sm2.trans (same_new ht2 _), ?_, fun e he => ?_, upd_same⟩, ?_⟩
      · rw [List.map_append, hL, walk_succ]; rfl
      · rw [upd_ne (Ne.symm nt2F), upd_same, List.map_append]; rfl
      · rcases List.mem_append.mp he with z | z
        · have he1 := hprs e z
          rw [upd_ne (ne_of_none he1 nt2), upd_ne (fun y => by rw [y, hF'] at he1; cases he1)]
          exact he1
        · have z' : e = (t, itr w' k d) := by simpa using z
          rw [z']
          show upd _ t2 _ t = _
          rw [upd_ne (ne_of_none htt nt2), upd_ne ntF]
          exact htt
      · show (darts w').length + 1 - _ < (darts w').length + 1 - _
        rw [upd_ne (Ne.symm nt2F), upd_same, hF']
        simp only [List.length_append, List.length_map, List.length_singleton]
        omega
    · have heq : itr w' k d = d := by
        apply Classical.byContradiction
        intro z
        apply c
        have : PyData.eqv (tupD (itr w' k d)) (tupD d) = false := by
          cases y : PyData.eqv (tupD (itr w' k d)) (tupD d) with
          | false => rfl
          | true => exact absurd ((eqv_tupD _ _).mp y) z
        rw [this]; rfl
      exact ⟨_, rfl, q F L k H' sm hF hF' hprs hL hk heq hno⟩
  · obtain ⟨v1, e1, v2, e2, d', e', a, b, c, k, ek, q⟩ := h
    exact ⟨v1, e1, v2, e2, d', e', a, b, c, k, ek, hq _ _ q⟩
end
end K11

set_option Elab.async false
set_option linter.all false
set_option maxRecDepth 100000
set_option maxHeartbeats 4000000
namespace L2
open PySem
theorem dp_prs {K : PySem.W.Frag} {H : Hp} : ∀ {M : List (Addr × (Nat × Nat))}, Prs H M → DpAll K H (M.map fun e => V.ref e.1) (M.map fun e => tupD e.2)
  | [], _ => .nil
  | e :: M, h => .cons (.tup (SqT.of (h e List.mem_cons_self)) (.cons (.int _) (.cons (.int _) .nil))) (dp_prs fun x hx => h x (List.mem_cons_of_mem _ hx))
end L2
namespace K11
open PySem L2 Wb
theorem gYes {i : Nat} {x : V} {σ : St} {H : Hp} {P R : St → Hp → Prop} (h : P (σ.set i (some x)) H) : gName i x σ H (fun σ4 H4 => tYes σ4 H4 (fun b H5 => if b = true then P σ4 H5 else R σ4 H5)) := by
  show (if true = true then P (σ.set i (some x)) H else R (σ.set i (some x)) H)
  rw [if_pos rfl]; exact h
abbrev sTie : Stmt := top 27
theorem row_ne {w : W} (g : Good w) (h2 : 2 ≤ w.length) {p : Nat} (hp : p < w.length) : row w p ≠ [] := by
  intro z
  have hq : ∃ q, q < w.length ∧ q ≠ p := by
    by_cases h : p = 0
    · exact ⟨1, by omega, by omega⟩
    · exact ⟨0, by omega, fun y => h y.symm⟩
  obtain ⟨q, hq, ne⟩ := hq
  have r := ((g.con p hp).symm g.sym).trans (g.con q hq)
  have : ∀ {a b}, Reach w a b → a = p → b = p := fun {a b} h => by
    induction h with
    | refl => exact id
    | step _ hr ih =>
      intro e
      have := ih e
      rw [this, z] at hr; cases hr
  exact ne (this r rfl)
/-- sides: tuples in a new list -/
structure Sides (H : Hp) (w : W) (S : Addr) (L : List (Addr × (Nat × Nat))) : Prop where
  at' : H S = some (.lst (L.map fun e => V.ref e.1))
  prs : Prs H L
  dart : ∀ e ∈ L, Dart w e.2
  few : L.length ≤ 196
def spTie : Sp := fun vs H Q _ => ∃ (T l : Addr) (b : Bool) (as : List Addr) (w : W) (ns : List Int), vs = [.ref T, .ref l, .bl b] ∧ RowsAt H T as w ∧ Good w ∧ 2 ≤ w.length ∧ w.length ≤ 14 ∧ H l = some (.lst (ns.map V.int)) ∧ ns ≠ [] ∧ ns.length ≤ 2 ∧ l ≠ T ∧ l ∉ as ∧
  ∀ (w' : W) (ds : List Int) (H' : Hp), Off (l :: as) H H' → RowsAt H' T as w' → Good w' → w'.length = w.length → H' l = some (.lst (ds.map V.int)) → ds ≠ [] → ds.length ≤ 2 → deg w' ≤ deg w + 2 → Q .non H'
section
variable {P : Program} {w : World} {K : PySem.W.Frag} {mg : Str → Option Value} {base : Heap}
theorem scTie : FnScope ["_law_turns", "_law_left", "_law_plane", "_law_p", "_law_r", "_law_sides", "_law_q", "_law_turn", "_law_u", "_law_v"] ["_law_turns", "_law_left", "_law_plane"] (defScope sTie) := ⟨rfl, rfl, rfl, by decide +kernel, rfl, by decide +kernel, by decide +kernel⟩
theorem ok_tie (B : Blt mg) (Tk : Dfn K mg "_law_take" sTake ["_law_left", "_law_many"]) (Nx : Dfn K mg "_law_next" sNext ["_law_turns", "_law_side"]) (Rd : Dfn K mg "_law_round" sRound ["_law_turns", "_law_side"])
    (D : Dfn K mg "_law_tie" sTie ["_law_turns", "_law_left", "_law_plane"]) : FnOk P w K mg base CX0 3 D.f D.fd ["_law_turns", "_law_left", "_law_plane"] spTie := by
  refine D.F.ok scTie (fun vs H Q E h => ?_) (fun cdv A outer s H vs Q E hr h => ?_)
  · obtain ⟨T, l, b, as, w, ns, rfl, _⟩ := h
    rfl
  obtain ⟨T, l, b, as, w', ns, rfl, R, g, h2, h14, hl, hne, hz, nlT, hlas, q⟩ := h
  have nd := scTie.nd
  have gT := (ok_take (P := P) (w := w) (base := base) B Tk).mono (show 1 ≤ 2 by decide)
  have gR := ok_round (P := P) (w := w) (base := base) B Nx Rd
  have hw196 : w'.length * w'.length ≤ 196 := Nat.mul_le_mul h14 h14
  have nd2 : (["_law_side", "_law_p", "_law_turns"] : List Str).Nodup := by decide +kernel
  -- the last two statements
  obtain ⟨tE, pE, rE⟩ : ∃ t, PSs (cxOf CX0 P w K mg base ["_law_turns", "_law_left", "_law_plane", "_law_p", "_law_r", "_law_sides", "_law_q", "_law_turn", "_law_u", "_law_v"] "_law_tie" (defScope sTie) D.f cdv A outer s H E).nox ((defBody sTie).drop 4) t ∧
      ∀ (p r : Nat) (S : Addr) (L : List (Addr × (Nat × Nat))) (ds : List Int) (o6 o7 : Option V) (H1 : Hp), Off (l :: as) H H1 → RowsAt H1 T as w' → p < w'.length → r ∈ row w' p → Sides H1 w' S L → H1 l = some (.lst (ds.map V.int)) → ds ≠ [] → ds.length ≤ 2 → S ≠ l → S ≠ T → S ∉ as →
        t { nx := fun _ H' => Q .non H', rt := Q } [some (.ref T), some (.ref l), some (.bl b), some (.int (p : Int)), some (.int (r : Int)), some (.ref S), o6, o7, none, none] H1 := by
    refine ⟨_, pss_cons (ps_setlc (i := 5) (NC := ["_law_side", "_law_p", "_law_turns"]) (src := [none, some 3, some 0]) rfl nd rfl (Or.inl rfl) (CompOk.of (defScope sTie) rfl rfl (by decide +kernel) (by decide +kernel) (by decide +kernel)) ⟨rfl, rfl, rfl, rfl, trivial⟩ (pi_list (pv 5))
        (fun _ _ _ => pg_name (i := 0) nd2 rfl (Or.inl rfl)) (fun _ _ _ => pts_one (PW.pt (pw_and (pt_cmpR op_ne (pe_ix (ix_tupK (K := K)) (pv 0) pe_int (fun _ _ => rfl)) (pv 1) (nomark _)) (pw_and1 (pt_cmpR (op_notInK (K := K)) (pe_ix (ix_tupK (K := K)) (pv 0) pe_int (fun _ _ => rfl)) (pe_ix (ix_listK (K := K)) (pv 2) (pv 1) (fun _ _ => rfl)) rfl))))) (fun _ _ _ => pv 0) rfl)
      (pss_one (ps_if (pt_cmpR (op_neD hr.units) (pv 5) (pe_lst pa_nil) (nomark _))
        (pss_cons (ps_asg (pe_ix ix_list (pv 5) (pe_call gT hr rfl Tk.m Tk.F.kp Tk.b .nil pass0 (pa_cons (pv 1) (pa_cons (pe_callB call_len_seq rfl B.len PySem.boot_len (pa_cons (pv 5) pa_nil)) pa_nil))) (fun _ _ => rfl)) (pg_tup rfl (pgs_cons (pg_name (i := 8) nd rfl (Or.inl rfl)) (pgs_cons (pg_name (i := 9) nd rfl (Or.inl rfl)) pgs_nil))))
        (pss_cons (ps_expr (pe_bm PySem.F.plainAttrs_list PySem.F.slot_list_insert PySem.F.type_list_insert mt_insert (pe_ix ix_list (pv 0) (pv 3) (fun _ _ => rfl)) (pa_cons (pe_bm PySem.F.plainAttrs_list PySem.F.slot_list_index PySem.F.type_list_index mt_index (pe_ix ix_list (pv 0) (pv 3) (fun _ _ => rfl)) (pa_cons (pv 4) pa_nil)) (pa_cons (pv 8) pa_nil))))
        (pss_one (ps_expr (pe_bm PySem.F.plainAttrs_list PySem.F.slot_list_insert PySem.F.type_list_insert mt_insert (pe_ix ix_list (pv 0) (pv 8) (fun _ _ => rfl)) (pa_cons (pe_bm PySem.F.plainAttrs_list PySem.F.slot_list_index PySem.F.type_list_index mt_index (pe_ix ix_list (pv 0) (pv 8) (fun _ _ => rfl)) (pa_cons (pv 9) pa_nil)) (pa_cons (pv 3) pa_nil))))))) pss_nil)), ?_⟩
    intro p r S L ds o6 o7 H1 off R1 hp hrp sd hl1 hne1 hz1 nSl nST nSas
    obtain ⟨a, ha, hrow⟩ := R1.at hp
    have at1 : atI (as.map V.ref) ((p : Nat) : Int) = some (.ref a) := atI_nat (by rw [List.getElem?_map, ha]; rfl)
    refine ⟨_, rfl, S, rfl, ⟨_, SqL.of sd.at'⟩, fun Dd hD => ?_⟩
    have nDS : S ≠ Dd := ne_of_none sd.at' hD
    refine lc_by (L.map fun e => V.ref e.1).length (fun i σc Hc => ∃ (M : List (Addr × (Nat × Nat))) (o : Option V), σc = [o, some (.int (p : Int)), some (.ref T)] ∧ Hc = upd H1 Dd (.lst (M.map fun e => V.ref e.1)) ∧ (∀ e ∈ M, e ∈ L ∧ e.2.1 ≠ p ∧ e.2.1 ∉ row w' p) ∧ M.length ≤ i) ?_ ?_ ?_ ?_ ?_
    · exact ⟨[], none, rfl, rfl, (fun e he => by cases he), Nat.le_refl _⟩
    · rintro i σc Hc hi ⟨M, o, rfl, rfl, _, _⟩
      exact ⟨_, _, SqL.of (by rw [upd_ne nDS]; exact sd.at'), List.getElem?_eq_getElem hi⟩
    · rintro i σc Hc hi ⟨M, o, rfl, rfl, _, _⟩
      exact ⟨_, SqL.of (by rw [upd_ne nDS]; exact sd.at'), hi⟩
    · rintro i x σc Hc H3 hi ⟨M, o, rfl, rfl, hM, hMl⟩ ⟨rfl, hx⟩
      have hx' := hx _ (SqL.of (by rw [upd_ne nDS]; exact sd.at'))
      have hi' : i < L.length := by simpa using hi
      rw [List.getElem?_map, List.getElem?_eq_getElem hi'] at hx'
      have ex : x = .ref (L[i]).1 := (Option.some.inj hx').symm
      subst ex
      have hm : L[i] ∈ L := List.getElem_mem hi'
      have htup : upd H1 Dd (.lst (M.map fun e => V.ref e.1)) (L[i]).1 = some (.tup (pairV (L[i]).2)) := by
        have := sd.prs _ hm
        rw [upd_ne (ne_of_none this hD)]; exact this
      have nDT : T ≠ Dd := ne_of_none R1.top hD
      have nDa : a ≠ Dd := ne_of_none hrow hD
      refine ⟨_, rfl, (L[i]).1, _, 0, _, rfl, rfl, SqT.of htup, atI_nat (j := 0) rfl, _, rfl, rfl, _, rfl, ?_⟩
      refine ite2 (fun c => ?_) (fun c => ?_)
      · refine ⟨_, rfl, (L[i]).1, _, 0, _, rfl, rfl, SqT.of htup, atI_nat (j := 0) rfl, ?_⟩
        refine ⟨_, rfl, _, rfl, T, _, _, _, rfl, rfl, SqL.of (by rw [upd_ne nDT]; exact R1.top), at1, a, _, rfl, .inl (SqL.of (by rw [upd_ne nDa]; exact hrow)), rfl, rowV_flat _, _, rfl, ?_⟩
        refine ite2 (fun c2 => ?_) (fun c2 => ?_)
        · refine ⟨_, rfl, _, upd_same, Nat.lt_of_le_of_lt (by rw [List.length_map]; exact hMl) (small1000 (by have := sd.few; omega)), M ++ [L[i]], _, rfl, ?_, fun e he => ?_, by simp; omega⟩
          · rw [upd_upd, List.map_append]; rfl
          · rcases List.mem_append.mp he with z | z
            · exact hM e z
            · have z' : e = L[i] := by simpa using z
              rw [z']
              refine ⟨hm, fun y => ?_, fun y => ?_⟩
              · rw [show V.int ((L[i]).2.1 : Int) = V.int (p : Int) by rw [y]] at c
                simp at c
              · have : inV (V.int ((L[i]).2.1 : Int)) (rowV (row w' p)) = true := by
                  unfold inV
                  rw [List.any_eq_true]
                  exact ⟨_, List.mem_map.mpr ⟨_, y, rfl⟩, eqV_self _⟩
                have c3 : (!inV (V.int ((L[i]).2.1 : Int)) (rowV (row w' p))) = true := c2
                rw [this] at c3; cases c3
        · exact ⟨M, _, rfl, rfl, hM, by omega⟩
      · exact iteF ⟨M, _, rfl, rfl, hM, by omega⟩
    · rintro σc Hc ⟨M, o, rfl, rfl, hM, hMl⟩
      have nDl : l ≠ Dd := ne_of_none hl1 hD
      have nDT : T ≠ Dd := ne_of_none R1.top hD
      have few := sd.few
      rw [List.length_map] at hMl
      have prs2 : Prs (upd H1 Dd (.lst (M.map fun e => V.ref e.1))) M := fun e he => by
        have := sd.prs e (hM e he).1
        rw [upd_ne (ne_of_none this hD)]; exact this
      refine ⟨_, rfl, by show 0 ≤ sizeLine; decide, fun e1 he1 => ?_⟩
      have n1D : e1 ≠ Dd := fun z => by rw [z, upd_same] at he1; cases he1
      have sm1 : Same (upd H1 Dd (.lst (M.map fun e => V.ref e.1))) (upd (upd H1 Dd (.lst (M.map fun e => V.ref e.1))) e1 (.lst [])) := same_new he1 _
      have prs3 : Prs (upd (upd H1 Dd (.lst (M.map fun e => V.ref e.1))) e1 (.lst [])) M := fun e he => sm1 _ _ (prs2 e he)
      have hDd : upd (upd H1 Dd (.lst (M.map fun e => V.ref e.1))) e1 (.lst []) Dd = some (.lst (M.map fun e => V.ref e.1)) := sm1 _ _ upd_same
      have off3 : Off (l :: as) H (upd (upd H1 Dd (.lst (M.map fun e => V.ref e.1))) e1 (.lst [])) := off.trans ((Off.put (.inr hD)).trans (Off.put (.inr he1)))
      have hsame : Same H1 (upd (upd H1 Dd (.lst (M.map fun e => V.ref e.1))) e1 (.lst [])) := (same_new hD _).trans sm1
      have R3 : RowsAt (upd (upd H1 Dd (.lst (M.map fun e => V.ref e.1))) e1 (.lst [])) T as w' := R1.off (S := []) (Off.of_same hsame) (by simp) (by simp)
      have hl3 := hsame _ _ hl1
      refine ⟨_, _, .lst (SqL.of hDd) (dp_prs prs3), .lst (SqL.of upd_same) .nil, ?_, _, rfl, ?_⟩
      · rw [PyData.depth]
        have := depthAll_map (f := fun e : Addr × (Nat × Nat) => tupD e.2) (k := 2) (fun e => depth_tupD e.2) M
        omega
      generalize hH3 : upd (upd H1 Dd (.lst (M.map fun e => V.ref e.1))) e1 (.lst []) = H3 at *
      refine ite2 (fun c => ?_) (fun c => ?_)
      · have hM0 : 0 < M.length := by
          cases M with
          | nil => simp [PyData.eqv, PyData.eqvAll] at c
          | cons _ _ => simp
        refine ⟨_, rfl, _, rfl, _, rfl, Dd, _, rfl, .inl (SqL.of hDd), ?_⟩
        rw [List.length_map]
        refine ⟨l, ds, _, rfl, hl3, hne1, by omega, by omega, by omega, fun dI ds2 d0 d1 hne2 hz2 => ?_⟩
        obtain ⟨d, rfl⟩ := Int.eq_ofNat_of_zero_le d0
        have hd : d < M.length := by omega
        have nlD : Dd ≠ l := fun z => nDl z.symm
        have hDd4 : upd H3 l (.lst (ds2.map V.int)) Dd = some (.lst (M.map fun e => V.ref e.1)) := by rw [upd_ne nlD]; exact hDd
        obtain ⟨hmL, hup, hun⟩ := hM _ (List.getElem_mem hd)
        have hdart := sd.dart _ hmL
        have htup := prs3 _ (List.getElem_mem hd)
        have ntl : (M[d]).1 ≠ l := fun z => by rw [z, hl3] at htup; cases htup
        refine ⟨Dd, _, _, .ref (M[d]).1, rfl, rfl, SqL.of hDd4, atI_nat (by rw [List.getElem?_map, List.getElem?_eq_getElem hd]; rfl), ?_⟩
        refine ⟨(M[d]).1, _, rfl, SqT.of (by rw [upd_ne ntl]; exact htup), rfl, _, _, rfl, _, _, rfl, rfl, ?_⟩
        generalize M[d] = me at *
        obtain ⟨at0, u, v⟩ := me
        dsimp only at *
        have hu : u < w'.length := row_lt hdart
        have R4 : RowsAt (upd H3 l (.lst (ds2.map V.int))) T as w' := R3.keep fun b hb => by
          refine upd_ne fun z => ?_
          rcases hb with hb | hb
          · exact nlT (z.symm.trans hb)
          · rw [z] at hb; exact hlas hb
        have hrow4 := R4.row p a ha
        have rlp := row_len g p
        have rlu := row_len g u
        have ilt := List.idxOf_lt_length_iff.mpr hrp
        have jlt : (row w' u).idxOf v < (row w' u).length := List.idxOf_lt_length_iff.mpr hdart
        refine ⟨_, rfl, _, rfl, T, _, _, _, rfl, rfl, SqL.of R4.top, at1, .inl ⟨rfl, _, SqL.of hrow4⟩, ?_⟩
        refine ⟨_, rfl, _, rfl, T, _, _, _, rfl, rfl, SqL.of R4.top, at1, .inl ⟨rfl, _, SqL.of hrow4⟩, _, rfl, ?_⟩
        refine ⟨a, _, _, (row w' p).idxOf r, _, rfl, rfl, hrow4, rfl, rowV_flat _, rowV_get (idx_get hrp), eqV_self r, no_before (g.nod _) hrp, ?_⟩
        refine ⟨_, rfl, a, _, _, _, rfl, rfl, hrow4, by omega, by rw [rowV_len]; omega, Nat.lt_of_le_of_lt (by rw [rowV_len]; exact rlp) (small1000 (by omega)), ?_⟩
        rw [Int.toNat_natCast, ← rowV_ins]
        have R5 : RowsAt (upd (upd H3 l (.lst (ds2.map V.int))) a (.lst (rowV (ins (row w' p) ((row w' p).idxOf r) u)))) T as (w'.set p (ins (row w' p) ((row w' p).idxOf r) u)) := R4.put ha (fun b _ hb => upd_ne hb) upd_same
        obtain ⟨a2, ha2, _⟩ := R4.at hu
        have hrow5 := R5.row u a2 ha2
        rw [row_set hp, if_neg (Ne.symm hup)] at hrow5
        have at2 : atI (as.map V.ref) ((u : Nat) : Int) = some (.ref a2) := atI_nat (by rw [List.getElem?_map, ha2]; rfl)
        refine ⟨_, rfl, _, rfl, T, _, _, _, rfl, rfl, SqL.of R5.top, at2, .inl ⟨rfl, _, SqL.of hrow5⟩, ?_⟩
        refine ⟨_, rfl, _, rfl, T, _, _, _, rfl, rfl, SqL.of R5.top, at2, .inl ⟨rfl, _, SqL.of hrow5⟩, _, rfl, ?_⟩
        refine ⟨a2, _, _, (row w' u).idxOf v, _, rfl, rfl, hrow5, rfl, rowV_flat _, rowV_get (idx_get hdart), eqV_self v, no_before (g.nod _) hdart, ?_⟩
        refine ⟨_, rfl, a2, _, _, _, rfl, rfl, hrow5, by omega, by rw [rowV_len]; omega, Nat.lt_of_le_of_lt (by rw [rowV_len]; exact rlu) (small1000 (by omega)), ?_⟩
        rw [Int.toNat_natCast, ← rowV_ins]
        have R6 : RowsAt (upd (upd (upd H3 l (.lst (ds2.map V.int))) a (.lst (rowV (ins (row w' p) ((row w' p).idxOf r) u)))) a2 (.lst (rowV (ins (row w' u) ((row w' u).idxOf v) p)))) T as (tie w' p ((row w' p).idxOf r) u ((row w' u).idxOf v)) := R5.put ha2 (fun b _ hb => upd_ne hb) upd_same
        have nla : l ≠ a := fun z => hlas (by rw [z]; exact List.mem_of_getElem? ha)
        have nla2 : l ≠ a2 := fun z => hlas (by rw [z]; exact List.mem_of_getElem? ha2)
        refine q _ ds2 _ ?_ R6 (good_tie g hp hu hup hun) (tie_len _ _ _ _ _) ?_ hne2 (by omega) (by rw [deg_tie hp hu hup]; exact Nat.le_refl _)
        · exact off3.trans ((Off.put (.inl List.mem_cons_self)).trans ((Off.put (.inl (List.mem_cons_of_mem _ (List.mem_of_getElem? ha)))).trans (Off.put (.inl (List.mem_cons_of_mem _ (List.mem_of_getElem? ha2))))))
        · rw [upd_ne nla2, upd_ne nla, upd_same]
      · exact q w' ds _ off3 R3 g rfl hl3 hne1 hz1 (by omega)
  have nd3 : (["_law_s", "_law_q"] : List Str).Nodup := by decide +kernel
  refine ⟨_, pss_cons (ps_set (i := 3) nd rfl (Or.inr rfl) (pe_call gT hr rfl Tk.m Tk.F.kp Tk.b .nil pass0 (pa_cons (pv 1) (pa_cons (pe_callB call_len_seq rfl B.len PySem.boot_len (pa_cons (pv 0) pa_nil)) pa_nil))))
    (pss_cons (ps_set (i := 4) nd rfl (Or.inl rfl) (pe_ix ix_list (pe_ix ix_list (pv 0) (pv 3) (fun _ _ => rfl)) (pe_call gT hr rfl Tk.m Tk.F.kp Tk.b .nil pass0 (pa_cons (pv 1) (pa_cons (pe_callB call_len_seq rfl B.len PySem.boot_len (pa_cons (pe_ix ix_list (pv 0) (pv 3) (fun _ _ => rfl)) pa_nil)) pa_nil))) (fun _ _ => rfl)))
    (pss_cons (ps_set (i := 5) nd rfl (Or.inl rfl) (pe_call gR hr rfl Rd.m Rd.F.kp Rd.b .nil pass0 (pa_cons (pv 0) (pa_cons (pe_tup (pa_cons (pv 3) (pa_cons (pv 4) pa_nil))) pa_nil))))
    (pss_cons (ps_if (pt_not (pt_val (pv 2)))
      (pss_cons (ps_set (i := 5) nd rfl (Or.inl rfl) (pe_lst pa_nil))
      (pss_one (ps_for PassesOwn.never rfl (pi_enum rfl B.enumerate (pa_cons (pv 0) pa_nil)) (pg_tup rfl (pgs_cons (pg_name (i := 6) nd rfl (Or.inr rfl)) (pgs_cons (pg_name (i := 7) nd rfl (Or.inl rfl)) pgs_nil)))
        (pss_one (ps_expr (pe_bm PySem.F.plainAttrs_list PySem.F.slot_list_extend PySem.F.type_list_extend mt_extend (pv 5) (pa_cons (pe_lc (NC := ["_law_s", "_law_q"]) (src := [none, some 6]) rfl (CompOk.of (defScope sTie) rfl rfl (by decide +kernel) (by decide +kernel) (by decide +kernel)) ⟨rfl, rfl, trivial⟩ (pi_list (pv 7))
          (fun _ _ _ => pg_name (i := 0) nd3 rfl (Or.inl rfl)) (fun _ _ _ => pts_nil) (fun _ _ _ => pe_tup (pa_cons (pv 1) (pa_cons (pv 0) pa_nil)))) pa_nil))))))) pss_nil) pE))), ?_⟩
  have hT0 : H T = _ := R.top
  have lmap : (as.map V.ref).length = w'.length := by rw [List.length_map, R.len]
  refine ⟨_, rfl, _, rfl, T, _, rfl, .inl (SqL.of R.top), l, ns, _, rfl, hl, hne, by omega, by omega, by omega, fun dI ds1 d0 d1 hne1 hz1 => ?_⟩
  obtain ⟨p, rfl⟩ := Int.eq_ofNat_of_zero_le d0
  have hp : p < w'.length := by omega
  have keep : ∀ (o : HO), RowsAt (upd H l o) T as w' := fun o => R.keep fun b hb => by
    refine upd_ne fun z => ?_
    rcases hb with hb | hb
    · exact nlT (z.symm.trans hb)
    · rw [z] at hb; exact hlas hb
  have R1 := keep (.lst (ds1.map V.int))
  obtain ⟨a, ha, hrow⟩ := R1.at hp
  have at1 : atI (as.map V.ref) ((p : Nat) : Int) = some (.ref a) := atI_nat (by rw [List.getElem?_map, ha]; rfl)
  have rne := row_ne g h2 hp
  have rpos : 0 < (row w' p).length := List.length_pos_iff.mpr rne
  have rl := row_len g p
  have rvl := rowV_len (row w' p)
  refine ⟨_, rfl, _, rfl, T, _, _, _, rfl, rfl, SqL.of R1.top, at1, ?_⟩
  refine ⟨_, rfl, _, rfl, _, rfl, T, _, _, _, rfl, rfl, SqL.of R1.top, at1, a, _, rfl, .inl (SqL.of hrow), l, ds1, _, rfl, upd_same, hne1, by omega, by omega, by omega, fun dI2 ds2 e0 e1 hne2 hz2 => ?_⟩
  rw [upd_upd]
  obtain ⟨j, rfl⟩ := Int.eq_ofNat_of_zero_le e0
  have hj : j < (row w' p).length := by omega
  have R2 := keep (.lst (ds2.map V.int))
  have hrow2 := R2.row p a ha
  refine ⟨a, _, _, _, rfl, rfl, SqL.of hrow2, atI_nat (rowV_get (List.getElem?_eq_getElem hj)), ?_⟩
  have hrp : (row w' p)[j] ∈ row w' p := List.getElem_mem hj
  generalize (row w' p)[j] = r at hrp
  have off2 : Off (l :: as) H (upd H l (.lst (ds2.map V.int))) := Off.put (.inl List.mem_cons_self)
  have hl2 : upd H l (.lst (ds2.map V.int)) l = some (.lst (ds2.map V.int)) := upd_same
  generalize upd H l (.lst (ds2.map V.int)) = H2 at R2 off2 hl2
  refine ⟨_, rfl, _, rfl, _, rfl, by show 2 ≤ sizeLine; decide, fun sd hsd => ?_⟩
  have ss := same_new hsd (.tup [V.int (p : Int), V.int (r : Int)])
  have R3 : RowsAt (upd H2 sd (.tup [V.int (p : Int), V.int (r : Int)])) T as w' := R2.off (S := []) (Off.of_same ss) (by simp) (by simp)
  refine ⟨T, sd, as, w', (p, r), rfl, R3, g, h14, upd_same, hrp, fun F L k H4 sm4 hF0 hF hprs hL hk hit hno => ?_⟩
  have sm24 : Same H2 H4 := ss.trans sm4
  have R4 : RowsAt H4 T as w' := R2.off (S := []) (Off.of_same sm24) (by simp) (by simp)
  have hl4 := sm24 _ _ hl2
  have off4 : Off (l :: as) H H4 := off2.trans (Off.of_same sm24)
  have hdart : Dart w' (p, r) := hrp
  have kd := walk_le g hdart hno
  have dl := darts_len g
  have Ldart : ∀ e ∈ L, Dart w' e.2 := fun e he => walk_dart g hdart (k := k) e.2 (by rw [← hL]; exact List.mem_map.mpr ⟨e, he, rfl⟩)
  have Llen : L.length = k := by have := congrArg List.length hL; rw [List.length_map, walk_len] at this; exact this
  have nFl : F ≠ l := fun z => by rw [z, ss _ _ hl2] at hF0; cases hF0
  have nFT : F ≠ T := fun z => by rw [z, R3.top] at hF0; cases hF0
  have nFas : F ∉ as := fun z => by
    obtain ⟨i, hi⟩ := List.getElem?_of_mem z
    rw [R3.row i F hi] at hF0; cases hF0
  refine ⟨_, rfl, _, rfl, ite2 (fun _ => ?_) (fun _ => ?_)⟩
  · -- anywhere
    refine ⟨by show 0 ≤ sizeLine; decide, fun S hS => ?_⟩
    have nSl : S ≠ l := fun z => by rw [z, hl4] at hS; cases hS
    have nST : S ≠ T := fun z => by rw [z, R4.top] at hS; cases hS
    have nSas : S ∉ as := fun z => by
      obtain ⟨i, hi⟩ := List.getElem?_of_mem z
      rw [R4.row i S hi] at hS; cases hS
    refine ⟨_, rfl, T, rfl, ⟨_, (same_new hS _) _ _ R4.top⟩, for_enum (xs := as.map V.ref) (fun i σ H' => ∃ (o6 o7 : Option V) (L : List (Addr × (Nat × Nat))), σ = [some (.ref T), some (.ref l), some (.bl b), some (.int (p : Int)), some (.int (r : Int)), some (.ref S), o6, o7, none, none] ∧ Same H4 H' ∧ H' S = some (.lst (L.map fun e => V.ref e.1)) ∧ Prs H' L ∧ (∀ e ∈ L, Dart w' e.2) ∧ L.length ≤ i * 14) ?_ ?_ ?_ ?_⟩
    · exact ⟨_, _, [], rfl, same_new hS _, upd_same, (fun e he => by cases he), (fun e he => by cases he), Nat.zero_le _⟩
    · rintro i σ H' _ ⟨o6, o7, L, rfl, sm, _⟩
      exact SqL.of (sm _ _ R4.top)
    · rintro i x t σ H5 hx ht ⟨o6, o7, L, rfl, sm5, hS5, hprs5, hd5, hl5⟩
      rw [List.getElem?_map] at hx
      obtain ⟨ai, hai, rfl⟩ := Option.map_eq_some_iff.mp hx
      have hi : i < w'.length := by rw [← R4.len]; exact (List.getElem?_eq_some_iff.mp hai).1
      refine ⟨t, _, rfl, SqT.of upd_same, rfl, _, _, rfl, _, _, rfl, rfl, ?_⟩
      have s6 := same_new ht (.tup [V.int (i : Int), V.ref ai])
      generalize upd H5 t (.tup [V.int (i : Int), V.ref ai]) = H6 at s6
      have hrow6 := s6 _ _ (sm5 _ _ (R4.row i ai hai))
      have hS6 := s6 _ _ hS5
      have rli := row_len g i
      refine ⟨_, rfl, .inl ⟨rfl, _, SqL.of hS6⟩, _, rfl, ai, rfl, ⟨_, SqL.of hrow6⟩, fun Dd hD => ?_⟩
      have nDS : S ≠ Dd := ne_of_none hS6 hD
      refine lc_by (rowV (row w' i)).length (fun j σc Hc => ∃ (o : Option V) (M : List (Addr × (Nat × Nat))), σc = [o, some (.int (i : Int))] ∧ Same H6 Hc ∧ Hc Dd = some (.lst (M.map fun e => V.ref e.1)) ∧ Prs Hc M ∧ (∀ e ∈ M, Dart w' e.2) ∧ M.length ≤ j) ?_ ?_ ?_ ?_ ?_
      · exact ⟨none, [], rfl, same_new hD _, upd_same, (fun e he => by cases he), (fun e he => by cases he), Nat.le_refl _⟩
      · rintro j σc Hc hj ⟨o, M, rfl, smc, _⟩
        exact ⟨_, _, SqL.of (smc _ _ hrow6), List.getElem?_eq_getElem hj⟩
      · rintro j σc Hc hj ⟨o, M, rfl, smc, _⟩
        exact ⟨_, SqL.of (smc _ _ hrow6), hj⟩
      · rintro j x σc Hc H7 hj ⟨o, M, rfl, smc, hM, hprsM, hdM, hlM⟩ ⟨rfl, hx⟩
        obtain ⟨n, hn, rfl⟩ := rowV_inv (hx _ (SqL.of (smc _ _ hrow6)))
        refine gYes ?_
        refine ⟨_, rfl, _, rfl, by show 2 ≤ sizeLine; decide, fun tt htt => ?_⟩
        have s8 := same_new htt (.tup [V.int (i : Int), V.int (n : Int)])
        have htt8 : upd H7 tt (.tup [V.int (i : Int), V.int (n : Int)]) tt = some (.tup (pairV (i, n))) := upd_same
        generalize upd H7 tt (.tup [V.int (i : Int), V.int (n : Int)]) = H8 at s8 htt8
        have ntD : tt ≠ Dd := fun z => by rw [z, hM] at htt; cases htt
        refine ⟨_, s8 _ _ hM, Nat.lt_of_le_of_lt (by rw [List.length_map]; exact hlM) (small1000 (by rw [rowV_len] at hj; omega)), _, M ++ [(tt, (i, n))], rfl, fun b u eb => ?_, ?_, fun e he => ?_, fun e he => ?_, by simp; omega⟩
        · rw [upd_ne (ne_of_none eb hD)]; exact s8 _ _ (smc _ _ eb)
        · rw [upd_same, List.map_append]; rfl
        · rcases List.mem_append.mp he with z | z
          · have := hprsM e z
            rw [upd_ne (fun y => by rw [y, hM] at this; cases this)]
            exact s8 _ _ this
          · have z' : e = (tt, (i, n)) := by simpa using z
            rw [z', upd_ne ntD]; exact htt8
        · rcases List.mem_append.mp he with z | z
          · exact hdM e z
          · have z' : e = (tt, (i, n)) := by simpa using z
            rw [z']; exact List.mem_of_getElem? hn
      · rintro σc Hc ⟨o, M, rfl, smc, hM, hprsM, hdM, hlM⟩
        rw [rowV_len] at hlM
        have hSc := smc _ _ hS6
        refine ⟨S, Dd, _, _, rfl, rfl, hSc, hM, small (by simp; omega), ?_⟩
        refine ⟨_, _, L ++ M, rfl, fun b u eb => ?_, ?_, fun e he => ?_, fun e he => ?_, by simp; omega⟩
        · rw [upd_ne (ne_of_none eb hS)]; exact smc _ _ (s6 _ _ (sm5 _ _ eb))
        · rw [upd_same, List.map_append]
        · have hh : Hc e.1 = some (.tup (pairV e.2)) := by
            rcases List.mem_append.mp he with z | z
            · exact smc _ _ (s6 _ _ (hprs5 e z))
            · exact hprsM e z
          rw [upd_ne (fun y => by rw [y, hSc] at hh; cases hh)]; exact hh
        · rcases List.mem_append.mp he with z | z
          · exact hd5 e z
          · exact hdM e z
    · rintro σ H5 ⟨o6, o7, L, rfl, sm5, hS5, hprs5, hd5, hl5⟩
      rw [List.length_map, R4.len] at hl5
      exact rE p r S L ds2 o6 o7 H5 (off4.trans (Off.of_same sm5)) (R4.off (S := []) (Off.of_same sm5) (by simp) (by simp)) hp hrp ⟨hS5, hprs5, hd5, by omega⟩ (sm5 _ _ hl4) hne2 (by omega) nSl nST nSas
  · exact rE p r F L ds2 none none H4 off4 R4 hp hrp ⟨hF, hprs, Ldart, by omega⟩ hl4 hne2 (by omega) nFl nFT nFas
end
end K11

set_option Elab.async false
set_option linter.all false
set_option maxRecDepth 100000
set_option maxHeartbeats 4000000
namespace K11
open PySem L2 Wb
abbrev sRen : Stmt := top 28
theorem RowsAt.repl {H H' : Hp} {T : Addr} {as : List Addr} {w : W} (R : RowsAt H T as w) {k : Nat} {a : Addr} {r : List Nat} (hk : k < w.length) (na : a ∉ as) (naT : a ≠ T) (h : ∀ b, b ∈ as → H' b = H b) (eT : H' T = some (.lst ((as.set k a).map V.ref)))
    (e : H' a = some (.lst (rowV r))) : RowsAt H' T (as.set k a) (w.set k r) := by
  have hk' : k < as.length := by rw [R.len]; exact hk
  refine ⟨eT, ?_, fun z => ?_, by rw [List.length_set, List.length_set]; exact R.len, fun i b hb => ?_⟩
  · unfold List.Nodup
    rw [List.pairwise_iff_getElem]
    intro i j hi hj lt
    rw [List.length_set] at hi hj
    rw [List.getElem_set, List.getElem_set]
    have pw := List.pairwise_iff_getElem.mp R.nod
    split
    · split
      · omega
      · intro z; exact na (by rw [z]; exact List.getElem_mem hj)
    · split
      · intro z; exact na (by rw [← z]; exact List.getElem_mem hi)
      · exact pw i j hi hj lt
  · rcases List.mem_or_eq_of_mem_set z with z | z
    · exact R.nT z
    · exact naT z.symm
  · rw [row_set hk]
    rw [List.getElem?_set] at hb
    by_cases hi : k = i
    · rw [if_pos hi, if_pos hk'] at hb
      cases hb
      rw [if_pos hi]; exact e
    · rw [if_neg hi] at hb
      rw [if_neg hi, h b (List.mem_of_getElem? hb)]
      exact R.row i b hb
theorem ixN_nat {n k : Nat} (h : k < n) : ixN n (k : Int) = some k := by
  unfold ixN
  rw [if_pos (by omega), if_pos (by omega), Int.toNat_natCast]
theorem cut_lo (xs : List V) (b : Nat) : cutV xs (some (b : Int)) none = xs.drop b := by
  unfold cutV
  rw [HT.sIx_nat, HT.sIx_none]
  by_cases h : b ≤ xs.length
  · rw [Nat.min_eq_left h, List.take_of_length_le (by rw [List.length_drop]; exact Nat.le_refl _)]
  · rw [Nat.min_eq_right (by omega), List.drop_of_length_le (Nat.le_refl _), List.drop_of_length_le (by omega)]; simp
theorem cut_hi (xs : List V) (b : Nat) : cutV xs none (some (b : Int)) = xs.take b := by
  unfold cutV
  rw [HT.sIx_nat, HT.sIx_none, List.drop_zero, Nat.sub_zero]
  by_cases h : b ≤ xs.length
  · rw [Nat.min_eq_left h]
  · rw [Nat.min_eq_right (by omega), List.take_of_length_le (Nat.le_refl _), List.take_of_length_le (by omega)]
theorem rowV_take (r : List Nat) (b : Nat) : (rowV r).take b = rowV (r.take b) := by unfold rowV; rw [List.map_take]
theorem rowV_drop (r : List Nat) (b : Nat) : (rowV r).drop b = rowV (r.drop b) := by unfold rowV; rw [List.map_drop]
theorem rowV_app (r s : List Nat) : rowV r ++ rowV s = rowV (r ++ s) := by unfold rowV; rw [List.map_append]
theorem rot_perm {α : Type} (l : List α) (b : Nat) : (l.drop b ++ l.take b).Perm l := by
  have := (List.perm_append_comm (l₁ := l.drop b) (l₂ := l.take b))
  rwa [List.take_append_drop] at this
/-- an order of points -/
structure Ord (ord : List Nat) (n : Nat) : Prop where
  pm : ord.Perm (List.range n)
theorem Ord.len {ord : List Nat} {n : Nat} (o : Ord ord n) : ord.length = n := by rw [o.pm.length_eq, List.length_range]
theorem Ord.get {ord : List Nat} {n p : Nat} (o : Ord ord n) (h : p < n) : ord[p]? = some (ord.getD p 0) := by
  rw [List.getD_eq_getElem?_getD, List.getElem?_eq_getElem (by rw [o.len]; exact h)]; rfl
theorem Ord.into {ord : List Nat} {n p : Nat} (o : Ord ord n) (h : p < n) : ord.getD p 0 < n := List.mem_range.mp (o.pm.mem_iff.mp (List.mem_of_getElem? (o.get h)))
theorem Ord.inj {ord : List Nat} {n p q : Nat} (o : Ord ord n) (hp : p < n) (hq : q < n) (e : ord.getD p 0 = ord.getD q 0) : p = q := by
  have nd : ord.Nodup := o.pm.nodup_iff.mpr List.nodup_range
  have h1 := o.get hp
  rw [e] at h1
  exact get_inj nd h1 (o.get hq)
theorem Ord.sur {ord : List Nat} {n y : Nat} (o : Ord ord n) (h : y < n) : ∃ p, p < n ∧ ord.getD p 0 = y := by
  have := o.pm.mem_iff.mpr (List.mem_range.mpr h)
  obtain ⟨p, hp⟩ := List.getElem?_of_mem this
  have lt := (List.getElem?_eq_some_iff.mp hp).1
  rw [o.len] at lt
  have := o.get lt
  rw [hp] at this
  exact ⟨p, lt, (Option.some.inj this).symm⟩
def spRen : Sp := fun vs H Q _ => ∃ (T O l : Addr) (as : List Addr) (w : W) (ord : List Nat) (ns : List Int), vs = [.ref T, .ref O, .ref l] ∧ RowsAt H T as w ∧ Good w ∧ w.length ≤ 14 ∧ H O = some (.lst (rowV ord)) ∧ Ord ord w.length ∧ H l = some (.lst (ns.map V.int)) ∧ ns ≠ [] ∧ ns.length ≤ 2 ∧ l ≠ T ∧ l ∉ as ∧ l ≠ O ∧
  ∀ (F : Addr) (fs : List Addr) (w' : W) (H' : Hp), Off [l] H H' → H F = none → (∀ a ∈ fs, H a = none) → RowsAt H' F fs w' → Good w' → w'.length = w.length → deg w' = deg w → Q (.ref F) H'
section
variable {P : Program} {w : World} {K : PySem.W.Frag} {mg : Str → Option Value} {base : Heap}
theorem scRen : FnScope ["_law_turns", "_law_order", "_law_left", "_law_found", "_law_p", "_law_turn", "_law_begin", "_law_names"] ["_law_turns", "_law_order", "_law_left"] (defScope sRen) := ⟨rfl, rfl, rfl, by decide +kernel, rfl, by decide +kernel, by decide +kernel⟩
theorem ok_ren (B : Blt mg) (Tk : Dfn K mg "_law_take" sTake ["_law_left", "_law_many"]) (D : Dfn K mg "_law_renamed" sRen ["_law_turns", "_law_order", "_law_left"]) : FnOk P w K mg base CX0 2 D.f D.fd ["_law_turns", "_law_order", "_law_left"] spRen := by
  refine D.F.ok scRen (fun vs H Q E h => ?_) (fun cdv A outer s H vs Q E hr h => ?_)
  · obtain ⟨T, O, l, as, w, ord, ns, rfl, _⟩ := h
    rfl
  obtain ⟨T, O, l, as, w', ord, ns, rfl, R, g, h14, hO, od, hl, hne, hz, nlT, hlas, nlO, q⟩ := h
  have nd := scRen.nd
  have nd1 : (["_law_turn"] : List Str).Nodup := by decide +kernel
  have nd2 : (["_law_q", "_law_order"] : List Str).Nodup := by decide +kernel
  have gT := ok_take (P := P) (w := w) (base := base) B Tk
  refine ⟨_, pss_cons (ps_setlc (i := 3) (NC := ["_law_turn"]) (src := [none]) rfl nd rfl (Or.inl rfl) (CompOk.of (defScope sRen) rfl rfl (by decide +kernel) (by decide +kernel) (by decide +kernel)) trivial (pi_list (pv 0))
        (fun _ _ _ => pg_name (i := 0) nd1 rfl (Or.inl rfl)) (fun _ _ _ => pts_nil) (fun _ _ _ => pe_lst pa_nil) rfl)
    (pss_cons (ps_for PassesOwn.never rfl (pi_enum rfl B.enumerate (pa_cons (pv 0) pa_nil)) (pg_tup rfl (pgs_cons (pg_name (i := 4) nd rfl (Or.inl rfl)) (pgs_cons (pg_name (i := 5) nd rfl (Or.inl rfl)) pgs_nil)))
      (pss_cons (ps_set (i := 6) nd rfl (Or.inl rfl) (pe_call gT hr rfl Tk.m Tk.F.kp Tk.b .nil pass0 (pa_cons (pv 2) (pa_cons (pe_op op_add (pe_callB call_len_seq rfl B.len PySem.boot_len (pa_cons (pv 5) pa_nil)) pe_int) pa_nil))))
      (pss_cons (ps_setlc (i := 7) (NC := ["_law_q", "_law_order"]) (src := [none, some 1]) rfl nd rfl (Or.inl rfl) (CompOk.of (defScope sRen) rfl rfl (by decide +kernel) (by decide +kernel) (by decide +kernel)) ⟨rfl, rfl, trivial⟩ (pi_list (pv 5))
        (fun _ _ _ => pg_name (i := 0) nd2 rfl (Or.inl rfl)) (fun _ _ _ => pts_nil) (fun _ _ _ => pe_ix (ix_listK (K := K)) (pv 1) (pv 0) (fun _ _ => rfl)) rfl)
      (pss_one (ps_asg (pe_op op_cat (pe_slice sl_list (pv 7) (po_some (pv 6)) po_none) (pe_slice sl_list (pv 7) po_none (po_some (pv 6)))) (pg_sub (pv 3) (pe_ix ix_list (pv 1) (pv 4) (fun _ _ => rfl)) set_list))))))
    (pss_one (ps_ret (pv 3)))), ?_⟩
  refine ⟨_, rfl, T, rfl, ⟨_, SqL.of R.top⟩, fun F hF => ?_⟩
  refine lc_by (as.map V.ref).length (fun i σc Hc => ∃ (o : Option V) (fs : List Addr), σc = [o] ∧ Same H Hc ∧ Hc F = some (.lst (fs.map V.ref)) ∧ fs.Nodup ∧ F ∉ fs ∧ (∀ a ∈ fs, H a = none ∧ Hc a = some (.lst [])) ∧ fs.length = i) ?_ ?_ ?_ ?_ ?_
  · exact ⟨none, [], rfl, same_new hF _, upd_same, List.nodup_nil, (by simp), (fun a ha => by cases ha), rfl⟩
  · rintro i σc Hc hi ⟨o, fs, rfl, sm, _⟩
    exact ⟨_, _, SqL.of (sm _ _ R.top), List.getElem?_eq_getElem hi⟩
  · rintro i σc Hc hi ⟨o, fs, rfl, sm, _⟩
    exact ⟨_, SqL.of (sm _ _ R.top), hi⟩
  · rintro i x σc Hc H3 hi ⟨o, fs, rfl, sm, hf, nf, nF, fr, hl⟩ ⟨rfl, hx⟩
    rw [List.length_map, R.len] at hi
    refine gYes ?_
    refine ⟨by show 0 ≤ sizeLine; decide, fun r hr' => ?_⟩
    have nrF : r ≠ F := fun z => by rw [z, hf] at hr'; cases hr'
    have nrfs : r ∉ fs := fun z => by rw [(fr r z).2] at hr'; cases hr'
    refine ⟨_, by rw [upd_ne (Ne.symm nrF)]; exact hf, small1000 (by simp; omega), _, fs ++ [r], rfl, fun b u eb => ?_, ?_, ?_, ?_, fun a ha => ?_, by simp [hl]⟩
    · rw [upd_ne (ne_of_none eb hF), upd_ne (ne_of_none (sm _ _ eb) hr')]; exact sm _ _ eb
    · rw [upd_same, List.map_append]; rfl
    · rw [List.nodup_append]
      exact ⟨nf, by simp, fun x hx y hy z => by
        have : y = r := by simpa using hy
        rw [this] at z; rw [z] at hx; exact nrfs hx⟩
    · intro z
      rcases List.mem_append.mp z with z | z
      · exact nF z
      · have : F = r := by simpa using z
        exact nrF this.symm
    · rcases List.mem_append.mp ha with z | z
      · refine ⟨(fr a z).1, ?_⟩
        rw [upd_ne (fun y => nF (by rw [← y]; exact z)), upd_ne (fun y => nrfs (by rw [← y]; exact z))]
        exact (fr a z).2
      · have : a = r := by simpa using z
        rw [this]
        exact ⟨sm.free hr', by rw [upd_ne nrF, upd_same]⟩
  rintro σc H1 ⟨o, fs0, rfl, sm1, hF1, nf0, nF0, fr0, hl0⟩
  rw [List.length_map, R.len] at hl0
  have hl1 := sm1 _ _ hl
  have nlF : l ≠ F := fun z => by rw [z, hF] at hl; cases hl
  have R1 : RowsAt H1 F fs0 (List.replicate w'.length []) := by
    refine ⟨hF1, nf0, nF0, by rw [hl0, List.length_replicate], fun i a e => ?_⟩
    have hz : row (List.replicate w'.length []) i = [] := by
      unfold row
      rw [List.getD_eq_getElem?_getD, List.getElem?_replicate]
      split <;> rfl
    rw [hz]
    exact (fr0 a (List.mem_of_getElem? e)).2
  refine ⟨_, rfl, T, rfl, ⟨_, sm1 _ _ R.top⟩, for_enum (xs := as.map V.ref) (fun i σ H' => ∃ (o4 o5 o6 o7 : Option V) (fs : List Addr) (w1 : W) (ds : List Int), σ = [some (.ref T), some (.ref O), some (.ref l), some (.ref F), o4, o5, o6, o7] ∧ Off [l] H H' ∧ RowsAt H' F fs w1 ∧ (∀ a ∈ fs, H a = none) ∧ w1.length = w'.length ∧
      (∀ p, p < i → (row w1 (ord.getD p 0)).Perm ((row w' p).map fun x => ord.getD x 0)) ∧ H' l = some (.lst (ds.map V.int)) ∧ ds ≠ [] ∧ ds.length ≤ 2) ?_ ?_ ?_ ?_⟩
  · exact ⟨_, _, _, _, fs0, _, ns, rfl, Off.of_same sm1, R1, fun a ha => (fr0 a ha).1, List.length_replicate, (fun p hp => by omega), hl1, hne, hz⟩
  · rintro i σ H' _ ⟨o4, o5, o6, o7, fs, w1, ds, rfl, off, _⟩
    exact SqL.of (off _ _ (by simpa using Ne.symm nlT) R.top)
  · rintro i x t σ H5 hx ht ⟨o4, o5, o6, o7, fs, w1, ds, rfl, off, R5, fr5, len5, rows5, hl5, hne5, hz5⟩
    rw [List.getElem?_map] at hx
    obtain ⟨ai, hai, rfl⟩ := Option.map_eq_some_iff.mp hx
    have hi : i < w'.length := by rw [← R.len]; exact (List.getElem?_eq_some_iff.mp hai).1
    have nlai : l ≠ ai := fun z => hlas (by rw [z]; exact List.mem_of_getElem? hai)
    have hrow5 : H5 ai = _ := off _ _ (by simpa using Ne.symm nlai) (R.row i ai hai)
    have hO5 : H5 O = _ := off _ _ (by simpa using Ne.symm nlO) hO
    refine ⟨t, _, rfl, SqT.of upd_same, rfl, _, _, rfl, _, _, rfl, rfl, ?_⟩
    have s6 := same_new ht (.tup [V.int (i : Int), V.ref ai])
    generalize upd H5 t (.tup [V.int (i : Int), V.ref ai]) = H6 at s6
    have rli := row_len g i
    have rvl := rowV_len (row w' i)
    refine ⟨_, rfl, _, rfl, ai, _, rfl, .inl (SqL.of (s6 _ _ hrow5)), _, _, rfl, rfl, l, ds, _, rfl, s6 _ _ hl5, hne5, by omega, by omega, by omega, fun dI ds1 d0 d1 hne1 hz1 => ?_⟩
    obtain ⟨b, rfl⟩ := Int.eq_ofNat_of_zero_le d0
    have off7 : Off [l] H (upd H6 l (.lst (ds1.map V.int))) := (off.trans (Off.of_same s6)).trans (Off.put (.inl List.mem_cons_self))
    have hl7 : upd H6 l (.lst (ds1.map V.int)) l = some (.lst (ds1.map V.int)) := upd_same
    have nlfs : l ∉ fs := fun z => by rw [fr5 l z] at hl; cases hl
    have R7 : RowsAt (upd H6 l (.lst (ds1.map V.int))) F fs w1 := (R5.off (S := []) (Off.of_same s6) (by simp) (by simp)).keep fun b hb => by
      refine upd_ne fun z => ?_
      rcases hb with hb | hb
      · exact nlF (z.symm.trans hb)
      · rw [z] at hb; exact nlfs hb
    have hrow7 : upd H6 l (.lst (ds1.map V.int)) ai = some (.lst (rowV (row w' i))) := by rw [upd_ne (Ne.symm nlai)]; exact s6 _ _ hrow5
    have hO7 : upd H6 l (.lst (ds1.map V.int)) O = some (.lst (rowV ord)) := by rw [upd_ne (Ne.symm nlO)]; exact s6 _ _ hO5
    generalize upd H6 l (.lst (ds1.map V.int)) = H7 at off7 hl7 R7 hrow7 hO7
    refine ⟨_, rfl, ai, rfl, ⟨_, SqL.of hrow7⟩, fun Nm hNm => ?_⟩
    refine lc_by (rowV (row w' i)).length (fun j σc Hc => ∃ (o : Option V), σc = [o, some (.ref O)] ∧ Same H7 Hc ∧ Hc Nm = some (.lst (rowV (((row w' i).take j).map fun x => ord.getD x 0)))) ?_ ?_ ?_ ?_ ?_
    · exact ⟨none, rfl, same_new hNm _, upd_same⟩
    · rintro j σc Hc hj ⟨o, rfl, sm, _⟩
      exact ⟨_, _, SqL.of (sm _ _ hrow7), List.getElem?_eq_getElem hj⟩
    · rintro j σc Hc hj ⟨o, rfl, sm, _⟩
      exact ⟨_, SqL.of (sm _ _ hrow7), hj⟩
    · rintro j x σc Hc H8 hj ⟨o, rfl, sm, hN⟩ ⟨rfl, hx⟩
      obtain ⟨n, hn, rfl⟩ := rowV_inv (hx _ (SqL.of (sm _ _ hrow7)))
      have hnw : n < w'.length := g.rng _ _ (List.mem_of_getElem? hn)
      refine gYes ?_
      refine ⟨_, rfl, _, rfl, O, _, _, _, rfl, rfl, SqL.of (sm _ _ hO7), atI_nat (rowV_get (od.get hnw)), ?_⟩
      refine ⟨_, hN, Nat.lt_of_le_of_lt (by rw [rowV_len, List.length_map, List.length_take]; exact Nat.min_le_right _ _) (small1000 (by omega)), _, rfl, fun b u eb => ?_, ?_⟩
      · rw [upd_ne (ne_of_none eb hNm)]; exact sm _ _ eb
      · obtain ⟨hlt, hg⟩ := List.getElem?_eq_some_iff.mp hn
        rw [upd_same, List.take_succ_eq_append_getElem hlt, hg, List.map_append]
        unfold rowV
        rw [List.map_append]; rfl
    rintro σc H8 ⟨o, rfl, sm8, hN8⟩
    rw [rvl, List.take_length] at hN8
    generalize hnm : ((row w' i).map fun x => ord.getD x 0) = nm at hN8
    have nml : nm.length ≤ 14 := by rw [← hnm, List.length_map]; omega
    refine ⟨_, rfl, _, rfl, _, rfl, Nm, _, rfl, SqL.of hN8, fun c1 hc1 => ?_⟩
    rw [cut_lo, rowV_drop]
    have s9 := same_new hc1 (.lst (rowV (nm.drop b)))
    have e9 : upd H8 c1 (.lst (rowV (nm.drop b))) c1 = _ := upd_same
    generalize upd H8 c1 (.lst (rowV (nm.drop b))) = H9 at s9 e9
    refine ⟨_, rfl, _, rfl, _, rfl, Nm, _, rfl, SqL.of (s9 _ _ hN8), fun c2 hc2 => ?_⟩
    rw [cut_hi, rowV_take]
    have s10 := same_new hc2 (.lst (rowV (nm.take b)))
    have e10 : upd H9 c2 (.lst (rowV (nm.take b))) c2 = _ := upd_same
    generalize upd H9 c2 (.lst (rowV (nm.take b))) = H10 at s10 e10
    refine ⟨c1, c2, _, _, rfl, rfl, s10 _ _ e9, e10, small (by rw [rowV_len, rowV_len, List.length_drop, List.length_take]; omega), fun c3 hc3 => ?_⟩
    rw [rowV_app]
    have s11 := same_new hc3 (.lst (rowV (nm.drop b ++ nm.take b)))
    have e11 : upd H10 c3 (.lst (rowV (nm.drop b ++ nm.take b))) c3 = _ := upd_same
    have fr11 : H10 c3 = none := hc3
    generalize upd H10 c3 (.lst (rowV (nm.drop b ++ nm.take b))) = H11 at s11 e11
    have s711 : Same H7 H11 := sm8.trans (s9.trans (s10.trans s11))
    have s710 : Same H7 H10 := sm8.trans (s9.trans s10)
    have R11 : RowsAt H11 F fs w1 := R7.off (S := []) (Off.of_same s711) (by simp) (by simp)
    have hoi := od.into hi
    have lfs : (fs.map V.ref).length = w'.length := by rw [List.length_map, R7.len, len5]
    refine ⟨_, rfl, _, rfl, _, rfl, O, _, _, _, rfl, rfl, SqL.of (s711 _ _ hO7), atI_nat (rowV_get (od.get hi)), F, _, _, ord.getD i 0, rfl, rfl, R11.top, by rw [lfs]; exact ixN_nat hoi, ?_⟩
    have nc3F : c3 ≠ F := fun z => by rw [z, s710 _ _ R7.top] at fr11; cases fr11
    have nc3fs : c3 ∉ fs := fun z => by
      obtain ⟨k, hk⟩ := List.getElem?_of_mem z
      rw [s710 _ _ (R7.row k c3 hk)] at fr11; cases fr11
    have hc3H : H c3 = none := by
      cases e : H c3 with
      | none => rfl
      | some u =>
        by_cases z : c3 = l
        · rw [z, s710 _ _ hl7] at fr11; cases fr11
        · rw [s710 _ _ (off7 _ _ (by simpa using z) e)] at fr11; cases fr11
    have nlF' : l ≠ F := nlF
    refine ⟨_, _, _, _, fs.set (ord.getD i 0) c3, w1.set (ord.getD i 0) (nm.drop b ++ nm.take b), ds1, rfl, ?_, ?_, fun a ha => ?_, by rw [List.length_set]; exact len5, fun p hp => ?_, ?_, hne1, by omega⟩
    · exact fun b u hb eb => by rw [upd_ne (ne_of_none eb hF)]; exact s711 _ _ (off7 b u hb eb)
    · refine R11.repl (by rw [len5]; exact hoi) nc3fs nc3F (fun b hb => upd_ne fun z => R11.nT (by rw [← z]; exact hb)) ?_ ?_
      · rw [upd_same, List.map_set]
      · rw [upd_ne nc3F]; exact e11
    · rcases List.mem_or_eq_of_mem_set ha with z | z
      · exact fr5 a z
      · rw [z]; exact hc3H
    · rw [row_set (by rw [len5]; exact hoi)]
      by_cases e : p = i
      · subst e
        rw [if_pos rfl, hnm]
        exact rot_perm nm b
      · rw [if_neg (fun z => e (od.inj (by omega) hi z.symm))]
        exact rows5 p (by omega)
    · rw [upd_ne nlF]; exact s711 _ _ hl7
  · rintro σ H5 ⟨o4, o5, o6, o7, fs, w1, ds, rfl, off, R5, fr5, len5, rows5, hl5, hne5, hz5⟩
    rw [List.length_map, R.len] at rows5
    exact ⟨_, rfl, q F fs w1 H5 off hF fr5 R5 (good_ren g len5 (fun p hp => od.into hp) (fun p q hp hq e => od.inj hp hq e) (fun y hy => od.sur hy) fun p hp => rows5 p hp) len5 (deg_ren len5 od.pm fun p hp => rows5 p hp)⟩
end
end K11

set_option Elab.async false
set_option linter.all false
set_option maxRecDepth 100000
set_option maxHeartbeats 4000000
namespace K11
open PySem L2 Wb
abbrev sWebL : Stmt := top 29
theorem boot_int : bootBuiltins "int" = some (.type "int") := by decide +kernel
def spWebL (K : PySem.W.Frag) : Sp := fun vs H Q _ => ∃ (a : Addr) (ns : List Int) (m : Int) (b : Bool), vs = [.ref a, .int m, .bl b] ∧ SqL K H a (ns.map V.int) ∧ ns.length ≤ 63 ∧ 1 ≤ m ∧ m ≤ 14 ∧
  ∀ (F : Addr) (fs : List Addr) (w' : W) (H' : Hp), Same H H' → H F = none → (∀ a ∈ fs, H a = none) → RowsAt H' F fs w' → Good w' → 1 ≤ w'.length → (w'.length : Int) ≤ m → deg w' ≤ 102 → Q (.ref F) H'
section
variable {P : Program} {w : World} {K : PySem.W.Frag} {mg : Str → Option Value} {base : Heap}
theorem scWebL : FnScope ["_law_script", "_law_most", "_law_plane", "_law_left", "_law_many", "_law_turns", "_law_order", "_law_k", "_law_at"] ["_law_script", "_law_most", "_law_plane"] (defScope sWebL) := ⟨rfl, rfl, rfl, by decide +kernel, rfl, by decide +kernel, by decide +kernel⟩
theorem ok_webL (B : Blt mg) (Ce : Dfn K mg "_law_cell" sCell ["_law_script", "_law_k"]) (Mi : Dfn K mg "_law_mixed" sMixed ["_law_script", "_law_turn"]) (Di : Dfn K mg "_law_digits" sDigits ["_law_script", "_law_at"]) (Tk : Dfn K mg "_law_take" sTake ["_law_left", "_law_many"])
    (Tr : Dfn K mg "_law_tree" sTree ["_law_many", "_law_left"]) (Nx : Dfn K mg "_law_next" sNext ["_law_turns", "_law_side"]) (Rd : Dfn K mg "_law_round" sRound ["_law_turns", "_law_side"]) (Ti : Dfn K mg "_law_tie" sTie ["_law_turns", "_law_left", "_law_plane"]) (Re : Dfn K mg "_law_renamed" sRen ["_law_turns", "_law_order", "_law_left"])
    (D : Dfn K mg "_law_web" sWebL ["_law_script", "_law_most", "_law_plane"]) : FnOk P w K mg base CX0 4 D.f D.fd ["_law_script", "_law_most", "_law_plane"] (spWebL K) := by
  refine D.F.ok scWebL (fun vs H Q E h => ?_) (fun cdv A outer s H vs Q E hr h => ?_)
  · obtain ⟨a, ns, m, b, rfl, _⟩ := h
    rfl
  obtain ⟨a, ns, m, b, rfl, hS, h63, m1, m14, q⟩ := h
  have nd := scWebL.nd
  have gD := ok_digits (P := P) (w := w) (base := base) B Ce Mi Di
  have gT := (ok_take (P := P) (w := w) (base := base) B Tk).mono (show 1 ≤ 3 by decide)
  have gTr := (ok_tree (P := P) (w := w) (base := base) B Tk Tr).mono (show 2 ≤ 3 by decide)
  have gTi := ok_tie (P := P) (w := w) (base := base) B Tk Nx Rd Ti
  have gRe := (ok_ren (P := P) (w := w) (base := base) B Tk Re).mono (show 2 ≤ 3 by decide)
  refine ⟨_, pss_cons (ps_set (i := 3) nd rfl (Or.inl rfl) (pe_call gD hr rfl Di.m Di.F.kp Di.b .nil pass0 (pa_cons (pv 0) (pa_cons pe_int pa_nil))))
    (pss_cons (ps_set (i := 4) nd rfl (Or.inl rfl) (pe_op op_add pe_int (pe_call gT hr rfl Tk.m Tk.F.kp Tk.b .nil pass0 (pa_cons (pv 3) (pa_cons (pv 1) pa_nil)))))
    (pss_cons (ps_set (i := 5) nd rfl (Or.inl rfl) (pe_call gTr hr rfl Tr.m Tr.F.kp Tr.b .nil pass0 (pa_cons (pv 4) (pa_cons (pv 3) pa_nil))))
    (pss_cons (ps_set (i := 6) nd rfl (Or.inl rfl) (pe_lst pa_nil))
    (pss_cons (ps_for PassesOwn.never rfl (pi_range1 rfl B.range (pa_cons (pv 4) pa_nil)) (pg_name (i := 7) nd rfl (Or.inl rfl))
      (pss_one (ps_expr (pe_bm PySem.F.plainAttrs_list PySem.F.slot_list_insert PySem.F.type_list_insert mt_insert (pv 6) (pa_cons (pe_call gT hr rfl Tk.m Tk.F.kp Tk.b .nil pass0 (pa_cons (pv 3) (pa_cons (pe_op op_add (pv 7) pe_int) pa_nil))) (pa_cons (pv 7) pa_nil))))))
    (pss_cons (ps_for PassesOwn.never rfl (pi_list (pe_lst (pa_cons pe_int (pa_cons pe_int pa_nil)))) (pg_name (i := 8) nd rfl (Or.inl rfl))
      (pss_cons (ps_set (i := 3) nd rfl (Or.inl rfl) (pe_call gD hr rfl Di.m Di.F.kp Di.b .nil pass0 (pa_cons (pv 0) (pa_cons (pv 8) pa_nil))))
      (pss_one (ps_for PassesOwn.never rfl (pi_range1 rfl B.range (pa_cons (pe_op op_mul (pe_call gT hr rfl Tk.m Tk.F.kp Tk.b .nil pass0 (pa_cons (pv 3) (pa_cons pe_int pa_nil))) (pe_callTy call_int1 rfl B.int boot_int (pa_cons (pe_cmpR op_gt (pv 4) pe_int (nomark _)) pa_nil))) pa_nil)) (pg_name (i := 7) nd rfl (Or.inl rfl))
        (pss_one (ps_expr (pe_call gTi hr rfl Ti.m Ti.F.kp Ti.b .nil pass0 (pa_cons (pv 5) (pa_cons (pv 3) (pa_cons (pv 2) pa_nil))))))))))
    (pss_one (ps_ret (pe_call gRe hr rfl Re.m Re.F.kp Re.b .nil pass0 (pa_cons (pv 5) (pa_cons (pv 6) (pa_cons (pe_call gD hr rfl Di.m Di.F.kp Di.b .nil pass0 (pa_cons (pv 0) (pa_cons pe_int pa_nil))) pa_nil))))))))))), ?_⟩
  refine ⟨_, rfl, a, ns, 1, rfl, hS, h63, by decide, by decide, fun l ds H1 s1 hl0 hl1 hne hz => ?_⟩
  refine ⟨_, rfl, _, rfl, l, ds, m, rfl, hl1, hne, by omega, by omega, by omega, fun dI ds1 d0 d1 hne1 hz1 => ?_⟩
  refine ⟨_, _, rfl, rfl, ?_⟩
  obtain ⟨d, rfl⟩ := Int.eq_ofNat_of_zero_le d0
  have em : (1 : Int) + (d : Int) = ((d + 1 : Nat) : Int) := by omega
  show gName 4 (V.int (1 + (d : Int))) _ _ _
  rw [em]
  have hm : ((d + 1 : Nat) : Int) ≤ m := by omega
  generalize d + 1 = n at hm em
  have hn1 : 1 ≤ n := by omega
  refine ⟨_, rfl, _, rfl, l, ds1, n, rfl, upd_same, hne1, by omega, hn1, by omega, fun T as w0 ds2 H2 off hT0 fr0 R2 g0 len0 hl2 hne2 hz2 dg0 => ?_⟩
  have nlT : l ≠ T := fun z => by rw [← z, upd_same] at hT0; cases hT0
  have hlas : l ∉ as := fun z => by have := fr0 l z; rw [upd_same] at this; cases this
  have s2 : Same H H2 := fun b u eb => off b u (by simpa using ne_of_none eb hl0) (by rw [upd_ne (ne_of_none eb hl0)]; exact s1 b u eb)
  have hTH : H T = none := by
    cases e : H T with
    | none => rfl
    | some u => rw [upd_ne (Ne.symm nlT), s1 _ _ e] at hT0; cases hT0
  have frH : ∀ x ∈ as, H x = none := fun x hx => by
    cases e : H x with
    | none => rfl
    | some u =>
      have := fr0 x hx
      rw [upd_ne (fun z => hlas (by rw [← z]; exact hx)), s1 _ _ e] at this; cases this
  refine ⟨by show 0 ≤ sizeLine; decide, fun O hO => ?_⟩
  have nOl : l ≠ O := ne_of_none hl2 hO
  have nOT : T ≠ O := ne_of_none R2.top hO
  have nOas : O ∉ as := fun z => by
    obtain ⟨k, hk⟩ := List.getElem?_of_mem z
    rw [R2.row k O hk] at hO; cases hO
  have hOH : H O = none := s2.free hO
  -- the order
  refine ⟨_, rfl, (n : Int), rfl, by omega, by omega, for_range (n := ((n : Int)).toNat) (fun i σ H' => ∃ (ord : List Nat) (ds : List Int) (o7 : Option V), σ = [some (.ref a), some (.int m), some (.bl b), some (.ref l), some (.int (n : Int)), some (.ref T), some (.ref O), o7, none] ∧ Same H H' ∧ RowsAt H' T as w0 ∧ H' O = some (.lst (rowV ord)) ∧ ord.Perm (List.range i) ∧ H' l = some (.lst (ds.map V.int)) ∧ ds ≠ [] ∧ ds.length ≤ 2) ?_ ?_ ?_⟩
  · refine ⟨[], ds2, none, rfl, s2.trans (same_new hO _), R2.off (S := []) (Off.of_same (same_new hO _)) (by simp) (by simp), upd_same, List.Perm.refl _, ?_, hne2, hz2⟩
    rw [upd_ne nOl]; exact hl2
  · rintro i σ H3 hi ⟨ord, ds3, o7, rfl, s3, R3, hO3, pm3, hl3, hne3, hz3⟩
    rw [Int.toNat_natCast] at hi
    have lo : ord.length = i := by rw [pm3.length_eq, List.length_range]
    have hz' : (0 : Int) + (i : Int) = (i : Int) := by omega
    refine ⟨_, rfl, .inl ⟨rfl, _, SqL.of hO3⟩, _, rfl, _, rfl, _, _, rfl, rfl, l, ds3, _, rfl, hl3, hne3, by omega, by omega, by omega, fun eI ds4 e0 e1 hne4 hz4 => ?_⟩
    obtain ⟨e, rfl⟩ := Int.eq_ofNat_of_zero_le e0
    have hO4 : upd H3 l (.lst (ds4.map V.int)) O = some (.lst (rowV ord)) := by rw [upd_ne (Ne.symm nOl)]; exact hO3
    refine ⟨_, rfl, O, _, _, _, rfl, rfl, hO4, by omega, by rw [rowV_len]; omega, Nat.lt_of_le_of_lt (by rw [rowV_len]; exact Nat.le_of_eq lo) (small1000 (by omega)), ?_⟩
    rw [hz', Int.toNat_natCast, ← rowV_ins]
    refine ⟨ins ord e i, ds4, _, rfl, fun b u eb => ?_, ?_, upd_same, ?_, ?_, hne4, by omega⟩
    · rw [upd_ne (ne_of_none eb hOH), upd_ne (ne_of_none eb hl0)]; exact s3 b u eb
    · refine R3.keep fun b hb => ?_
      rw [upd_ne (fun z => ?_), upd_ne (fun z => ?_)]
      · rcases hb with hb | hb
        · exact nlT (z.symm.trans hb)
        · rw [z] at hb; exact hlas hb
      · rcases hb with hb | hb
        · exact nOT (hb.symm.trans z)
        · rw [z] at hb; exact nOas hb
    · refine (ins_perm ord e i).trans ?_
      rw [List.range_succ]
      refine (List.Perm.cons i pm3).trans ?_
      exact (List.perm_append_singleton i (List.range i)).symm
    · rw [upd_ne nOl, upd_same]
  rintro σ H3 ⟨ord, ds3, o7, rfl, s3, R3, hO3, pm3, hl3, hne3, hz3⟩
  rw [Int.toNat_natCast] at pm3
  have od : Ord ord n := ⟨pm3⟩
  -- the ties
  refine ⟨by show 2 ≤ sizeLine; decide, fun Lx hLx => ?_⟩
  have s4 := same_new hLx (.lst [V.int 2, V.int 3])
  have e4 : upd H3 Lx (.lst [V.int 2, V.int 3]) Lx = some (.lst [V.int 2, V.int 3]) := upd_same
  have nLT : Lx ≠ T := Ne.symm (ne_of_none R3.top hLx)
  have nLO : Lx ≠ O := Ne.symm (ne_of_none hO3 hLx)
  have nLas : Lx ∉ as := fun z => by
    obtain ⟨k, hk⟩ := List.getElem?_of_mem z
    rw [R3.row k Lx hk] at hLx; cases hLx
  have hLH : H Lx = none := s3.free hLx
  generalize upd H3 Lx (.lst [V.int 2, V.int 3]) = H4 at s4 e4
  have R4 : RowsAt H4 T as w0 := R3.off (S := []) (Off.of_same s4) (by simp) (by simp)
  refine ⟨Lx, rfl, ⟨_, SqL.of e4⟩, for_list (K := K) (a := Lx) (xs := [V.int 2, V.int 3]) (fun i σ H' => ∃ (l' : Addr) (w1 : W) (o7 o8 : Option V), σ = [some (.ref a), some (.int m), some (.bl b), some (.ref l'), some (.int (n : Int)), some (.ref T), some (.ref O), o7, o8] ∧ Same H H' ∧ RowsAt H' T as w1 ∧ Good w1 ∧ w1.length = n ∧ H' O = some (.lst (rowV ord)) ∧ H' Lx = some (.lst [V.int 2, V.int 3]) ∧ deg w1 ≤ 26 + 38 * i) ?_ ?_ ?_ ?_⟩
  · exact ⟨l, w0, o7, none, rfl, s3.trans s4, R4, g0, len0, s4 _ _ hO3, e4, by omega⟩
  · rintro i σ H' _ ⟨l', w1, o7, o8, rfl, _, _, _, _, _, hL, _⟩
    exact SqL.of hL
  · rintro i x σ H5 hx ⟨l', w1, o7, o8, rfl, s5, R5, g5, len5, hO5, hL5, dg5⟩
    obtain ⟨k, hk0, hk1, rfl⟩ : ∃ k : Int, 0 ≤ k ∧ k ≤ 100 ∧ x = .int k := by
      match i, hx with
      | 0, hx => cases hx; exact ⟨2, by decide, by decide, rfl⟩
      | 1, hx => cases hx; exact ⟨3, by decide, by decide, rfl⟩
      | n + 2, hx => simp at hx
    refine ⟨_, rfl, _, rfl, a, ns, k, rfl, s5.seq hS, h63, hk0, hk1, fun l2 ds5 H6 s6 hl6n hl6 hne6 hz6 => ?_⟩
    have n2T : l2 ≠ T := fun z => by rw [z, R5.top] at hl6n; cases hl6n
    have n2as : l2 ∉ as := fun z => by
      obtain ⟨k, hk⟩ := List.getElem?_of_mem z
      rw [R5.row k l2 hk] at hl6n; cases hl6n
    have n2O : l2 ≠ O := fun z => by rw [z, hO5] at hl6n; cases hl6n
    have n2L : l2 ≠ Lx := fun z => by rw [z, hL5] at hl6n; cases hl6n
    have h2H : H l2 = none := s5.free hl6n
    refine ⟨_, rfl, l2, ds5, 20, rfl, hl6, hne6, by omega, by decide, by decide, fun cI ds6 c0 c1 hne7 hz7 => ?_⟩
    refine ⟨_, rfl, _, _, rfl, rfl, .inr ⟨_, rfl, ?_⟩⟩
    obtain ⟨c, rfl⟩ := Int.eq_ofNat_of_zero_le c0
    have R7 : RowsAt (upd H6 l2 (.lst (ds6.map V.int))) T as w1 := (R5.off (S := []) (Off.of_same s6) (by simp) (by simp)).keep fun b hb => by
      refine upd_ne fun z => ?_
      rcases hb with hb | hb
      · exact n2T (z.symm.trans hb)
      · rw [z] at hb; exact n2as hb
    have s7 : Same H (upd H6 l2 (.lst (ds6.map V.int))) := fun b u eb => by rw [upd_ne (ne_of_none eb h2H)]; exact s6 _ _ (s5 b u eb)
    have hO7 : upd H6 l2 (.lst (ds6.map V.int)) O = some (.lst (rowV ord)) := by rw [upd_ne (Ne.symm n2O)]; exact s6 _ _ hO5
    have hL7 : upd H6 l2 (.lst (ds6.map V.int)) Lx = some (.lst [V.int 2, V.int 3]) := by rw [upd_ne (Ne.symm n2L)]; exact s6 _ _ hL5
    have hl7 : upd H6 l2 (.lst (ds6.map V.int)) l2 = some (.lst (ds6.map V.int)) := upd_same
    generalize upd H6 l2 (.lst (ds6.map V.int)) = H7 at R7 s7 hO7 hL7 hl7
    refine ⟨_, _, rfl, rfl, .inl ⟨by omega, by omega⟩, ?_⟩
    have hcnt : ∃ N : Nat, (c : Int) * (if decide ((1 : Int) < (n : Int)) = true then 1 else 0) = (N : Int) ∧ N < 20 ∧ (0 < N → 2 ≤ n) := by
      by_cases hn : (1 : Int) < (n : Int)
      · rw [decide_eq_true hn, if_pos rfl]
        exact ⟨c, by omega, by omega, fun _ => by omega⟩
      · rw [decide_eq_false hn, if_neg (by decide)]
        exact ⟨0, by omega, by omega, fun h => by omega⟩
    obtain ⟨N, eN, N20, N2⟩ := hcnt
    refine ⟨(N : Int), congrArg (fun z => [V.int z]) eN, by omega, by omega, for_range (n := ((N : Int)).toNat) (fun j σ H' => ∃ (w2 : W) (ds : List Int) (o7 o8 : Option V), σ = [some (.ref a), some (.int m), some (.bl b), some (.ref l2), some (.int (n : Int)), some (.ref T), some (.ref O), o7, o8] ∧ Same H H' ∧ RowsAt H' T as w2 ∧ Good w2 ∧ w2.length = n ∧ H' O = some (.lst (rowV ord)) ∧ H' Lx = some (.lst [V.int 2, V.int 3]) ∧ H' l2 = some (.lst (ds.map V.int)) ∧ ds ≠ [] ∧ ds.length ≤ 2 ∧ deg w2 ≤ deg w1 + 2 * j) ?_ ?_ ?_⟩
    · exact ⟨w1, ds6, _, _, rfl, s7, R7, g5, len5, hO7, hL7, hl7, hne7, by omega, by omega⟩
    · rintro j σ H8 hj ⟨w2, ds8, o7, o8, rfl, s8, R8, g8, len8, hO8, hL8, hl8, hne8, hz8, dg8⟩
      rw [Int.toNat_natCast] at hj
      have n2 := N2 (by omega)
      refine ⟨_, rfl, _, rfl, _, rfl, T, l2, b, as, w2, ds8, rfl, R8, g8, by omega, by omega, hl8, hne8, hz8, n2T, n2as, fun w3 ds9 H9 off9 R9 g9 len9 hl9 hne9 hz9 dg9 => ?_⟩
      refine ⟨w3, ds9, _, _, rfl, fun b u eb => off9 b u (fun z => ?_) (s8 b u eb), R9, g9, by omega, off9 _ _ (fun z => ?_) hO8, off9 _ _ (fun z => ?_) hL8, hl9, hne9, hz9, by omega⟩
      · rcases List.mem_cons.mp z with z | z
        · rw [z, h2H] at eb; cases eb
        · rw [frH b z] at eb; cases eb
      · rcases List.mem_cons.mp z with z | z
        · exact n2O z.symm
        · exact nOas z
      · rcases List.mem_cons.mp z with z | z
        · exact n2L z.symm
        · exact nLas z
    · rintro σ H8 ⟨w2, ds8, o7, o8, rfl, s8, R8, g8, len8, hO8, hL8, hl8, hne8, hz8, dg8⟩
      rw [Int.toNat_natCast] at dg8
      exact ⟨l2, w2, o7, o8, rfl, s8, R8, g8, len8, hO8, hL8, by omega⟩
  · rintro σ H5 ⟨l', w1, o7, o8, rfl, s5, R5, g5, len5, hO5, hL5, dg5⟩
    refine ⟨_, rfl, _, rfl, _, rfl, a, ns, 4, rfl, s5.seq hS, h63, by decide, by decide, fun l4 ds5 H6 s6 hl6n hl6 hne6 hz6 => ?_⟩
    have n4T : l4 ≠ T := fun z => by rw [z, R5.top] at hl6n; cases hl6n
    have n4as : l4 ∉ as := fun z => by
      obtain ⟨k, hk⟩ := List.getElem?_of_mem z
      rw [R5.row k l4 hk] at hl6n; cases hl6n
    have n4O : l4 ≠ O := fun z => by rw [z, hO5] at hl6n; cases hl6n
    have h4H : H l4 = none := s5.free hl6n
    have s56 := s5.trans s6
    refine ⟨T, O, l4, as, w1, ord, ds5, rfl, R5.off (S := []) (Off.of_same s6) (by simp) (by simp), g5, by omega, s6 _ _ hO5, by rw [len5]; exact od, hl6, hne6, hz6, n4T, n4as, n4O, fun F fs w' H' off hF fr R' g' len' dg' => ?_⟩
    refine q F fs w' H' (fun b u eb => off b u (by simpa using ne_of_none eb h4H) (s56 b u eb)) (s56.free hF) (fun x hx => s56.free (fr x hx)) R' g' (by omega) (by omega) (by rw [dg']; simp at dg5; omega)
end
end K11

set_option Elab.async false
set_option linter.all false
set_option maxRecDepth 100000
set_option maxHeartbeats 4000000
namespace L2
open PySem
theorem call_list_ofK {X : Cx} {K : PySem.W.Frag} (e : X.K = K := by rfl) : CallR X (.type "list") (fun xs H Q => ∃ p ys, xs = [.ref p] ∧ (SqL K H p ys ∨ SqT K H p ys) ∧ ∀ l, H l = none → Q (.ref l) (upd H l (.lst ys))) := by rw [← e]; exact call_list_of
end L2
namespace K11
open PySem L2 Wb
abbrev sAmong : Stmt := top 10
abbrev sAlien : Stmt := top 11
abbrev sSelf : Stmt := top 12
abbrev sTwice : Stmt := top 13
abbrev sLone : Stmt := top 14
abbrev sReached : Stmt := top 15
abbrev sApart : Stmt := top 16
abbrev sFirst : Stmt := top 17
theorem boot_isinstance : bootBuiltins "isinstance" = some (.builtin "isinstance") := by decide +kernel
theorem boot_bool : bootBuiltins "bool" = some (.type "bool") := by decide +kernel
theorem boot_list : bootBuiltins "list" = some (.type "list") := by decide +kernel
theorem boot_tuple : bootBuiltins "tuple" = some (.type "tuple") := by decide +kernel
theorem boot_all : bootBuiltins "all" = some (.builtin "all") := by decide +kernel
theorem boot_sorted : bootBuiltins "sorted" = some (.builtin "sorted") := by decide +kernel
theorem kit_int_int {K : PySem.W.Frag} : PySem.W.kitOne K (.type "int") (.type "int") = some true := by kernel_rfl
theorem kit_int_bool {K : PySem.W.Frag} : PySem.W.kitOne K (.type "int") (.type "bool") = some false := by kernel_rfl
theorem kit_list_list {K : PySem.W.Frag} : PySem.W.kitOne K (.type "list") (.type "list") = some true := by kernel_rfl
theorem kit_bool_bool {K : PySem.W.Frag} : PySem.W.kitOne K (.type "bool") (.type "bool") = some true := by kernel_rfl
theorem kit_tuple_tuple {K : PySem.W.Frag} : PySem.W.kitOne K (.type "tuple") (.type "tuple") = some true := by kernel_rfl
theorem inV_row {r : List Nat} {p : Nat} : inV (.int (p : Int)) (rowV r) = decide (p ∈ r) := by
  unfold inV rowV
  rw [List.any_map]
  rw [Bool.eq_iff_iff, List.any_eq_true, decide_eq_true_iff]
  constructor
  · rintro ⟨x, hx, e⟩
    have : x = p := by simp [eqV] at e; omega
    rw [← this]; exact hx
  · intro h
    exact ⟨p, h, eqV_self p⟩
section
variable {P : Program} {w : World} {K : PySem.W.Frag} {mg : Str → Option Value} {base : Heap}
def spAmong : Sp := fun vs H Q _ => ∃ (i n : Int), vs = [.int i, .int n] ∧ Q (.bl (decide (0 ≤ i ∧ i < n))) H
theorem scAmong : FnScope ["thing", "many"] ["thing", "many"] (defScope sAmong) := ⟨rfl, rfl, rfl, by decide +kernel, rfl, by decide +kernel, by decide +kernel⟩
theorem ok_among (B : Blt mg) (D : Dfn K mg "is_among" sAmong ["thing", "many"]) : FnOk P w K mg base CX0 1 D.f D.fd ["thing", "many"] spAmong := by
  refine D.F.ok scAmong (fun vs H Q E h => ?_) (fun cdv A outer s H vs Q E hr h => ?_)
  · obtain ⟨i, n, rfl, _⟩ := h
    rfl
  obtain ⟨i, n, rfl, q⟩ := h
  refine ⟨_, pss_one (ps_ret (pe_and (pe_callB call_isinst rfl B.isinstance boot_isinstance (pa_cons (pv 0) (pa_cons (pe_bltn rfl B.int boot_int (v := .ty "int") rfl) pa_nil)))
    (pe_and (pe_not (pe_callB call_isinst rfl B.isinstance boot_isinstance (pa_cons (pv 0) (pa_cons (pe_bltn rfl B.bool boot_bool (v := .ty "bool") rfl) pa_nil)))) (pe_one (pe_chain op_le op_lt pe_int (pv 0) (pv 1)))))), ?_⟩
  refine ⟨_, rfl, .int i, "int", .type "int", true, rfl, .int i, kit_int_int, _, rfl, iteT ?_⟩
  refine ⟨_, rfl, .int i, "bool", .type "int", false, rfl, .int i, kit_int_bool, _, rfl, _, rfl, iteT ?_⟩
  refine ⟨_, rfl, _, _, rfl, rfl, _, rfl, ite2 (fun c => ?_) (fun c => ?_)⟩
  · have c' := of_decide_eq_true c
    refine ⟨_, rfl, _, _, rfl, rfl, ?_⟩
    have : decide (i < n) = decide (0 ≤ i ∧ i < n) := by rw [decide_eq_decide]; omega
    show Q (.bl (decide (i < n))) H
    rw [this]; exact q
  · have : decide (0 ≤ i ∧ i < n) = false := decide_eq_false fun z => c (decide_eq_true z.1)
    rw [this] at q; exact q
/-- no fault -/
def spNo : Sp := fun vs H Q _ => ∃ (T : Addr) (as : List Addr) (w : W), vs = [.ref T] ∧ RowsAt H T as w ∧ Good w ∧ 1 ≤ w.length ∧ w.length ≤ 14 ∧ ∀ H', Same H H' → Q .non H'
theorem rows_same {H H' : Hp} {T : Addr} {as : List Addr} {w : W} (R : RowsAt H T as w) (s : Same H H') : RowsAt H' T as w := R.off (S := []) (Off.of_same s) (by simp) (by simp)
theorem row_at {H : Hp} {T : Addr} {as : List Addr} {w : W} (R : RowsAt H T as w) {i : Nat} {x : V} (h : (as.map V.ref)[i]? = some x) : ∃ a, x = .ref a ∧ as[i]? = some a ∧ i < w.length ∧ H a = some (.lst (rowV (row w i))) := by
  rw [List.getElem?_map] at h
  obtain ⟨a, ha, rfl⟩ := Option.map_eq_some_iff.mp h
  exact ⟨a, rfl, ha, by rw [← R.len]; exact (List.getElem?_eq_some_iff.mp ha).1, R.row i a ha⟩
theorem scAlien : FnScope ["rows", "p", "row", "q"] ["rows"] (defScope sAlien) := ⟨rfl, rfl, rfl, by decide +kernel, rfl, by decide +kernel, by decide +kernel⟩
theorem ok_alien (B : Blt mg) (Am : Dfn K mg "is_among" sAmong ["thing", "many"]) (D : Dfn K mg "alien_fault" sAlien ["rows"]) : FnOk P w K mg base CX0 2 D.f D.fd ["rows"] spNo := by
  refine D.F.ok scAlien (fun vs H Q E h => ?_) (fun cdv A outer s H vs Q E hr h => ?_)
  · obtain ⟨T, as, w, rfl, _⟩ := h
    rfl
  obtain ⟨T, as, w', rfl, R, g, h1, h14, q⟩ := h
  have nd := scAlien.nd
  have gA := ok_among (P := P) (w := w) (base := base) B Am
  refine ⟨_, pss_cons (ps_for PassesOwn.never rfl (pi_enum rfl B.enumerate (pa_cons (pv 0) pa_nil)) (pg_tup rfl (pgs_cons (pg_name (i := 1) nd rfl (Or.inl rfl)) (pgs_cons (pg_name (i := 2) nd rfl (Or.inl rfl)) pgs_nil)))
      (pss_one (ps_for PassesOwn.never rfl (pi_list (pv 2)) (pg_name (i := 3) nd rfl (Or.inl rfl))
        (pss_one (ps_if (pt_not (pt_val (pe_call gA hr rfl Am.m Am.F.kp Am.b .nil pass0 (pa_cons (pv 3) (pa_cons (pe_callB call_len_seq rfl B.len PySem.boot_len (pa_cons (pv 0) pa_nil)) pa_nil))))) pss_never pss_nil)))))
    (pss_one (ps_ret pe_non)), ?_⟩
  refine ⟨_, rfl, T, rfl, ⟨_, R.top⟩, for_enum (xs := as.map V.ref) (fun i σ H' => ∃ (o1 o2 o3 : Option V), σ = [some (.ref T), o1, o2, o3] ∧ Same H H') ⟨_, _, _, rfl, Same.refl _⟩ ?_ ?_ ?_⟩
  · rintro i σ H' _ ⟨o1, o2, o3, rfl, sm⟩
    exact SqL.of (sm _ _ R.top)
  · rintro i x t σ H1 hx ht ⟨o1, o2, o3, rfl, sm⟩
    obtain ⟨ai, rfl, hai, hi, hrow⟩ := row_at (rows_same R sm) hx
    refine ⟨t, _, rfl, SqT.of upd_same, rfl, _, _, rfl, _, _, rfl, rfl, ?_⟩
    have s2 := same_new ht (.tup [V.int (i : Int), V.ref ai])
    generalize upd H1 t (.tup [V.int (i : Int), V.ref ai]) = H2 at s2
    have sm2 := sm.trans s2
    refine ⟨_, rfl, ai, rfl, ⟨_, SqL.of (s2 _ _ hrow)⟩, for_list (K := K) (a := ai) (xs := rowV (row w' i)) (fun j σ H' => ∃ (o3 : Option V), σ = [some (.ref T), some (.int (i : Int)), some (.ref ai), o3] ∧ Same H2 H') ⟨_, rfl, Same.refl _⟩ ?_ ?_ ?_⟩
    · rintro j σ H' _ ⟨o3, rfl, sm'⟩
      exact SqL.of (sm' _ _ (s2 _ _ hrow))
    · rintro j x σ H3 hx ⟨o3, rfl, sm3⟩
      obtain ⟨n, hn, rfl⟩ := rowV_inv hx
      have hnw := g.rng _ _ (List.mem_of_getElem? hn)
      refine ⟨_, rfl, _, rfl, T, _, rfl, .inl (SqL.of (sm3 _ _ (sm2 _ _ R.top))), _, _, rfl, _, rfl, ?_⟩
      rw [show decide (0 ≤ (n : Int) ∧ (n : Int) < ((as.map V.ref).length : Int)) = true from decide_eq_true (by rw [List.length_map, R.len]; omega)]
      exact iteF ⟨_, rfl, sm3⟩
    · rintro σ H3 ⟨o3, rfl, sm3⟩
      exact ⟨_, _, _, rfl, sm2.trans sm3⟩
  · rintro σ H1 ⟨o1, o2, o3, rfl, sm⟩
    exact q H1 sm
theorem scSelf : FnScope ["rows", "p", "row"] ["rows"] (defScope sSelf) := ⟨rfl, rfl, rfl, by decide +kernel, rfl, by decide +kernel, by decide +kernel⟩
theorem ok_self (B : Blt mg) (D : Dfn K mg "self_fault" sSelf ["rows"]) : FnOk P w K mg base CX0 1 D.f D.fd ["rows"] spNo := by
  refine D.F.ok scSelf (fun vs H Q E h => ?_) (fun cdv A outer s H vs Q E hr h => ?_)
  · obtain ⟨T, as, w, rfl, _⟩ := h
    rfl
  obtain ⟨T, as, w', rfl, R, g, h1, h14, q⟩ := h
  have nd := scSelf.nd
  refine ⟨_, pss_cons (ps_for PassesOwn.never rfl (pi_enum rfl B.enumerate (pa_cons (pv 0) pa_nil)) (pg_tup rfl (pgs_cons (pg_name (i := 1) nd rfl (Or.inl rfl)) (pgs_cons (pg_name (i := 2) nd rfl (Or.inl rfl)) pgs_nil)))
      (pss_one (ps_if (pt_cmpR op_in_seq (pv 1) (pv 2) rfl) pss_never pss_nil)))
    (pss_one (ps_ret pe_non)), ?_⟩
  refine ⟨_, rfl, T, rfl, ⟨_, R.top⟩, for_enum (xs := as.map V.ref) (fun i σ H' => ∃ (o1 o2 : Option V), σ = [some (.ref T), o1, o2] ∧ Same H H') ⟨_, _, rfl, Same.refl _⟩ ?_ ?_ ?_⟩
  · rintro i σ H' _ ⟨o1, o2, rfl, sm⟩
    exact SqL.of (sm _ _ R.top)
  · rintro i x t σ H1 hx ht ⟨o1, o2, rfl, sm⟩
    obtain ⟨ai, rfl, hai, hi, hrow⟩ := row_at (rows_same R sm) hx
    refine ⟨t, _, rfl, SqT.of upd_same, rfl, _, _, rfl, _, _, rfl, rfl, ?_⟩
    have s2 := same_new ht (.tup [V.int (i : Int), V.ref ai])
    generalize upd H1 t (.tup [V.int (i : Int), V.ref ai]) = H2 at s2
    refine ⟨_, rfl, _, rfl, ai, _, rfl, .inl (SqL.of (s2 _ _ hrow)), rfl, rowV_flat _, _, rfl, ?_⟩
    show (if (inV (.int (i : Int)) (rowV (row w' i))) = true then _ else _)
    rw [inV_row, decide_eq_false (g.irr i)]
    exact iteF ⟨_, _, rfl, sm.trans s2⟩
  · rintro σ H1 ⟨o1, o2, rfl, sm⟩
    exact q H1 sm
theorem scTwice : FnScope ["rows", "p", "row", "place", "q"] ["rows"] (defScope sTwice) := ⟨rfl, rfl, rfl, by decide +kernel, rfl, by decide +kernel, by decide +kernel⟩
theorem ok_twice (B : Blt mg) (D : Dfn K mg "twice_fault" sTwice ["rows"]) : FnOk P w K mg base CX0 1 D.f D.fd ["rows"] spNo := by
  refine D.F.ok scTwice (fun vs H Q E h => ?_) (fun cdv A outer s H vs Q E hr h => ?_)
  · obtain ⟨T, as, w, rfl, _⟩ := h
    rfl
  obtain ⟨T, as, w', rfl, R, g, h1, h14, q⟩ := h
  have nd := scTwice.nd
  refine ⟨_, pss_cons (ps_for PassesOwn.never rfl (pi_enum rfl B.enumerate (pa_cons (pv 0) pa_nil)) (pg_tup rfl (pgs_cons (pg_name (i := 1) nd rfl (Or.inl rfl)) (pgs_cons (pg_name (i := 2) nd rfl (Or.inl rfl)) pgs_nil)))
      (pss_one (ps_for PassesOwn.never rfl (pi_enum rfl B.enumerate (pa_cons (pv 2) pa_nil)) (pg_tup rfl (pgs_cons (pg_name (i := 3) nd rfl (Or.inl rfl)) (pgs_cons (pg_name (i := 4) nd rfl (Or.inl rfl)) pgs_nil)))
        (pss_one (ps_if (pt_cmpR op_in_seq (pv 4) (pe_slice sl_list (pv 2) po_none (po_some (pv 3))) rfl) pss_never pss_nil)))))
    (pss_one (ps_ret pe_non)), ?_⟩
  refine ⟨_, rfl, T, rfl, ⟨_, R.top⟩, for_enum (xs := as.map V.ref) (fun i σ H' => ∃ (o1 o2 o3 o4 : Option V), σ = [some (.ref T), o1, o2, o3, o4] ∧ Same H H') ⟨_, _, _, _, rfl, Same.refl _⟩ ?_ ?_ ?_⟩
  · rintro i σ H' _ ⟨o1, o2, o3, o4, rfl, sm⟩
    exact SqL.of (sm _ _ R.top)
  · rintro i x t σ H1 hx ht ⟨o1, o2, o3, o4, rfl, sm⟩
    obtain ⟨ai, rfl, hai, hi, hrow⟩ := row_at (rows_same R sm) hx
    refine ⟨t, _, rfl, SqT.of upd_same, rfl, _, _, rfl, _, _, rfl, rfl, ?_⟩
    have s2 := same_new ht (.tup [V.int (i : Int), V.ref ai])
    generalize upd H1 t (.tup [V.int (i : Int), V.ref ai]) = H2 at s2
    have sm2 := sm.trans s2
    have hrow2 := s2 _ _ hrow
    refine ⟨_, rfl, ai, rfl, ⟨_, hrow2⟩, for_enum (xs := rowV (row w' i)) (fun j σ H' => ∃ (o3 o4 : Option V), σ = [some (.ref T), some (.int (i : Int)), some (.ref ai), o3, o4] ∧ Same H2 H') ⟨_, _, rfl, Same.refl _⟩ ?_ ?_ ?_⟩
    · rintro j σ H' _ ⟨o3, o4, rfl, sm'⟩
      exact SqL.of (sm' _ _ hrow2)
    · rintro j x t2 σ H3 hx ht2 ⟨o3, o4, rfl, sm3⟩
      obtain ⟨n, hn, rfl⟩ := rowV_inv hx
      refine ⟨t2, _, rfl, SqT.of upd_same, rfl, _, _, rfl, _, _, rfl, rfl, ?_⟩
      have s4 := same_new ht2 (.tup [V.int (j : Int), V.int (n : Int)])
      generalize upd H3 t2 (.tup [V.int (j : Int), V.int (n : Int)]) = H4 at s4
      refine ⟨_, rfl, _, rfl, _, rfl, _, rfl, ai, _, rfl, SqL.of (s4 _ _ (sm3 _ _ hrow2)), fun c hc => ?_⟩
      rw [cut_hi, rowV_take]
      refine ⟨c, _, rfl, .inl (SqL.of upd_same), rfl, rowV_flat _, _, rfl, ?_⟩
      show (if (inV (.int (n : Int)) (rowV ((row w' i).take j))) = true then _ else _)
      rw [inV_row, decide_eq_false]
      · exact iteF ⟨_, _, rfl, sm3.trans (s4.trans (same_new hc _))⟩
      · intro z
        obtain ⟨k, hk⟩ := List.getElem?_of_mem z
        have hkj : k < j := by
          have := (List.getElem?_eq_some_iff.mp hk).1
          rw [List.length_take] at this; omega
        rw [List.getElem?_take, if_pos hkj] at hk
        have := get_inj (g.nod i) hk hn
        omega
    · rintro σ H3 ⟨o3, o4, rfl, sm3⟩
      exact ⟨_, _, _, _, rfl, sm2.trans sm3⟩
  · rintro σ H1 ⟨o1, o2, o3, o4, rfl, sm⟩
    exact q H1 sm
theorem scLone : FnScope ["rows", "p", "row", "q"] ["rows"] (defScope sLone) := ⟨rfl, rfl, rfl, by decide +kernel, rfl, by decide +kernel, by decide +kernel⟩
theorem ok_lone (B : Blt mg) (D : Dfn K mg "lone_fault" sLone ["rows"]) : FnOk P w K mg base CX0 1 D.f D.fd ["rows"] spNo := by
  refine D.F.ok scLone (fun vs H Q E h => ?_) (fun cdv A outer s H vs Q E hr h => ?_)
  · obtain ⟨T, as, w, rfl, _⟩ := h
    rfl
  obtain ⟨T, as, w', rfl, R, g, h1, h14, q⟩ := h
  have nd := scLone.nd
  refine ⟨_, pss_cons (ps_for PassesOwn.never rfl (pi_enum rfl B.enumerate (pa_cons (pv 0) pa_nil)) (pg_tup rfl (pgs_cons (pg_name (i := 1) nd rfl (Or.inl rfl)) (pgs_cons (pg_name (i := 2) nd rfl (Or.inl rfl)) pgs_nil)))
      (pss_one (ps_for PassesOwn.never rfl (pi_list (pv 2)) (pg_name (i := 3) nd rfl (Or.inl rfl))
        (pss_one (ps_if (pt_cmpR op_notIn_seq (pv 1) (pe_ix ix_list (pv 0) (pv 3) (fun _ _ => rfl)) rfl) pss_never pss_nil)))))
    (pss_one (ps_ret pe_non)), ?_⟩
  refine ⟨_, rfl, T, rfl, ⟨_, R.top⟩, for_enum (xs := as.map V.ref) (fun i σ H' => ∃ (o1 o2 o3 : Option V), σ = [some (.ref T), o1, o2, o3] ∧ Same H H') ⟨_, _, _, rfl, Same.refl _⟩ ?_ ?_ ?_⟩
  · rintro i σ H' _ ⟨o1, o2, o3, rfl, sm⟩
    exact SqL.of (sm _ _ R.top)
  · rintro i x t σ H1 hx ht ⟨o1, o2, o3, rfl, sm⟩
    obtain ⟨ai, rfl, hai, hi, hrow⟩ := row_at (rows_same R sm) hx
    refine ⟨t, _, rfl, SqT.of upd_same, rfl, _, _, rfl, _, _, rfl, rfl, ?_⟩
    have s2 := same_new ht (.tup [V.int (i : Int), V.ref ai])
    generalize upd H1 t (.tup [V.int (i : Int), V.ref ai]) = H2 at s2
    have sm2 := sm.trans s2
    refine ⟨_, rfl, ai, rfl, ⟨_, SqL.of (s2 _ _ hrow)⟩, for_list (K := K) (a := ai) (xs := rowV (row w' i)) (fun j σ H' => ∃ (o3 : Option V), σ = [some (.ref T), some (.int (i : Int)), some (.ref ai), o3] ∧ Same H2 H') ⟨_, rfl, Same.refl _⟩ ?_ ?_ ?_⟩
    · rintro j σ H' _ ⟨o3, rfl, sm'⟩
      exact SqL.of (sm' _ _ (s2 _ _ hrow))
    · rintro j x σ H3 hx ⟨o3, rfl, sm3⟩
      obtain ⟨n, hn, rfl⟩ := rowV_inv hx
      have hmem := List.mem_of_getElem? hn
      have hnw := g.rng _ _ hmem
      have R3 := rows_same R (sm2.trans sm3)
      obtain ⟨an, han, hrn⟩ := R3.at hnw
      refine ⟨_, rfl, _, rfl, _, rfl, T, _, _, _, rfl, rfl, SqL.of R3.top, atI_nat (by rw [List.getElem?_map, han]; rfl), an, _, rfl, .inl (SqL.of hrn), rfl, rowV_flat _, _, rfl, ?_⟩
      show (if (!inV (.int (i : Int)) (rowV (row w' n))) = true then _ else _)
      rw [inV_row, decide_eq_true (g.sym _ _ hmem)]
      exact iteF ⟨_, rfl, sm3⟩
    · rintro σ H3 ⟨o3, rfl, sm3⟩
      exact ⟨_, _, _, rfl, sm2.trans sm3⟩
  · rintro σ H1 ⟨o1, o2, o3, rfl, sm⟩
    exact q H1 sm
end
end K11

set_option Elab.async false
set_option linter.all false
set_option maxRecDepth 100000
set_option maxHeartbeats 4000000
namespace K11
open PySem L2 Wb
/-! the points that are reached -/
structure RI (w : W) (bs : List Bool) (ws ex : List Nat) (c : Nat) : Prop where
  len : bs.length = w.length
  z : bs[0]? = some true
  wt : ∀ x ∈ ws, bs[x]? = some true
  cl : ∀ x, bs[x]? = some true → x ∈ ws ∨ x ∈ ex ∨ ∀ q ∈ row w x, bs[q]? = some true
  cnt : bs.count false + ws.length ≤ c
theorem RI.pop {w : W} {bs : List Bool} {ws : List Nat} {p c : Nat} (h : RI w bs (ws ++ [p]) [] (c + 1)) : RI w bs ws [p] c :=
  ⟨h.len, h.z, fun x hx => h.wt x (List.mem_append_left _ hx), fun x hx => by
    rcases h.cl x hx with q | q | q
    · rcases List.mem_append.mp q with q | q
      · exact .inl q
      · exact .inr (.inl q)
    · cases q
    · exact .inr (.inr q), by have := h.cnt; rw [List.length_append] at this; simp at this; omega⟩
theorem RI.push {w : W} {bs : List Bool} {ws ex : List Nat} {q c : Nat} (h : RI w bs ws ex c) (hq : bs[q]? = some false) : RI w (bs.set q true) (ws ++ [q]) ex c := by
  obtain ⟨hl, he⟩ := List.getElem?_eq_some_iff.mp hq
  have up : ∀ x, bs[x]? = some true → (bs.set q true)[x]? = some true := fun x hx => by
    rw [List.getElem?_set]
    by_cases e : q = x
    · rw [if_pos e, if_pos hl]
    · rw [if_neg e]; exact hx
  refine ⟨by rw [List.length_set]; exact h.len, up _ h.z, fun x hx => ?_, fun x hx => ?_, ?_⟩
  · rcases List.mem_append.mp hx with z | z
    · exact up _ (h.wt x z)
    · have : x = q := by simpa using z
      rw [this, List.getElem?_set, if_pos rfl, if_pos hl]
  · by_cases e : q = x
    · exact .inl (by rw [e]; simp)
    · rw [List.getElem?_set, if_neg e] at hx
      rcases h.cl x hx with z | z | z
      · exact .inl (List.mem_append_left _ z)
      · exact .inr (.inl z)
      · exact .inr (.inr fun y hy => up _ (z y hy))
  · have hc := h.cnt
    have : 0 < bs.count false := List.count_pos_iff.mpr (by rw [← he]; exact List.getElem_mem hl)
    rw [List.count_set hl, he, List.length_append]
    simp
    omega
theorem RI.close {w : W} {bs : List Bool} {ws : List Nat} {p c : Nat} (h : RI w bs ws [p] c) (hp : ∀ q ∈ row w p, bs[q]? = some true) : RI w bs ws [] c :=
  ⟨h.len, h.z, h.wt, fun x hx => by
    rcases h.cl x hx with q | q | q
    · exact .inl q
    · have : x = p := by simpa using q
      rw [this]; exact .inr (.inr hp)
    · exact .inr (.inr q), h.cnt⟩
theorem RI.all {w : W} {bs : List Bool} {c : Nat} (g : Good w) (h : RI w bs [] [] c) : bs = List.replicate w.length true := by
  have := closed_all g (S := fun x => bs[x]? = some true) h.z fun p q hp hq => by
    rcases h.cl p hp with z | z | z
    · cases z
    · cases z
    · exact z q hq
  refine List.ext_getElem? fun i => ?_
  by_cases hi : i < w.length
  · rw [this i hi, List.getElem?_replicate, if_pos hi]
  · rw [List.getElem?_eq_none (by rw [h.len]; omega), List.getElem?_eq_none (by simp; omega)]
def blV (bs : List Bool) : List V := bs.map V.bl
theorem blV_get {bs : List Bool} {i : Nat} {b : Bool} (h : bs[i]? = some b) : (blV bs)[i]? = some (.bl b) := by unfold blV; rw [List.getElem?_map, h]; rfl
theorem blV_set (bs : List Bool) (i : Nat) (b : Bool) : (blV bs).set i (.bl b) = blV (bs.set i b) := by unfold blV; rw [List.map_set]
theorem blV_len (bs : List Bool) : (blV bs).length = bs.length := List.length_map _
theorem gName_of {i : Nat} {v : V} {σ : St} {H : Hp} {Q : St → Hp → Prop} (h : Q (σ.set i (some v)) H) : gName i v σ H Q := h
theorem tSeq_of {t u : TS} {D : Ends} {σ : St} {H : Hp} (h : t { D with nx := u D } σ H) : tSeq t u D σ H := h
def mz (H : Hp) (R W : Addr) : Nat := (match H R with | some (.lst xs) => (xs.filter fun v => decide (v = V.bl false)).length | _ => 0) + (match H W with | some (.lst xs) => xs.length | _ => 0)
theorem mz_eq {H : Hp} {R W : Addr} {bs : List Bool} {ws : List Nat} (h1 : H R = some (.lst (blV bs))) (h2 : H W = some (.lst (rowV ws))) : mz H R W = bs.count false + ws.length := by
  unfold mz
  rw [h1, h2]
  show ((blV bs).filter fun v => decide (v = V.bl false)).length + (rowV ws).length = _
  rw [rowV_len]
  congr 1
  unfold blV
  rw [List.filter_map, List.length_map, List.count_eq_countP, List.countP_eq_length_filter]
  congr 1
  apply List.filter_congr
  intro b _
  cases b <;> simp
section
variable {P : Program} {w : World} {K : PySem.W.Frag} {mg : Str → Option Value} {base : Heap}
def spReached : Sp := fun vs H Q _ => ∃ (T : Addr) (as : List Addr) (w : W), vs = [.ref T] ∧ RowsAt H T as w ∧ Good w ∧ 1 ≤ w.length ∧ w.length ≤ 14 ∧ ∀ (R : Addr) (H' : Hp), Same H H' → H' R = some (.lst (blV (List.replicate w.length true))) → Q (.ref R) H'
theorem scReached : FnScope ["rows", "reached", "waiting", "p", "q"] ["rows"] (defScope sReached) := ⟨rfl, rfl, rfl, by decide +kernel, rfl, by decide +kernel, by decide +kernel⟩
theorem ok_reached (B : Blt mg) (D : Dfn K mg "reached_from_first" sReached ["rows"]) : FnOk P w K mg base CX0 1 D.f D.fd ["rows"] spReached := by
  refine D.F.ok scReached (fun vs H Q E h => ?_) (fun cdv A outer s H vs Q E hr h => ?_)
  · obtain ⟨T, as, w, rfl, _⟩ := h
    rfl
  obtain ⟨T, as, w', rfl, R, g, h1, h14, q⟩ := h
  have nd := scReached.nd
  have nd1 : (["row"] : List Str).Nodup := by decide +kernel
  refine ⟨_, pss_cons (ps_setlc (i := 1) (NC := ["row"]) (src := [none]) rfl nd rfl (Or.inl rfl) (CompOk.of (defScope sReached) rfl rfl (by decide +kernel) (by decide +kernel) (by decide +kernel)) trivial (pi_list (pv 0))
        (fun _ _ _ => pg_name (i := 0) nd1 rfl (Or.inl rfl)) (fun _ _ _ => pts_nil) (fun _ _ _ => pe_bl) rfl)
    (pss_cons (ps_asg pe_bl (pg_sub (pv 1) pe_int set_list))
    (pss_cons (ps_set (i := 2) nd rfl (Or.inl rfl) (pe_lst (pa_cons pe_int pa_nil)))
    (pss_cons (ps_while PassesOwn.never (pt_truth (pv 2) (fun _ => rfl))
      (pss_cons (ps_set (i := 3) nd rfl (Or.inl rfl) (pe_bm0 PySem.F.plainAttrs_list PySem.F.slot_list_pop PySem.F.type_list_pop mt_pop (pv 2)))
      (pss_one (ps_for PassesOwn.never rfl (pi_list (pe_ix ix_list (pv 0) (pv 3) (fun _ _ => rfl))) (pg_name (i := 4) nd rfl (Or.inl rfl))
        (pss_one (ps_if (pt_not (pt_val (pe_ix ix_list (pv 1) (pv 4) (fun _ _ => rfl))))
          (pss_cons (ps_asg pe_bl (pg_sub (pv 1) (pv 4) set_list))
          (pss_one (ps_expr (pe_bm PySem.F.plainAttrs_list PySem.F.slot_list_append PySem.F.type_list_append mt_append (pv 2) (pa_cons (pv 4) pa_nil))))) pss_nil))))))
    (pss_one (ps_ret (pv 1)))))), ?_⟩
  refine ⟨_, rfl, T, rfl, ⟨_, SqL.of R.top⟩, fun Rc hRc => ?_⟩
  refine lc_by (as.map V.ref).length (fun i σc Hc => ∃ (o : Option V), σc = [o] ∧ Same H Hc ∧ Hc Rc = some (.lst (blV (List.replicate i false)))) ?_ ?_ ?_ ?_ ?_
  · exact ⟨none, rfl, same_new hRc _, upd_same⟩
  · rintro i σc Hc hi ⟨o, rfl, sm, _⟩
    exact ⟨_, _, SqL.of (sm _ _ R.top), List.getElem?_eq_getElem hi⟩
  · rintro i σc Hc hi ⟨o, rfl, sm, _⟩
    exact ⟨_, SqL.of (sm _ _ R.top), hi⟩
  · rintro i x σc Hc H3 hi ⟨o, rfl, sm, hR⟩ ⟨rfl, hx⟩
    rw [List.length_map, R.len] at hi
    refine gYes ?_
    refine ⟨_, hR, small1000 (by rw [blV_len, List.length_replicate]; omega), _, rfl, fun b u eb => ?_, ?_⟩
    · rw [upd_ne (ne_of_none eb hRc)]; exact sm _ _ eb
    · rw [upd_same, List.replicate_succ']
      unfold blV
      rw [List.map_append]; rfl
  rintro σc H1 ⟨o, rfl, sm1, hR1⟩
  rw [List.length_map, R.len] at hR1
  refine ⟨_, rfl, Rc, _, 0, 0, rfl, rfl, hR1, ?_, ?_⟩
  · rw [blV_len, List.length_replicate]; exact ixN_nat (k := 0) (by omega)
  rw [blV_set]
  have hRcH := hRc
  have sm2 : Same H (upd H1 Rc (.lst (blV ((List.replicate w'.length false).set 0 true)))) := fun b u eb => by rw [upd_ne (ne_of_none eb hRc)]; exact sm1 _ _ eb
  have hR2 : upd H1 Rc (.lst (blV ((List.replicate w'.length false).set 0 true))) Rc = some (.lst (blV ((List.replicate w'.length false).set 0 true))) := upd_same
  generalize upd H1 Rc (.lst (blV ((List.replicate w'.length false).set 0 true))) = H2 at sm2 hR2
  refine ⟨by show 1 ≤ sizeLine; decide, fun Wt hWt => ?_⟩
  have nRW : Rc ≠ Wt := ne_of_none hR2 hWt
  have hWH : H Wt = none := sm2.free hWt
  have s3 := same_new hWt (.lst [V.int 0])
  have hW3 : upd H2 Wt (.lst [V.int 0]) Wt = some (.lst (rowV [0])) := upd_same
  have hR3 := s3 _ _ hR2
  generalize upd H2 Wt (.lst [V.int 0]) = H3 at s3 hW3 hR3
  have nTR : T ≠ Rc := ne_of_none R.top hRc
  have nTW : T ≠ Wt := ne_of_none R.top hWH
  refine gName_of ?_
  dsimp only
  refine tSeq_of ?_
  refine (while_by (fun σ H' => ∃ (bs : List Bool) (ws : List Nat) (o3 o4 : Option V) (c : Nat), σ = [some (.ref T), some (.ref Rc), some (.ref Wt), o3, o4] ∧ Same H H' ∧ H' Rc = some (.lst (blV bs)) ∧ H' Wt = some (.lst (rowV ws)) ∧ RI w' bs ws [] c ∧ c ≤ 14) (fun σ H' => mz H' Rc Wt) ?_ ?_ ?_)
  · refine ⟨_, [0], none, none, w'.length, rfl, sm2.trans s3, hR3, hW3, ⟨by simp, ?_, ?_, fun x hx => ?_, ?_⟩, h14⟩
    · rw [List.getElem?_set, if_pos rfl, if_pos (by rw [List.length_replicate]; omega)]
    · intro x hx
      have : x = 0 := by simpa using hx
      rw [this, List.getElem?_set, if_pos rfl, if_pos (by rw [List.length_replicate]; omega)]
    · by_cases e : 0 = x
      · exact .inl (by rw [← e]; simp)
      · rw [List.getElem?_set, if_neg e, List.getElem?_replicate] at hx
        split at hx <;> cases hx
    · rw [List.count_set (by rw [List.length_replicate]; omega), List.count_replicate_self, List.getElem_replicate]
      simp
      omega
  · rintro σ H4 ⟨bs, ws, o3, o4, c, rfl, sm4, hR4, hW4, ri, hc⟩
    refine ⟨_, rfl, _, .inl ⟨_, SqL.of hW4, rfl⟩, ?_⟩
    rcases List.eq_nil_or_concat ws with rfl | ⟨ws', p, e⟩
    · refine iteF ?_
      have e := ri.all g
      rw [e] at hR4
      exact ⟨_, rfl, q Rc H4 sm4 hR4⟩
    · rw [List.concat_eq_append] at e
      subst e
      have ne : (rowV (ws' ++ [p])).isEmpty = false := by unfold rowV; simp
      rw [ne]
      refine iteT ?_
      have cpos : ws'.length + 1 ≤ c := by have := ri.cnt; rw [List.length_append] at this; simp at this; omega
      obtain ⟨c', rfl⟩ : ∃ c', c = c' + 1 := ⟨c - 1, by omega⟩
      have ri2 := ri.pop
      have hp : bs[p]? = some true := ri.wt p (by simp)
      have hpw : p < w'.length := by rw [← ri.len]; exact (List.getElem?_eq_some_iff.mp hp).1
      have hlast : (rowV (ws' ++ [p]))[(rowV (ws' ++ [p])).length - 1]? = some (.int (p : Int)) := by
        rw [rowV_len, List.length_append]
        exact rowV_get (by simp)
      have hdrop : (rowV (ws' ++ [p])).dropLast = rowV ws' := by
        unfold rowV
        rw [List.map_append]; simp
      have hM : mz H4 Rc Wt = bs.count false + (ws'.length + 1) := by rw [mz_eq hR4 hW4, List.length_append]; rfl
      refine ⟨_, rfl, .inl ⟨rfl, _, SqL.of hW4⟩, Wt, _, _, rfl, rfl, hW4, hlast, ?_⟩
      rw [hdrop]
      have sm5 : Same H (upd H4 Wt (.lst (rowV ws'))) := fun b u eb => by rw [upd_ne (ne_of_none eb hWH)]; exact sm4 _ _ eb
      have hW5 : upd H4 Wt (.lst (rowV ws')) Wt = some (.lst (rowV ws')) := upd_same
      have hR5 : upd H4 Wt (.lst (rowV ws')) Rc = some (.lst (blV bs)) := by rw [upd_ne nRW]; exact hR4
      generalize upd H4 Wt (.lst (rowV ws')) = H5 at sm5 hW5 hR5
      have R5 := rows_same R sm5
      obtain ⟨ap, hap, hrow5⟩ := R5.at hpw
      have hrow0 := R.row p ap hap
      refine ⟨_, rfl, _, rfl, T, _, _, _, rfl, rfl, SqL.of R5.top, atI_nat (by rw [List.getElem?_map, hap]; rfl), ap, rfl, ⟨_, SqL.of hrow5⟩, for_list (K := K) (a := ap) (xs := rowV (row w' p)) (fun j σ H' => ∃ (bs1 : List Bool) (ws1 : List Nat) (o4 : Option V), σ = [some (.ref T), some (.ref Rc), some (.ref Wt), some (.int (p : Int)), o4] ∧ Same H H' ∧ H' Rc = some (.lst (blV bs1)) ∧ H' Wt = some (.lst (rowV ws1)) ∧ RI w' bs1 ws1 [p] c' ∧ (∀ k n, k < j → (row w' p)[k]? = some n → bs1[n]? = some true) ∧ bs1.count false + ws1.length ≤ bs.count false + ws'.length) ?_ ?_ ?_ ?_⟩
      · exact ⟨bs, ws', _, rfl, sm5, hR5, hW5, ri2, (fun k n hk => by omega), Nat.le_refl _⟩
      · rintro j σ H' _ ⟨bs1, ws1, o4, rfl, sm, _⟩
        exact SqL.of (sm _ _ hrow0)
      · rintro j x σ H6 hx ⟨bs1, ws1, o4, rfl, sm6, hR6, hW6, ri6, don6, cn6⟩
        obtain ⟨n, hn, rfl⟩ := rowV_inv hx
        have hnw := g.rng _ _ (List.mem_of_getElem? hn)
        have hnb : n < bs1.length := by rw [ri6.len]; exact hnw
        have hbn : bs1[n]? = some (bs1[n]) := List.getElem?_eq_getElem hnb
        refine ⟨_, rfl, _, rfl, Rc, _, _, _, rfl, rfl, SqL.of hR6, atI_nat (blV_get hbn), _, rfl, ?_⟩
        generalize bs1[n] = bn at hbn
        cases bn with
        | true =>
          refine iteF ⟨bs1, ws1, _, rfl, sm6, hR6, hW6, ri6, fun k y hk hy => ?_, cn6⟩
          by_cases e : k = j
          · rw [e, hn] at hy; cases hy; exact hbn
          · exact don6 k y (by omega) hy
        | false =>
          refine iteT ?_
          refine ⟨_, rfl, _, rfl, Rc, _, _, n, rfl, rfl, hR6, by rw [blV_len]; exact ixN_nat hnb, ?_⟩
          rw [blV_set]
          have hW7 : upd H6 Rc (.lst (blV (bs1.set n true))) Wt = some (.lst (rowV ws1)) := by rw [upd_ne (Ne.symm nRW)]; exact hW6
          have ri7 := ri6.push hbn
          have cnt := ri6.cnt
          have cnt7 := ri7.cnt
          refine ⟨_, rfl, .inl ⟨rfl, _, SqL.of hW7⟩, _, rfl, Wt, _, _, rfl, rfl, hW7, small1000 (by rw [rowV_len]; omega), ?_⟩
          have er : rowV ws1 ++ [V.int (n : Int)] = rowV (ws1 ++ [n]) := by rw [← rowV_app]; rfl
          rw [er]
          refine ⟨bs1.set n true, ws1 ++ [n], _, rfl, fun b u eb => ?_, ?_, upd_same, ri7, fun k y hk hy => ?_, ?_⟩
          · rw [upd_ne (ne_of_none eb hWH), upd_ne (ne_of_none eb hRcH)]; exact sm6 _ _ eb
          · rw [upd_ne nRW, upd_same]
          · rw [List.getElem?_set]
            by_cases e : n = y
            · rw [if_pos e, if_pos hnb]
            · rw [if_neg e]
              refine don6 k y ?_ hy
              apply Classical.byContradiction
              intro z
              have : k = j := by omega
              rw [this, hn] at hy; cases hy; exact e rfl
          · obtain ⟨hl, he⟩ := List.getElem?_eq_some_iff.mp hbn
            have : 0 < bs1.count false := List.count_pos_iff.mpr (by rw [← he]; exact List.getElem_mem hl)
            rw [List.count_set hl, he, List.length_append]
            simp
            omega
      · rintro σ H6 ⟨bs1, ws1, o4, rfl, sm6, hR6, hW6, ri6, don6, cn6⟩
        have ri7 := ri6.close fun y hy => by
          obtain ⟨k, hk⟩ := List.getElem?_of_mem hy
          exact don6 k y (by rw [rowV_len]; exact (List.getElem?_eq_some_iff.mp hk).1) hk
        refine ⟨⟨bs1, ws1, _, _, c', rfl, sm6, hR6, hW6, ri7, by omega⟩, ?_⟩
        show mz H6 Rc Wt < mz H4 Rc Wt
        rw [hM, mz_eq hR6 hW6]
        omega
  · rintro σ H4 Q1 Q2 hq ⟨v, e, k, t, h⟩
    exact ⟨v, e, k, t, hq _ _ h⟩
theorem scApart : FnScope ["rows", "q", "reached"] ["rows"] (defScope sApart) := ⟨rfl, rfl, rfl, by decide +kernel, rfl, by decide +kernel, by decide +kernel⟩
theorem ok_apart (B : Blt mg) (Re : Dfn K mg "reached_from_first" sReached ["rows"]) (D : Dfn K mg "apart_fault" sApart ["rows"]) : FnOk P w K mg base CX0 2 D.f D.fd ["rows"] spNo := by
  refine D.F.ok scApart (fun vs H Q E h => ?_) (fun cdv A outer s H vs Q E hr h => ?_)
  · obtain ⟨T, as, w, rfl, _⟩ := h
    rfl
  obtain ⟨T, as, w', rfl, R, g, h1, h14, q⟩ := h
  have nd := scApart.nd
  have gR := ok_reached (P := P) (w := w) (base := base) B Re
  refine ⟨_, pss_cons (ps_for PassesOwn.never rfl (pi_enum rfl B.enumerate (pa_cons (pe_call gR hr rfl Re.m Re.F.kp Re.b .nil pass0 (pa_cons (pv 0) pa_nil)) pa_nil)) (pg_tup rfl (pgs_cons (pg_name (i := 1) nd rfl (Or.inl rfl)) (pgs_cons (pg_name (i := 2) nd rfl (Or.inl rfl)) pgs_nil)))
      (pss_one (ps_if (pt_not (pt_val (pv 2))) pss_never pss_nil)))
    (pss_one (ps_ret pe_non)), ?_⟩
  refine ⟨_, rfl, T, as, w', rfl, R, g, h1, h14, fun L H1 s1 hL => ?_⟩
  refine ⟨L, rfl, ⟨_, hL⟩, for_enum (xs := blV (List.replicate w'.length true)) (fun i σ H' => ∃ (o1 o2 : Option V), σ = [some (.ref T), o1, o2] ∧ Same H1 H') ⟨_, _, rfl, Same.refl _⟩ ?_ ?_ ?_⟩
  · rintro i σ H' _ ⟨o1, o2, rfl, sm⟩
    exact SqL.of (sm _ _ hL)
  · rintro i x t σ H2 hx ht ⟨o1, o2, rfl, sm⟩
    have ex : x = .bl true := by
      unfold blV at hx
      rw [List.getElem?_map, List.getElem?_replicate] at hx
      split at hx
      · exact (Option.some.inj hx).symm
      · cases hx
    subst ex
    refine ⟨t, _, rfl, SqT.of upd_same, rfl, _, _, rfl, _, _, rfl, rfl, ?_⟩
    refine ⟨_, rfl, _, rfl, iteF ?_⟩
    exact ⟨_, _, rfl, sm.trans (same_new ht _)⟩
  · rintro σ H2 ⟨o1, o2, rfl, sm⟩
    exact q H2 (s1.trans sm)
theorem scFirst : FnScope ["rows", "fault"] ["rows"] (defScope sFirst) := ⟨rfl, rfl, rfl, by decide +kernel, rfl, by decide +kernel, by decide +kernel⟩
theorem ok_first (B : Blt mg) (Am : Dfn K mg "is_among" sAmong ["thing", "many"]) (Al : Dfn K mg "alien_fault" sAlien ["rows"]) (Se : Dfn K mg "self_fault" sSelf ["rows"]) (Tw : Dfn K mg "twice_fault" sTwice ["rows"]) (Lo : Dfn K mg "lone_fault" sLone ["rows"]) (Re : Dfn K mg "reached_from_first" sReached ["rows"]) (Ap : Dfn K mg "apart_fault" sApart ["rows"])
    (D : Dfn K mg "first_fault" sFirst ["rows"]) : FnOk P w K mg base CX0 3 D.f D.fd ["rows"] spNo := by
  refine D.F.ok scFirst (fun vs H Q E h => ?_) (fun cdv A outer s H vs Q E hr h => ?_)
  · obtain ⟨T, as, w, rfl, _⟩ := h
    rfl
  obtain ⟨T, as, w', rfl, R, g, h1, h14, q⟩ := h
  have nd := scFirst.nd
  have g1 := ok_alien (P := P) (w := w) (base := base) B Am Al
  have g2 := (ok_self (P := P) (w := w) (base := base) B Se).mono (show 1 ≤ 2 by decide)
  have g3 := (ok_twice (P := P) (w := w) (base := base) B Tw).mono (show 1 ≤ 2 by decide)
  have g4 := (ok_lone (P := P) (w := w) (base := base) B Lo).mono (show 1 ≤ 2 by decide)
  have g5 := ok_apart (P := P) (w := w) (base := base) B Re Ap
  refine ⟨_, pss_cons (ps_set (i := 1) nd rfl (Or.inl rfl) (pe_call g1 hr rfl Al.m Al.F.kp Al.b .nil pass0 (pa_cons (pv 0) pa_nil)))
    (pss_cons (ps_if (pt_cmp (pc_isN (pv 1))) (pss_one (ps_set (i := 1) nd rfl (Or.inl rfl) (pe_call g2 hr rfl Se.m Se.F.kp Se.b .nil pass0 (pa_cons (pv 0) pa_nil)))) pss_nil)
    (pss_cons (ps_if (pt_cmp (pc_isN (pv 1))) (pss_one (ps_set (i := 1) nd rfl (Or.inl rfl) (pe_call g3 hr rfl Tw.m Tw.F.kp Tw.b .nil pass0 (pa_cons (pv 0) pa_nil)))) pss_nil)
    (pss_cons (ps_if (pt_cmp (pc_isN (pv 1))) (pss_one (ps_set (i := 1) nd rfl (Or.inl rfl) (pe_call g4 hr rfl Lo.m Lo.F.kp Lo.b .nil pass0 (pa_cons (pv 0) pa_nil)))) pss_nil)
    (pss_cons (ps_if (pt_cmp (pc_isN (pv 1))) (pss_one (ps_set (i := 1) nd rfl (Or.inl rfl) (pe_call g5 hr rfl Ap.m Ap.F.kp Ap.b .nil pass0 (pa_cons (pv 0) pa_nil)))) pss_nil)
    (pss_one (ps_ret (pv 1))))))), ?_⟩
  refine ⟨_, rfl, T, as, w', rfl, R, g, h1, h14, fun H1 s1 => ?_⟩
  refine ⟨_, rfl, _, rfl, iteT ?_⟩
  refine ⟨_, rfl, T, as, w', rfl, rows_same R s1, g, h1, h14, fun H2 s2 => ?_⟩
  refine ⟨_, rfl, _, rfl, iteT ?_⟩
  refine ⟨_, rfl, T, as, w', rfl, rows_same R (s1.trans s2), g, h1, h14, fun H3 s3 => ?_⟩
  refine ⟨_, rfl, _, rfl, iteT ?_⟩
  refine ⟨_, rfl, T, as, w', rfl, rows_same R ((s1.trans s2).trans s3), g, h1, h14, fun H4 s4 => ?_⟩
  refine ⟨_, rfl, _, rfl, iteT ?_⟩
  refine ⟨_, rfl, T, as, w', rfl, rows_same R (((s1.trans s2).trans s3).trans s4), g, h1, h14, fun H5 s5 => ?_⟩
  exact ⟨_, rfl, q H5 ((((s1.trans s2).trans s3).trans s4).trans s5)⟩
end
end K11

set_option Elab.async false
set_option linter.all false
set_option maxRecDepth 100000
set_option maxHeartbeats 4000000
namespace L2
open PySem
def rListOf (K : PySem.W.Frag) : List V → Hp → VK → Prop := fun xs H Q => ∃ p ys, xs = [.ref p] ∧ (SqL K H p ys ∨ SqT K H p ys) ∧ ∀ l, H l = none → Q (.ref l) (upd H l (.lst ys))
theorem call_listK {X : Cx} {K : PySem.W.Frag} (e : X.K = K := by rfl) : CallR X (.type "list") (rListOf K) := call_list_ofK e
theorem pi_listK {X : Cx} {tg l : Expr} {tl : TE} {K : PySem.W.Frag} (hl : PE X l tl) (e : X.K = K := by rfl) : PI X tg l (iList K tl) := by rw [← e]; exact pi_list hl
theorem pg_tupK {X : Cx} {K : PySem.W.Frag} {es : List Expr} {k1 : Nat} {tp : Pos} {n : Nat} {t : TGs} (e : X.K = K) (hc : X.calm = true) (h : PGs X es t) (hn : (assignEach es X.env).length = n := by rfl) (hst : (assignEach es X.env).findIdx? (·.1) = none := by rfl) : PG X (.Tuple es k1 tp) (gTup K n t) := by subst e; exact pg_tup hc h hn hst
end L2
namespace K11
open PySem L2 Wb
abbrev sInitW : Stmt := inClass (top 18) 0
abbrev sMany : Stmt := inClass (top 18) 1
abbrev sTurns : Stmt := inClass (top 18) 2
abbrev sTies : Stmt := inClass (top 18) 3
abbrev sTied : Stmt := inClass (top 18) 4
abbrev sBehind : Stmt := inClass (top 18) 5
/-- [list(row) for row in T] -/
theorem copy_lc {K : PySem.W.Frag} {H : Hp} {T D : Addr} {as : List Addr} {w : W} {Q : VK} (R : RowsAt H T as w) (h14 : w.length ≤ 14) (hD : H D = none)
    (q : ∀ (rs : List Addr) (H' : Hp), Same H H' → (∀ a ∈ rs, H a = none) → RowsAt H' D rs w → Q (.ref D) H') : LCW (Itl K T) (gName 0) tYes (tCB (rListOf K) (tCons (tVar 0) tNil)) D Q [none] (upd H D (.lst [])) := by
  refine lc_by (as.map V.ref).length (fun i σc Hc => ∃ (o : Option V) (rs : List Addr), σc = [o] ∧ Same H Hc ∧ (∀ a ∈ rs, H a = none) ∧ RowsAt Hc D rs (w.take i)) ?_ ?_ ?_ ?_ ?_
  · exact ⟨none, [], rfl, same_new hD _, (fun a ha => by cases ha), upd_same, List.nodup_nil, by simp, rfl, fun i a e => by simp at e⟩
  · rintro i σc Hc hi ⟨o, rs, rfl, sm, _⟩
    exact ⟨_, _, SqL.of (sm _ _ R.top), List.getElem?_eq_getElem hi⟩
  · rintro i σc Hc hi ⟨o, rs, rfl, sm, _⟩
    exact ⟨_, SqL.of (sm _ _ R.top), hi⟩
  · rintro i x σc Hc H3 hi ⟨o, rs, rfl, sm, fr, Rc⟩ ⟨rfl, hx⟩
    obtain ⟨ai, rfl, hai, hiw, hrow⟩ := row_at (rows_same R sm) (hx _ (SqL.of (sm _ _ R.top)))
    refine gYes ?_
    refine ⟨_, rfl, ai, _, rfl, .inl (SqL.of hrow), fun l hl => ?_⟩
    have nlD : l ≠ D := fun z => by rw [z, Rc.top] at hl; cases hl
    have nlrs : l ∉ rs := fun z => by
      obtain ⟨k, hk⟩ := List.getElem?_of_mem z
      rw [Rc.row k l hk] at hl; cases hl
    have lrs : rs.length = i := by rw [Rc.len, List.length_take]; omega
    refine ⟨_, by rw [upd_ne (Ne.symm nlD)]; exact Rc.top, small1000 (by rw [List.length_map, lrs]; omega), _, rs ++ [l], rfl, fun b u eb => ?_, fun a ha => ?_, ?_⟩
    · rw [upd_ne (ne_of_none eb hD), upd_ne (ne_of_none (sm _ _ eb) hl)]; exact sm _ _ eb
    · rcases List.mem_append.mp ha with z | z
      · exact fr a z
      · have : a = l := by simpa using z
        rw [this]; exact sm.free hl
    · have ew : w.take (i + 1) = w.take i ++ [row w i] := by
        have hg := row_get hiw
        obtain ⟨hlt, hge⟩ := List.getElem?_eq_some_iff.mp hg
        rw [List.take_succ_eq_append_getElem hlt, hge]
      rw [ew]
      refine Rc.snoc nlrs nlD (fun b hb => ?_) ?_ ?_
      · rw [upd_ne (fun z => Rc.nT (by rw [← z]; exact hb)), upd_ne (fun z => nlrs (by rw [← z]; exact hb))]
      · rw [upd_same, List.map_append]; rfl
      · rw [upd_ne nlD, upd_same]
  · rintro σc Hc ⟨o, rs, rfl, sm, fr, Rc⟩
    rw [List.length_map, R.len, List.take_length] at Rc
    exact q rs Hc sm fr Rc
/-- a web -/
structure WebAt (C : Addr) (H : Hp) (p R : Addr) (rs : List Addr) (w : W) : Prop where
  ob : ∃ dx, H p = some (.ins C dx [("rows", .ref R)])
  rows : RowsAt H R rs w
theorem WebAt.same {C : Addr} {H H' : Hp} {p R : Addr} {rs : List Addr} {w : W} (W : WebAt C H p R rs w) (s : Same H H') : WebAt C H' p R rs w :=
  ⟨let ⟨dx, e⟩ := W.ob; ⟨dx, s _ _ e⟩, rows_same W.rows s⟩
structure WTxt (K : PySem.W.Frag) (mg : Str → Option Value) (C : Addr) : Prop where
  cl : Cls K C
  nR : NoAttr K C "rows"
  mp : ∃ tk, mg "MOST_POINTS" = some (.int 14 tk)
section
variable {P : Program} {w : World} {K : PySem.W.Frag} {mg : Str → Option Value} {base : Heap}
def spInitW (C : Addr) : Sp := fun vs H Q _ => ∃ (p dx T : Addr) (as : List Addr) (w : W), vs = [.ref p, .ref T] ∧ H p = some (.ins C dx []) ∧ RowsAt H T as w ∧ Good w ∧ 1 ≤ w.length ∧ w.length ≤ 14 ∧
  ∀ (R : Addr) (rs : List Addr) (H' : Hp), (∀ b o, H b = some o → b ≠ p → H' b = some o) → H R = none → (∀ a ∈ rs, H a = none) → WebAt C H' p R rs w → Q .non H'
theorem scInitW : FnScope ["self", "turns", "rows", "fault"] ["self", "turns"] (defScope sInitW) := ⟨rfl, rfl, rfl, by decide +kernel, rfl, by decide +kernel, by decide +kernel⟩
theorem ok_initW {C f : Addr} {fd : FuncData} (B : Blt mg) (T : WTxt K mg C) (Am : Dfn K mg "is_among" sAmong ["thing", "many"]) (Al : Dfn K mg "alien_fault" sAlien ["rows"]) (Se : Dfn K mg "self_fault" sSelf ["rows"]) (Tw : Dfn K mg "twice_fault" sTwice ["rows"]) (Lo : Dfn K mg "lone_fault" sLone ["rows"]) (Re : Dfn K mg "reached_from_first" sReached ["rows"]) (Ap : Dfn K mg "apart_fault" sApart ["rows"])
    (Fi : Dfn K mg "first_fault" sFirst ["rows"]) (F : Fun K "__init__" "Web.__init__" sInitW f fd) : FnOk P w K mg base CX0 4 f fd ["self", "turns"] (spInitW C) := by
  refine F.ok scInitW (fun vs H Q E h => ?_) (fun cdv A outer s H vs Q E hr h => ?_)
  · obtain ⟨p, dx, T, as, w, rfl, _⟩ := h
    rfl
  obtain ⟨p, dx, Tt, as, w', rfl, hp, R, g, h1, h14, q⟩ := h
  have nd := scInitW.nd
  have nd1 : (["row"] : List Str).Nodup := by decide +kernel
  obtain ⟨tk, mp⟩ := T.mp
  have gF := ok_first (P := P) (w := w) (base := base) B Am Al Se Tw Lo Re Ap Fi
  refine ⟨_, pss_cons (ps_if (pt_not (pt_chain op_le op_le pe_int (pe_callB call_len_seq rfl B.len PySem.boot_len (pa_cons (pv 1) pa_nil)) (pe_glob rfl mp (v := .int 14) ⟨_, rfl⟩))) pss_never pss_nil)
    (pss_cons (ps_setlc (i := 2) (NC := ["row"]) (src := [none]) rfl nd rfl (Or.inl rfl) (CompOk.of (defScope sInitW) rfl rfl (by decide +kernel) (by decide +kernel) (by decide +kernel)) trivial (pi_list (pv 1))
        (fun _ _ _ => pg_name (i := 0) nd1 rfl (Or.inl rfl)) (fun _ _ _ => pts_nil) (fun _ _ _ => pe_callTy (call_listK (K := K)) rfl B.list boot_list (pa_cons (pv 0) pa_nil)) rfl)
    (pss_cons (ps_set (i := 3) nd rfl (Or.inl rfl) (pe_call gF hr rfl Fi.m Fi.F.kp Fi.b .nil pass0 (pa_cons (pv 2) pa_nil)))
    (pss_cons (ps_if (pt_cmp (pc_notN (pv 3))) pss_never pss_nil)
    (pss_one (ps_fld (pv 0) (pv 2) rfl))))), ?_⟩
  refine ⟨_, rfl, Tt, _, rfl, .inl (SqL.of R.top), _, _, rfl, rfl, _, rfl, ?_⟩
  have lm : (as.map V.ref).length = w'.length := by rw [List.length_map, R.len]
  rw [show decide ((1 : Int) ≤ ((as.map V.ref).length : Int)) = true from decide_eq_true (by omega)]
  refine iteT ⟨_, _, rfl, rfl, _, rfl, ?_⟩
  rw [show decide (((as.map V.ref).length : Int) ≤ 14) = true from decide_eq_true (by omega)]
  refine iteF ?_
  refine ⟨_, rfl, Tt, rfl, ⟨_, SqL.of R.top⟩, fun D hD => ?_⟩
  refine copy_lc R h14 hD fun rs H1 s1 fr1 R1 => ?_
  refine ⟨_, rfl, D, rs, w', rfl, R1, g, h1, h14, fun H2 s2 => ?_⟩
  refine ⟨_, rfl, _, rfl, iteF ?_⟩
  have s12 := s1.trans s2
  have R2 := rows_same R1 s2
  have npD : p ≠ D := ne_of_none hp hD
  refine ⟨_, rfl, _, rfl, p, C, dx, [], rfl, s12 _ _ hp, T.cl, T.nR, by decide, ?_⟩
  refine q D rs _ (fun b o eb ne => by rw [upd_ne ne]; exact s12 _ _ eb) hD fr1 ⟨⟨dx, upd_same⟩, R2.keep fun b hb => upd_ne fun z => ?_⟩
  rcases hb with hb | hb
  · exact npD (z.symm.trans hb)
  · have := fr1 b hb
    rw [z, hp] at this; cases this
def spMany (C : Addr) : Sp := fun vs H Q _ => ∃ (p R : Addr) (rs : List Addr) (w : W), vs = [.ref p] ∧ WebAt C H p R rs w ∧ Q (.int (w.length : Int)) H
theorem scMany : FnScope ["self"] ["self"] (defScope sMany) := ⟨rfl, rfl, rfl, by decide +kernel, rfl, by decide +kernel, by decide +kernel⟩
theorem ok_many {C f : Addr} {fd : FuncData} (B : Blt mg) (T : WTxt K mg C) (F : Fun K "many" "Web.many" sMany f fd) : FnOk P w K mg base CX0 1 f fd ["self"] (spMany C) := by
  refine F.ok scMany (fun vs H Q E h => ?_) (fun cdv A outer s H vs Q E hr h => ?_)
  · obtain ⟨p, R, rs, w, rfl, _⟩ := h
    rfl
  obtain ⟨p, R, rs, w', rfl, W, q⟩ := h
  obtain ⟨dx, hp⟩ := W.ob
  refine ⟨_, pss_one (ps_ret (pe_callB call_len_seq rfl B.len PySem.boot_len (pa_cons (pe_fld (pv 0) rfl) pa_nil))), ?_⟩
  refine ⟨_, rfl, p, C, dx, _, _, rfl, hp, T.cl, T.nR, rfl, R, _, rfl, .inl (SqL.of W.rows.top), ?_⟩
  rw [List.length_map, W.rows.len]
  exact q
def spTurns (C : Addr) : Sp := fun vs H Q _ => ∃ (p R : Addr) (rs : List Addr) (w : W), vs = [.ref p] ∧ WebAt C H p R rs w ∧ w.length ≤ 14 ∧ ∀ (D : Addr) (ds : List Addr) (H' : Hp), Same H H' → H D = none → (∀ a ∈ ds, H a = none) → RowsAt H' D ds w → Q (.ref D) H'
theorem scTurns : FnScope ["self"] ["self"] (defScope sTurns) := ⟨rfl, rfl, rfl, by decide +kernel, rfl, by decide +kernel, by decide +kernel⟩
theorem ok_turns {C f : Addr} {fd : FuncData} (B : Blt mg) (T : WTxt K mg C) (F : Fun K "turns" "Web.turns" sTurns f fd) : FnOk P w K mg base CX0 1 f fd ["self"] (spTurns C) := by
  refine F.ok scTurns (fun vs H Q E h => ?_) (fun cdv A outer s H vs Q E hr h => ?_)
  · obtain ⟨p, R, rs, w, rfl, _⟩ := h
    rfl
  obtain ⟨p, R, rs, w', rfl, W, h14, q⟩ := h
  obtain ⟨dx, hp⟩ := W.ob
  have nd1 : (["row"] : List Str).Nodup := by decide +kernel
  refine ⟨_, pss_one (ps_ret (pe_lc (NC := ["row"]) (src := [none]) rfl (CompOk.of (defScope sTurns) rfl rfl (by decide +kernel) (by decide +kernel) (by decide +kernel)) trivial (pi_list (pe_fld (pv 0) rfl))
        (fun _ _ _ => pg_name (i := 0) nd1 rfl (Or.inl rfl)) (fun _ _ _ => pts_nil) (fun _ _ _ => pe_callTy (call_listK (K := K)) rfl B.list boot_list (pa_cons (pv 0) pa_nil)))), ?_⟩
  refine ⟨_, rfl, p, C, dx, _, _, rfl, hp, T.cl, T.nR, rfl, R, rfl, ⟨_, SqL.of W.rows.top⟩, fun D hD => ?_⟩
  exact copy_lc W.rows h14 hD fun ds H1 s1 fr1 R1 => q D ds H1 s1 hD fr1 R1
def spTiedW (C : Addr) : Sp := fun vs H Q _ => ∃ (p R : Addr) (rs : List Addr) (w : W) (a b : Int), vs = [.ref p, .int a, .int b] ∧ WebAt C H p R rs w ∧ Good w ∧ Q (.bl (decide (0 ≤ a ∧ 0 ≤ b ∧ b.toNat ∈ row w a.toNat))) H
theorem scTiedW : FnScope ["self", "a", "b", "many"] ["self", "a", "b"] (defScope sTied) := ⟨rfl, rfl, rfl, by decide +kernel, rfl, by decide +kernel, by decide +kernel⟩
theorem ok_tiedW {C f : Addr} {fd : FuncData} (B : Blt mg) (T : WTxt K mg C) (Am : Dfn K mg "is_among" sAmong ["thing", "many"]) (F : Fun K "tied" "Web.tied" sTied f fd) : FnOk P w K mg base CX0 2 f fd ["self", "a", "b"] (spTiedW C) := by
  refine F.ok scTiedW (fun vs H Q E h => ?_) (fun cdv A outer s H vs Q E hr h => ?_)
  · obtain ⟨p, R, rs, w, a, b, rfl, _⟩ := h
    rfl
  obtain ⟨p, R, rs, w', a, b, rfl, W, g, q⟩ := h
  obtain ⟨dx, hp⟩ := W.ob
  have nd := scTiedW.nd
  have gA := ok_among (P := P) (w := w) (base := base) B Am
  refine ⟨_, pss_cons (ps_set (i := 3) nd rfl (Or.inl rfl) (pe_callB call_len_seq rfl B.len PySem.boot_len (pa_cons (pe_fld (pv 0) rfl) pa_nil)))
    (pss_one (ps_ret (pe_and (pe_call gA hr rfl Am.m Am.F.kp Am.b .nil pass0 (pa_cons (pv 1) (pa_cons (pv 3) pa_nil))) (pe_and (pe_call gA hr rfl Am.m Am.F.kp Am.b .nil pass0 (pa_cons (pv 2) (pa_cons (pv 3) pa_nil)))
      (pe_one (pe_cmpR op_in_seq (pv 2) (pe_ix ix_list (pe_fld (pv 0) rfl) (pv 1) (fun _ _ => rfl)) rfl)))))), ?_⟩
  refine ⟨_, rfl, p, C, dx, _, _, rfl, hp, T.cl, T.nR, rfl, R, _, rfl, .inl (SqL.of W.rows.top), ?_⟩
  have lm : (rs.map V.ref).length = w'.length := by rw [List.length_map, W.rows.len]
  refine ⟨_, rfl, _, rfl, _, _, rfl, _, rfl, ite2 (fun c => ?_) (fun c => ?_)⟩
  · have ca := of_decide_eq_true c
    refine ⟨_, rfl, _, rfl, _, _, rfl, _, rfl, ite2 (fun c2 => ?_) (fun c2 => ?_)⟩
    · have cb := of_decide_eq_true c2
      obtain ⟨an, rfl⟩ := Int.eq_ofNat_of_zero_le ca.1
      obtain ⟨bn, rfl⟩ := Int.eq_ofNat_of_zero_le cb.1
      have haw : an < w'.length := by omega
      obtain ⟨ra, hra, hrow⟩ := W.rows.at haw
      refine ⟨_, rfl, _, rfl, p, C, dx, _, _, rfl, hp, T.cl, T.nR, rfl, _, rfl, R, _, _, _, rfl, rfl, SqL.of W.rows.top, atI_nat (by rw [List.getElem?_map, hra]; rfl), ra, _, rfl, .inl (SqL.of hrow), rfl, rowV_flat _, ?_⟩
      show Q (.bl (inV (.int (bn : Int)) (rowV (row w' an)))) H
      rw [inV_row]
      have : decide (bn ∈ row w' an) = decide (0 ≤ (an : Int) ∧ 0 ≤ (bn : Int) ∧ (bn : Int).toNat ∈ row w' (an : Int).toNat) := by
        rw [decide_eq_decide, Int.toNat_natCast, Int.toNat_natCast]
        exact ⟨fun h => ⟨by omega, by omega, h⟩, fun h => h.2.2⟩
      rw [this]; exact q
    · rw [decide_eq_false (fun z => c2 (decide_eq_true (by
        have := g.rng _ _ z.2.2
        exact ⟨z.2.1, by omega⟩)))] at q
      exact q
  · rw [decide_eq_false (fun z => c (decide_eq_true (by
      have := row_lt z.2.2
      exact ⟨z.1, by omega⟩)))] at q
    exact q
def spBehindW (C : Addr) : Sp := fun vs H Q _ => ∃ (o R : Addr) (rs : List Addr) (w : W) (p q' : Nat), vs = [.ref o, .int (p : Int), .int (q' : Int)] ∧ WebAt C H o R rs w ∧ Good w ∧ q' ∈ row w p ∧ Q (.int (succR (row w p) q' : Nat)) H
theorem scBehindW : FnScope ["self", "p", "q", "row"] ["self", "p", "q"] (defScope sBehind) := ⟨rfl, rfl, rfl, by decide +kernel, rfl, by decide +kernel, by decide +kernel⟩
theorem ok_behindW {C f : Addr} {fd : FuncData} (B : Blt mg) (T : WTxt K mg C) (F : Fun K "behind" "Web.behind" sBehind f fd) : FnOk P w K mg base CX0 1 f fd ["self", "p", "q"] (spBehindW C) := by
  refine F.ok scBehindW (fun vs H Q E h => ?_) (fun cdv A outer s H vs Q E hr h => ?_)
  · obtain ⟨o, R, rs, w, p, q, rfl, _⟩ := h
    rfl
  obtain ⟨o, R, rs, w', p, q', rfl, W, g, hq, q⟩ := h
  obtain ⟨dx, ho⟩ := W.ob
  have nd := scBehindW.nd
  refine ⟨_, pss_cons (ps_set (i := 3) nd rfl (Or.inl rfl) (pe_ix ix_list (pe_fld (pv 0) rfl) (pv 1) (fun _ _ => rfl)))
    (pss_one (ps_ret (pe_ix ix_list (pv 3) (pe_op op_mod (pe_op op_add (pe_bm PySem.F.plainAttrs_list PySem.F.slot_list_index PySem.F.type_list_index mt_index (pv 3) (pa_cons (pv 2) pa_nil)) pe_int) (pe_callB call_len_seq rfl B.len PySem.boot_len (pa_cons (pv 3) pa_nil))) (fun _ _ => rfl)))), ?_⟩
  have hpw := row_lt hq
  obtain ⟨ra, hra, hrow⟩ := W.rows.at hpw
  have hlen : 0 < (row w' p).length := List.length_pos_of_mem hq
  refine ⟨_, rfl, o, C, dx, _, _, rfl, ho, T.cl, T.nR, rfl, _, rfl, R, _, _, _, rfl, rfl, SqL.of W.rows.top, atI_nat (by rw [List.getElem?_map, hra]; rfl), ?_⟩
  refine ⟨_, rfl, _, rfl, .inl ⟨rfl, _, SqL.of hrow⟩, _, rfl, ?_⟩
  refine ⟨ra, _, _, (row w' p).idxOf q', _, rfl, rfl, hrow, rfl, rowV_flat _, rowV_get (idx_get hq), eqV_self q', no_before (g.nod _) hq, ?_⟩
  refine ⟨_, _, rfl, rfl, _, rfl, ra, _, rfl, .inl (SqL.of hrow), _, _, rfl, rfl, ?_⟩
  rw [rowV_len]
  refine ⟨by omega, ?_⟩
  have em : ((((row w' p).idxOf q' : Nat) : Int) + 1) % ((row w' p).length : Int) = ((((row w' p).idxOf q' + 1) % (row w' p).length : Nat) : Int) := by rw [Int.natCast_emod, Int.natCast_add]; rfl
  have hat : atI (rowV (row w' p)) (((((row w' p).idxOf q' : Nat) : Int) + 1) % ((row w' p).length : Int)) = some (.int (succR (row w' p) q' : Nat)) := by
    rw [em]; exact atI_nat (rowV_get (succR_get hq))
  exact ⟨ra, _, _, _, rfl, rfl, SqL.of hrow, hat, q⟩
end
end K11

set_option Elab.async false
set_option linter.all false
set_option maxRecDepth 100000
set_option maxHeartbeats 4000000
namespace L2
open PySem
theorem in_by {g1 : TG} {tt1 : TT} {te : TE} {D : Addr} {J : It} {N : St → Hp → Prop} {σ : St} {H : Hp} (n : Nat) (Pv : Nat → St → Hp → Prop) (h0 : Pv 0 σ H)
    (hgo : ∀ i σ H, i < n → Pv i σ H → J.go i H) (hstop : ∀ i σ H, n ≤ i → Pv i σ H → J.stop i H)
    (hs : ∀ i x σ H H3, i < n → Pv i σ H → J.yld i H x H3 → g1 x σ H3 fun σ4 H4 => tt1 σ4 H4 fun b H5 =>
      if b = true then te σ4 H5 fun v H6 => ∃ ys, H6 D = some (.lst ys) ∧ ys.length < sizeLine ∧ Pv (i + 1) σ4 (upd H6 D (.lst (ys ++ [v]))) else Pv (i + 1) σ4 H5)
    (hd : ∀ σ H, Pv n σ H → N σ H) : tIn g1 tt1 te D J N σ H := by
  refine ⟨fun i m σ H => m = n - i ∧ i ≤ n ∧ Pv i σ H, ⟨n, by simp, Nat.zero_le _, h0⟩, ?_⟩
  rintro i m σ H ⟨rfl, hi, p⟩
  by_cases hlt : i < n
  · exact .inr ⟨hgo i σ H hlt p, Pv (i + 1), fun σ' H' p' => ⟨n - (i + 1), by omega, rfl, hlt, p'⟩, fun x H3 y => hs i x σ H H3 hlt p y⟩
  · have e : i = n := by omega
    subst e
    exact .inl ⟨hstop _ σ H (Nat.le_refl _) p, hd σ H p⟩
theorem out_by {g : TG} {tt : TT} {wi1 : TI} {g1 : TG} {tt1 : TT} {te : TE} {D : Addr} {J : It} {Q : VK} {σ : St} {H : Hp} (n : Nat) (Pv : Nat → St → Hp → Prop) (h0 : Pv 0 σ H)
    (hgo : ∀ i σ H, i < n → Pv i σ H → J.go i H) (hstop : ∀ i σ H, n ≤ i → Pv i σ H → J.stop i H)
    (hs : ∀ i x σ H H3, i < n → Pv i σ H → J.yld i H x H3 → g x σ H3 fun σ4 H4 => tt σ4 H4 fun b H5 =>
      if b = true then wi1 σ4 H5 fun J1 H6 => tIn g1 tt1 te D J1 (Pv (i + 1)) σ4 H6 else Pv (i + 1) σ4 H5)
    (hd : ∀ σ H, Pv n σ H → Q (.ref D) H) : tOut g tt wi1 g1 tt1 te D J Q σ H := by
  refine ⟨fun i m σ H => m = n - i ∧ i ≤ n ∧ Pv i σ H, ⟨n, by simp, Nat.zero_le _, h0⟩, ?_⟩
  rintro i m σ H ⟨rfl, hi, p⟩
  by_cases hlt : i < n
  · exact .inr ⟨hgo i σ H hlt p, Pv (i + 1), fun σ' H' p' => ⟨n - (i + 1), by omega, rfl, hlt, p'⟩, fun x H3 y => hs i x σ H H3 hlt p y⟩
  · have e : i = n := by omega
    subst e
    exact .inl ⟨hstop _ σ H (Nat.le_refl _) p, hd σ H p⟩
theorem yes_if {σ : St} {H : Hp} {P R : Hp → Prop} (h : P H) : tYes σ H (fun b H5 => if b = true then P H5 else R H5) := by
  show (if true = true then P H else R H)
  rw [if_pos rfl]; exact h
end L2
namespace K11
open PySem L2 Wb
theorem tiesBy_succ (r : Nat → List Nat) (n : Nat) : tiesBy r (n + 1) = tiesBy r n ++ ((r n).filter fun q => decide (n < q)).map fun q => (n, q) := by
  unfold tiesBy
  rw [List.range_succ, List.flatMap_append]
  simp
section
variable {P : Program} {w : World} {K : PySem.W.Frag} {mg : Str → Option Value} {base : Heap}
def spTiesW (C : Addr) : Sp := fun vs H Q _ => ∃ (p R : Addr) (rs : List Addr) (w : W), vs = [.ref p] ∧ WebAt C H p R rs w ∧ Good w ∧ w.length ≤ 14 ∧ deg w ≤ 102 ∧
  ∀ (F : Addr) (L : List (Addr × (Nat × Nat))) (H' : Hp), Same H H' → H F = none → H' F = some (.lst (L.map fun e => V.ref e.1)) → Prs H' L → (L.map (·.2)).Perm (tiesBy (row w) w.length) → (L.map (·.2)).Pairwise lexLe → Q (.ref F) H'
theorem scTiesW : FnScope ["self"] ["self"] (defScope sTies) := ⟨rfl, rfl, rfl, by decide +kernel, rfl, by decide +kernel, by decide +kernel⟩
theorem ok_tiesW {C f : Addr} {fd : FuncData} (B : Blt mg) (T : WTxt K mg C) (F : Fun K "ties" "Web.ties" sTies f fd) : FnOk P w K mg base CX0 1 f fd ["self"] (spTiesW C) := by
  refine F.ok scTiesW (fun vs H Q E h => ?_) (fun cdv A outer s H vs Q E hr h => ?_)
  · obtain ⟨p, R, rs, w, rfl, _⟩ := h
    rfl
  obtain ⟨p, R, rs, w', rfl, W, g, h14, dg, q⟩ := h
  obtain ⟨dx, hp⟩ := W.ob
  have nd3 : (["p", "row", "q"] : List Str).Nodup := by decide +kernel
  refine ⟨_, pss_one (ps_ret (pe_callB (call_sortedP hr.units) rfl B.sorted boot_sorted (pa_cons (pe_lc2 (NC := ["p", "row", "q"]) (src := [none, none, none]) rfl (CompOk.of (defScope sTies) rfl rfl (by decide +kernel) (by decide +kernel) (by decide +kernel)) trivial (pi_enum rfl B.enumerate (pa_cons (pe_fld (pv 0) rfl) pa_nil))
      (fun _ _ _ => pg_tupK (K := K) (n := 2) rfl rfl (pgs_cons (pg_name (i := 0) nd3 rfl (Or.inl rfl)) (pgs_cons (pg_name (i := 1) nd3 rfl (Or.inl rfl)) pgs_nil))) (fun _ _ _ => pts_nil) (fun _ _ _ => pi_listK (K := K) (pv 1)) (fun _ _ _ => pg_name (i := 2) nd3 rfl (Or.inl rfl))
      (fun _ _ _ => pts_one (pt_cmpR op_lt (pv 0) (pv 2) (nomark _))) (fun _ _ _ => pe_tup (pa_cons (pv 0) (pa_cons (pv 2) pa_nil)))) pa_nil))), ?_⟩
  refine ⟨_, rfl, p, C, dx, _, _, rfl, hp, T.cl, T.nR, rfl, R, rfl, ⟨_, W.rows.top⟩, fun D hD => ?_⟩
  have top := W.rows.top
  refine out_by (rs.map V.ref).length (fun i σc Hc => ∃ (o1 o2 o3 : Option V) (L : List (Addr × (Nat × Nat))), σc = [o1, o2, o3] ∧ Same H Hc ∧ Hc D = some (.lst (L.map fun e => V.ref e.1)) ∧ Prs Hc L ∧ L.map (·.2) = tiesBy (row w') i ∧ L.length ≤ i * 14) ?_ ?_ ?_ ?_ ?_
  · exact ⟨none, none, none, [], rfl, same_new hD _, upd_same, (fun e he => by cases he), rfl, Nat.zero_le _⟩
  · rintro i σc Hc hi ⟨o1, o2, o3, L, rfl, sm, _⟩
    exact ⟨_, _, SqL.of (sm _ _ top), List.getElem?_eq_getElem hi⟩
  · rintro i σc Hc hi ⟨o1, o2, o3, L, rfl, sm, _⟩
    exact ⟨_, SqL.of (sm _ _ top), hi⟩
  · rintro i x σc Hc H3 hi ⟨o1, o2, o3, L, rfl, sm, hL, prs, eL, lL⟩ ⟨t, y, rfl, ht, rfl, hy⟩
    obtain ⟨ai, rfl, hai, hiw, hrow⟩ := row_at (rows_same W.rows sm) (hy _ (SqL.of (sm _ _ top)))
    refine ⟨t, _, rfl, SqT.of upd_same, rfl, _, _, rfl, _, _, rfl, rfl, ?_⟩
    have s2 := same_new ht (.tup [V.int (i : Int), V.ref ai])
    generalize upd Hc t (.tup [V.int (i : Int), V.ref ai]) = H2 at s2
    have hrow2 := s2 _ _ hrow
    have hD2 := s2 _ _ hL
    refine yes_if ?_
    refine ⟨_, rfl, ai, rfl, ⟨_, SqL.of hrow2⟩, ?_⟩
    have sm2 := sm.trans s2
    have rli := row_len g i
    refine in_by (rowV (row w' i)).length (fun j σc Hc => ∃ (o3 : Option V) (M : List (Addr × (Nat × Nat))), σc = [some (.int (i : Int)), some (.ref ai), o3] ∧ Same H Hc ∧ Hc ai = some (.lst (rowV (row w' i))) ∧ Hc D = some (.lst (M.map fun e => V.ref e.1)) ∧ Prs Hc M ∧ M.map (·.2) = tiesBy (row w') i ++ (((row w' i).take j).filter fun q => decide (i < q)).map (fun q => (i, q)) ∧ M.length ≤ i * 14 + j) ?_ ?_ ?_ ?_ ?_
    · exact ⟨_, L, rfl, sm2, hrow2, hD2, (fun e he => s2 _ _ (prs e he)), by rw [eL]; simp, by omega⟩
    · rintro j σc Hc hj ⟨o3, M, rfl, sm, hr, _⟩
      exact ⟨_, _, SqL.of hr, List.getElem?_eq_getElem hj⟩
    · rintro j σc Hc hj ⟨o3, M, rfl, sm, hr, _⟩
      exact ⟨_, SqL.of hr, hj⟩
    · rintro j x σc Hc H4 hj ⟨o3, M, rfl, sm4, hr4, hD4, prs4, eM, lM⟩ ⟨rfl, hx⟩
      obtain ⟨n, hn, rfl⟩ := rowV_inv (hx _ (SqL.of hr4))
      rw [rowV_len] at hj
      obtain ⟨hlt, hge⟩ := List.getElem?_eq_some_iff.mp hn
      have etake : (row w' i).take (j + 1) = (row w' i).take j ++ [n] := by rw [List.take_succ_eq_append_getElem hlt, hge]
      refine ⟨_, rfl, _, rfl, _, _, rfl, rfl, _, rfl, ?_⟩
      refine ite2 (fun c => ?_) (fun c => ?_)
      · have c' : i < n := by have := of_decide_eq_true c; omega
        refine ⟨_, rfl, _, rfl, by show 2 ≤ sizeLine; decide, fun tt htt => ?_⟩
        have ntD : tt ≠ D := fun z => by rw [z, hD4] at htt; cases htt
        have ntai : tt ≠ ai := fun z => by rw [z, hr4] at htt; cases htt
        have naiD : ai ≠ D := ne_of_none (W.rows.row i ai hai) hD
        refine ⟨_, by rw [upd_ne (Ne.symm ntD)]; exact hD4, small1000 (by rw [List.length_map]; omega), _, M ++ [(tt, (i, n))], rfl, fun b u eb => ?_, ?_, ?_, fun e he => ?_, ?_, by simp; omega⟩
        · rw [upd_ne (ne_of_none eb hD), upd_ne (ne_of_none (sm4 _ _ eb) htt)]; exact sm4 _ _ eb
        · rw [upd_ne naiD, upd_ne (Ne.symm ntai)]; exact hr4
        · rw [upd_same, List.map_append]; rfl
        · rcases List.mem_append.mp he with z | z
          · have := prs4 e z
            rw [upd_ne (fun y => by rw [y, hD4] at this; cases this), upd_ne (ne_of_none this htt)]
            exact this
          · have z' : e = (tt, (i, n)) := by simpa using z
            rw [z', upd_ne ntD, upd_same]; rfl
        · rw [List.map_append, eM, etake, List.filter_append, List.map_append, List.append_assoc]
          simp [c']
      · have c' : ¬ i < n := fun z => c (decide_eq_true (by omega))
        refine ⟨_, M, rfl, sm4, hr4, hD4, prs4, ?_, by omega⟩
        rw [eM, etake, List.filter_append]
        simp [c']
    · rintro σc Hc ⟨o3, M, rfl, sm4, hr4, hD4, prs4, eM, lM⟩
      rw [rowV_len] at lM
      refine ⟨_, _, _, M, rfl, sm4, hD4, prs4, ?_, by omega⟩
      rw [eM, rowV_len, List.take_length, tiesBy_succ]
  · rintro σc Hc ⟨o1, o2, o3, L, rfl, sm, hL, prs, eL, lL⟩
    rw [List.length_map, W.rows.len] at eL
    have half := ties_half g
    have lL2 : L.length = (tiesBy (row w') w'.length).length := by rw [← eL, List.length_map]
    refine ⟨D, L, rfl, SqL.of hL, prs, by omega, fun F M hF pm srt => ?_⟩
    refine q F M _ (sm.trans (same_new hF _)) (sm.free hF) upd_same (fun e he => ?_) (by rw [← eL]; exact pm.map _) srt
    exact (same_new hF _) _ _ (prs e (pm.mem_iff.mp he))
end
end K11

set_option Elab.async false
set_option linter.all false
set_option maxRecDepth 100000
set_option maxHeartbeats 4000000
namespace K11
open PySem L2 Wb
abbrev sIsInt : Stmt := top 30
abbrev sInts : Stmt := top 31
abbrev sTiesL : Stmt := top 32
abbrev sTold : Stmt := top 33
abbrev sTiedL : Stmt := top 34
abbrev sBehindL : Stmt := top 35
abbrev sLaw : Stmt := top 36
theorem dp_row {K : PySem.W.Frag} {H : Hp} : ∀ r : List Nat, DpAll K H (rowV r) (r.map nD)
  | [] => .nil
  | n :: r => .cons (.int _) (dp_row r)
theorem dp_rowD {K : PySem.W.Frag} {H : Hp} {a : Addr} {r : List Nat} (h : H a = some (.lst (rowV r))) : Dp K H (.ref a) (rowD r) := .lst (SqL.of h) (dp_row r)
section
variable {P : Program} {w : World} {K : PySem.W.Frag} {mg : Str → Option Value} {base : Heap}
def spIsInt : Sp := fun vs H Q _ => ∃ (i : Int), vs = [.int i] ∧ Q (.bl true) H
theorem scIsInt : FnScope ["_law_found"] ["_law_found"] (defScope sIsInt) := ⟨rfl, rfl, rfl, by decide +kernel, rfl, by decide +kernel, by decide +kernel⟩
theorem ok_isInt (B : Blt mg) (D : Dfn K mg "_law_is_int" sIsInt ["_law_found"]) : FnOk P w K mg base CX0 1 D.f D.fd ["_law_found"] spIsInt := by
  refine D.F.ok scIsInt (fun vs H Q E h => ?_) (fun cdv A outer s H vs Q E hr h => ?_)
  · obtain ⟨i, rfl, _⟩ := h
    rfl
  obtain ⟨i, rfl, q⟩ := h
  refine ⟨_, pss_one (ps_ret (pe_and (pe_callB call_isinst rfl B.isinstance boot_isinstance (pa_cons (pv 0) (pa_cons (pe_bltn rfl B.int boot_int (v := .ty "int") rfl) pa_nil)))
    (pe_one (pe_not (pe_callB call_isinst rfl B.isinstance boot_isinstance (pa_cons (pv 0) (pa_cons (pe_bltn rfl B.bool boot_bool (v := .ty "bool") rfl) pa_nil))))))), ?_⟩
  refine ⟨_, rfl, .int i, "int", .type "int", true, rfl, .int i, kit_int_int, _, rfl, iteT ?_⟩
  exact ⟨_, rfl, .int i, "bool", .type "int", false, rfl, .int i, kit_int_bool, _, rfl, q⟩
def spInts : Sp := fun vs H Q _ => ∃ (a b : Addr) (r : List Nat), vs = [.ref a, .ref b] ∧ H a = some (.lst (rowV r)) ∧ H b = some (.lst (rowV r)) ∧ r.length ≤ 14 ∧ ∀ H', Same H H' → Q (.bl true) H'
theorem scInts : FnScope ["_law_found", "_law_due"] ["_law_found", "_law_due"] (defScope sInts) := ⟨rfl, rfl, rfl, by decide +kernel, rfl, by decide +kernel, by decide +kernel⟩
theorem all_true (n : Nat) : (List.replicate n true).all id = true := by
  induction n with
  | zero => rfl
  | succ n ih => rw [List.replicate_succ, List.all_cons, ih]; rfl
theorem ok_ints (B : Blt mg) (Is : Dfn K mg "_law_is_int" sIsInt ["_law_found"]) (D : Dfn K mg "_law_ints" sInts ["_law_found", "_law_due"]) : FnOk P w K mg base CX0 2 D.f D.fd ["_law_found", "_law_due"] spInts := by
  refine D.F.ok scInts (fun vs H Q E h => ?_) (fun cdv A outer s H vs Q E hr h => ?_)
  · obtain ⟨a, b, r, rfl, _⟩ := h
    rfl
  obtain ⟨a, b, r, rfl, ha, hb, hl, q⟩ := h
  have nd1 : (["_law_one"] : List Str).Nodup := by decide +kernel
  have gI := ok_isInt (P := P) (w := w) (base := base) B Is
  refine ⟨_, pss_one (ps_ret (pe_and (pe_callB call_isinst rfl B.isinstance boot_isinstance (pa_cons (pv 0) (pa_cons (pe_bltn rfl B.list boot_list (v := .ty "list") rfl) pa_nil)))
    (pe_and (pe_callB (call_all rfl) rfl B.all boot_all (pa_cons (pe_lc (NC := ["_law_one"]) (src := [none]) rfl (CompOk.of (defScope sInts) rfl rfl (by decide +kernel) (by decide +kernel) (by decide +kernel)) trivial (pi_list (pv 0))
        (fun _ _ _ => pg_name (i := 0) nd1 rfl (Or.inl rfl)) (fun _ _ _ => pts_nil) (fun _ _ _ => pe_call gI hr rfl Is.m Is.F.kp Is.b .nil pass0 (pa_cons (pv 0) pa_nil))) pa_nil))
      (pe_one (pe_cmpR (op_eqD hr.units) (pv 0) (pv 1) (nomark _)))))), ?_⟩
  refine ⟨_, rfl, .ref a, "list", .type "list", true, rfl, .lst ha, kit_list_list, _, rfl, iteT ?_⟩
  refine ⟨_, rfl, a, rfl, ⟨_, SqL.of ha⟩, fun Dd hD => ?_⟩
  refine lc_by (rowV r).length (fun i σc Hc => ∃ (o : Option V), σc = [o] ∧ Same H Hc ∧ Hc Dd = some (.lst ((List.replicate i true).map V.bl))) ?_ ?_ ?_ ?_ ?_
  · exact ⟨none, rfl, same_new hD _, upd_same⟩
  · rintro i σc Hc hi ⟨o, rfl, sm, _⟩
    exact ⟨_, _, SqL.of (sm _ _ ha), List.getElem?_eq_getElem hi⟩
  · rintro i σc Hc hi ⟨o, rfl, sm, _⟩
    exact ⟨_, SqL.of (sm _ _ ha), hi⟩
  · rintro i x σc Hc H3 hi ⟨o, rfl, sm, hd⟩ ⟨rfl, hx⟩
    obtain ⟨n, hn, rfl⟩ := rowV_inv (hx _ (SqL.of (sm _ _ ha)))
    rw [rowV_len] at hi
    refine gYes ?_
    refine ⟨_, rfl, _, rfl, ?_⟩
    refine ⟨_, hd, small1000 (by simp; omega), _, rfl, fun b u eb => ?_, ?_⟩
    · rw [upd_ne (ne_of_none eb hD)]; exact sm _ _ eb
    · rw [upd_same, List.replicate_succ', List.map_append]; rfl
  · rintro σc Hc ⟨o, rfl, sm, hd⟩
    refine ⟨Dd, _, rfl, hd, _, rfl, ?_⟩
    rw [all_true]
    refine iteT ?_
    refine ⟨_, rfl, _, rfl, _, _, dp_rowD (sm _ _ ha), dp_rowD (sm _ _ hb), by have := depth_rowD r; omega, ?_⟩
    rw [(eqv_rowD r r).mpr rfl]
    exact q Hc sm
/-- ints that are a turn's, sorted, as numbers -/
theorem nat_of_perm {ms : List Int} {r : List Nat} (h : ms.Perm (r.map fun (n : Nat) => (n : Int))) (s : ms.Pairwise (· ≤ ·)) : ∃ sr : List Nat, sr.Perm r ∧ sr.Pairwise (· ≤ ·) ∧ ms.map V.int = rowV sr := by
  have nn : ∀ x ∈ ms, 0 ≤ x := fun x hx => by
    obtain ⟨n, _, rfl⟩ := List.mem_map.mp (h.mem_iff.mp hx)
    omega
  refine ⟨ms.map Int.toNat, ?_, ?_, ?_⟩
  · have := h.map Int.toNat
    rw [List.map_map] at this
    have e : r.map (Int.toNat ∘ fun (n : Nat) => (n : Int)) = r := by
      conv => rhs; rw [← List.map_id r]
      apply List.map_congr_left
      intro n _
      simp
    rwa [e] at this
  · rw [List.pairwise_map]
    refine List.Pairwise.imp_of_mem ?_ s
    intro a b ha hb le
    have := nn a ha
    omega
  · unfold rowV
    rw [List.map_map]
    apply List.map_congr_left
    intro x hx
    have := nn x hx
    show V.int x = V.int ((x.toNat : Nat) : Int)
    rw [Int.toNat_of_nonneg this]
theorem tiesBy_congr {r r' : Nat → List Nat} : ∀ {n : Nat}, (∀ p, p < n → r p = r' p) → tiesBy r n = tiesBy r' n
  | 0, _ => rfl
  | n + 1, h => by rw [tiesBy_succ, tiesBy_succ, tiesBy_congr (fun p hp => h p (by omega)), h n (by omega)]
def spTiesL : Sp := fun vs H Q _ => ∃ (T : Addr) (as : List Addr) (w : W), vs = [.ref T] ∧ RowsAt H T as w ∧ Good w ∧ w.length ≤ 14 ∧
  ∀ (F : Addr) (L : List (Addr × (Nat × Nat))) (sr : Nat → List Nat) (H' : Hp), Same H H' → H' F = some (.lst (L.map fun e => V.ref e.1)) → Prs H' L → L.map (·.2) = tiesBy sr w.length → (∀ p, p < w.length → (sr p).Perm (row w p)) → (∀ p, p < w.length → (sr p).Pairwise (· ≤ ·)) → Q (.ref F) H'
theorem scTiesL : FnScope ["_law_turns", "_law_ties_here", "_law_a", "_law_turn"] ["_law_turns"] (defScope sTiesL) := ⟨rfl, rfl, rfl, by decide +kernel, rfl, by decide +kernel, by decide +kernel⟩
theorem ok_tiesL (B : Blt mg) (D : Dfn K mg "_law_ties" sTiesL ["_law_turns"]) : FnOk P w K mg base CX0 1 D.f D.fd ["_law_turns"] spTiesL := by
  refine D.F.ok scTiesL (fun vs H Q E h => ?_) (fun cdv A outer s H vs Q E hr h => ?_)
  · obtain ⟨T, as, w, rfl, _⟩ := h
    rfl
  obtain ⟨T, as, w', rfl, R, g, h14, q⟩ := h
  have nd := scTiesL.nd
  have nd2 : (["_law_b", "_law_a"] : List Str).Nodup := by decide +kernel
  refine ⟨_, pss_cons (ps_set (i := 1) nd rfl (Or.inl rfl) (pe_lst pa_nil))
    (pss_cons (ps_for PassesOwn.never rfl (pi_enum rfl B.enumerate (pa_cons (pv 0) pa_nil)) (pg_tup rfl (pgs_cons (pg_name (i := 2) nd rfl (Or.inr rfl)) (pgs_cons (pg_name (i := 3) nd rfl (Or.inl rfl)) pgs_nil)))
      (pss_one (ps_expr (pe_bm PySem.F.plainAttrs_list PySem.F.slot_list_extend PySem.F.type_list_extend mt_extend (pv 1) (pa_cons (pe_lc (NC := ["_law_b", "_law_a"]) (src := [none, some 2]) rfl (CompOk.of (defScope sTiesL) rfl rfl (by decide +kernel) (by decide +kernel) (by decide +kernel)) ⟨rfl, rfl, trivial⟩ (pi_list (pe_callB call_sortedI rfl B.sorted boot_sorted (pa_cons (pv 3) pa_nil)))
          (fun _ _ _ => pg_name (i := 0) nd2 rfl (Or.inl rfl)) (fun _ _ _ => pts_one (pt_cmpR op_lt (pv 1) (pv 0) (nomark _))) (fun _ _ _ => pe_tup (pa_cons (pv 1) (pa_cons (pv 0) pa_nil)))) pa_nil)))))
    (pss_one (ps_ret (pv 1)))), ?_⟩
  refine ⟨by show 0 ≤ sizeLine; decide, fun S hS => ?_⟩
  refine ⟨_, rfl, T, rfl, ⟨_, (same_new hS _) _ _ R.top⟩, for_enum (xs := as.map V.ref) (fun i σ H' => ∃ (o2 o3 : Option V) (L : List (Addr × (Nat × Nat))) (sr : Nat → List Nat), σ = [some (.ref T), some (.ref S), o2, o3] ∧ Same H H' ∧ H' S = some (.lst (L.map fun e => V.ref e.1)) ∧ Prs H' L ∧ L.map (·.2) = tiesBy sr i ∧ (∀ p, p < i → (sr p).Perm (row w' p)) ∧ (∀ p, p < i → (sr p).Pairwise (· ≤ ·)) ∧ L.length ≤ i * 14) ?_ ?_ ?_ ?_⟩
  · exact ⟨_, _, [], fun _ => [], rfl, same_new hS _, upd_same, (fun e he => by cases he), rfl, (fun p hp => by omega), (fun p hp => by omega), Nat.zero_le _⟩
  · rintro i σ H' _ ⟨o2, o3, L, sr, rfl, sm, _⟩
    exact SqL.of (sm _ _ R.top)
  · rintro i x t σ H5 hx ht ⟨o2, o3, L, sr, rfl, sm5, hS5, prs5, eL, pm5, st5, lL⟩
    obtain ⟨ai, rfl, hai, hi, hrow⟩ := row_at (rows_same R sm5) hx
    refine ⟨t, _, rfl, SqT.of upd_same, rfl, _, _, rfl, _, _, rfl, rfl, ?_⟩
    have s6 := same_new ht (.tup [V.int (i : Int), V.ref ai])
    generalize upd H5 t (.tup [V.int (i : Int), V.ref ai]) = H6 at s6
    have hrow6 := s6 _ _ hrow
    have hS6 := s6 _ _ hS5
    have rli := row_len g i
    have er : rowV (row w' i) = ((row w' i).map fun (n : Nat) => (n : Int)).map V.int := by unfold rowV; rw [List.map_map]; rfl
    refine ⟨_, rfl, .inl ⟨rfl, _, SqL.of hS6⟩, _, rfl, ai, _, rfl, SqL.of (by rw [← er]; exact hrow6), by rw [List.length_map]; omega, fun sq ms hsq pm st => ?_⟩
    obtain ⟨sn, pn, sn2, en⟩ := nat_of_perm pm st
    rw [en]
    have s7 := same_new hsq (.lst (rowV sn))
    have hq7 : upd H6 sq (.lst (rowV sn)) sq = some (.lst (rowV sn)) := upd_same
    have hS7 := s7 _ _ hS6
    generalize upd H6 sq (.lst (rowV sn)) = H7 at s7 hq7 hS7
    have lsn : sn.length ≤ 14 := by rw [pn.length_eq]; omega
    refine ⟨sq, rfl, ⟨_, SqL.of hq7⟩, fun Dd hD => ?_⟩
    refine lc_by (rowV sn).length (fun j σc Hc => ∃ (o : Option V) (M : List (Addr × (Nat × Nat))), σc = [o, some (.int (i : Int))] ∧ Same H7 Hc ∧ Hc Dd = some (.lst (M.map fun e => V.ref e.1)) ∧ Prs Hc M ∧ M.map (·.2) = ((sn.take j).filter fun q => decide (i < q)).map (fun q => (i, q)) ∧ M.length ≤ j) ?_ ?_ ?_ ?_ ?_
    · exact ⟨none, [], rfl, same_new hD _, upd_same, (fun e he => by cases he), by simp, Nat.le_refl _⟩
    · rintro j σc Hc hj ⟨o, M, rfl, smc, _⟩
      exact ⟨_, _, SqL.of (smc _ _ hq7), List.getElem?_eq_getElem hj⟩
    · rintro j σc Hc hj ⟨o, M, rfl, smc, _⟩
      exact ⟨_, SqL.of (smc _ _ hq7), hj⟩
    · rintro j x σc Hc H8 hj ⟨o, M, rfl, smc, hM, prsM, eM, lM⟩ ⟨rfl, hx⟩
      obtain ⟨n, hn, rfl⟩ := rowV_inv (hx _ (SqL.of (smc _ _ hq7)))
      rw [rowV_len] at hj
      obtain ⟨hlt, hge⟩ := List.getElem?_eq_some_iff.mp hn
      have etake : sn.take (j + 1) = sn.take j ++ [n] := by rw [List.take_succ_eq_append_getElem hlt, hge]
      refine ⟨_, rfl, _, rfl, _, _, rfl, rfl, _, rfl, ?_⟩
      refine ite2 (fun c => ?_) (fun c => ?_)
      · have c' : i < n := by have := of_decide_eq_true c; omega
        refine ⟨_, rfl, _, rfl, by show 2 ≤ sizeLine; decide, fun tt htt => ?_⟩
        have ntD : tt ≠ Dd := fun z => by rw [z, hM] at htt; cases htt
        refine ⟨_, by rw [upd_ne (Ne.symm ntD)]; exact hM, small1000 (by rw [List.length_map]; omega), _, M ++ [(tt, (i, n))], rfl, fun b u eb => ?_, ?_, fun e he => ?_, ?_, by simp; omega⟩
        · rw [upd_ne (ne_of_none eb hD), upd_ne (ne_of_none (smc _ _ eb) htt)]; exact smc _ _ eb
        · rw [upd_same, List.map_append]; rfl
        · rcases List.mem_append.mp he with z | z
          · have := prsM e z
            rw [upd_ne (fun y => by rw [y, hM] at this; cases this), upd_ne (ne_of_none this htt)]
            exact this
          · have z' : e = (tt, (i, n)) := by simpa using z
            rw [z', upd_ne ntD, upd_same]; rfl
        · rw [List.map_append, eM, etake, List.filter_append, List.map_append]
          simp [c']
      · have c' : ¬ i < n := fun z => c (decide_eq_true (by omega))
        refine ⟨_, M, rfl, smc, hM, prsM, ?_, by omega⟩
        rw [eM, etake, List.filter_append]
        simp [c']
    · rintro σc Hc ⟨o, M, rfl, smc, hM, prsM, eM, lM⟩
      rw [rowV_len] at lM
      rw [rowV_len, List.take_length] at eM
      have hSc := smc _ _ hS7
      refine ⟨S, Dd, _, _, rfl, rfl, hSc, hM, small (by simp; omega), ?_⟩
      refine ⟨_, _, L ++ M, fun p => if p = i then sn else sr p, rfl, fun b u eb => ?_, ?_, fun e he => ?_, ?_, fun p hp => ?_, fun p hp => ?_, by simp; omega⟩
      · rw [upd_ne (ne_of_none eb hS)]; exact smc _ _ (s7 _ _ (s6 _ _ (sm5 _ _ eb)))
      · rw [upd_same, List.map_append]
      · have hh : Hc e.1 = some (.tup (pairV e.2)) := by
          rcases List.mem_append.mp he with z | z
          · exact smc _ _ (s7 _ _ (s6 _ _ (prs5 e z)))
          · exact prsM e z
        rw [upd_ne (fun y => by rw [y, hSc] at hh; cases hh)]; exact hh
      · rw [tiesBy_succ, if_pos rfl, List.map_append, eL, eM]
        exact congrArg (· ++ _) (tiesBy_congr fun p hp => by rw [if_neg (by omega)])
      · show (if p = i then sn else sr p).Perm _
        by_cases e : p = i
        · rw [if_pos e, e]; exact pn
        · rw [if_neg e]; exact pm5 p (by omega)
      · show (if p = i then sn else sr p).Pairwise _
        by_cases e : p = i
        · rw [if_pos e]; exact sn2
        · rw [if_neg e]; exact st5 p (by omega)
  · rintro σ H5 ⟨o2, o3, L, sr, rfl, sm5, hS5, prs5, eL, pm5, st5, lL⟩
    rw [List.length_map, R.len] at eL pm5 st5
    exact ⟨_, rfl, q S L sr H5 sm5 hS5 prs5 eL pm5 st5⟩
def spBehindL (C : Addr) : Sp := fun vs H Q _ => ∃ (p R T : Addr) (rs as : List Addr) (w : W), vs = [.ref p, .ref T] ∧ WebAt C H p R rs w ∧ RowsAt H T as w ∧ Good w ∧ w.length ≤ 14 ∧ ∀ H', Same H H' → Q (.bl true) H'
theorem scBehindL : FnScope ["_law_web_here", "_law_turns", "_law_p", "_law_turn", "_law_k", "_law_q", "_law_found"] ["_law_web_here", "_law_turns"] (defScope sBehindL) := ⟨rfl, rfl, rfl, by decide +kernel, rfl, by decide +kernel, by decide +kernel⟩
theorem succ_at {r : List Nat} (nd : r.Nodup) {k n : Nat} (h : r[k]? = some n) : r[(k + 1) % r.length]? = some (succR r n) := by
  have hm := List.mem_of_getElem? h
  have : r.idxOf n = k := get_inj nd (idx_get hm) h
  have e := succR_get hm
  rwa [this] at e
theorem ok_behindL {C fB : Addr} {fdB : FuncData} (B : Blt mg) (T : WTxt K mg C) (FB : Fun K "behind" "Web.behind" sBehind fB fdB) (bB : Binds K fdB ["self", "p", "q"] []) (mB : Meth K C "behind" fB) (Is : Dfn K mg "_law_is_int" sIsInt ["_law_found"])
    (D : Dfn K mg "_law_behind" sBehindL ["_law_web_here", "_law_turns"]) : FnOk P w K mg base CX0 2 D.f D.fd ["_law_web_here", "_law_turns"] (spBehindL C) := by
  refine D.F.ok scBehindL (fun vs H Q E h => ?_) (fun cdv A outer s H vs Q E hr h => ?_)
  · obtain ⟨p, R, T, rs, as, w, rfl, _⟩ := h
    rfl
  obtain ⟨o, R, Tt, rs, as, w', rfl, W, RT, g, h14, q⟩ := h
  have nd := scBehindL.nd
  have gB := ok_behindW (P := P) (w := w) (base := base) B T FB
  have gI := ok_isInt (P := P) (w := w) (base := base) B Is
  refine ⟨_, pss_cons (ps_for PassesOwn.never rfl (pi_enum rfl B.enumerate (pa_cons (pv 1) pa_nil)) (pg_tup rfl (pgs_cons (pg_name (i := 2) nd rfl (Or.inl rfl)) (pgs_cons (pg_name (i := 3) nd rfl (Or.inl rfl)) pgs_nil)))
      (pss_one (ps_for PassesOwn.never rfl (pi_enum rfl B.enumerate (pa_cons (pv 3) pa_nil)) (pg_tup rfl (pgs_cons (pg_name (i := 4) nd rfl (Or.inl rfl)) (pgs_cons (pg_name (i := 5) nd rfl (Or.inl rfl)) pgs_nil)))
        (pss_cons (ps_set (i := 6) nd rfl (Or.inl rfl) (pe_meth (pv 0) T.cl mB gB hr bB .nil pass0 (pa_cons (pv 2) (pa_cons (pv 5) pa_nil))))
        (pss_one (ps_if (PW.pt (pw_or (pt_not (pt_val (pe_call gI hr rfl Is.m Is.F.kp Is.b .nil pass0 (pa_cons (pv 6) pa_nil)))) (pw_or1 (pt_cmpR op_ne (pv 6) (pe_ix ix_list (pv 3) (pe_op op_mod (pe_op op_add (pv 4) pe_int) (pe_callB call_len_seq rfl B.len PySem.boot_len (pa_cons (pv 3) pa_nil))) (fun _ _ => rfl)) (nomark _))))) (pss_one (ps_ret pe_bl)) pss_nil))))))
    (pss_one (ps_ret pe_bl)), ?_⟩
  refine ⟨_, rfl, Tt, rfl, ⟨_, RT.top⟩, for_enum (xs := as.map V.ref) (fun i σ H' => ∃ (o2 o3 o4 o5 o6 : Option V), σ = [some (.ref o), some (.ref Tt), o2, o3, o4, o5, o6] ∧ Same H H') ⟨_, _, _, _, _, rfl, Same.refl _⟩ ?_ ?_ ?_⟩
  · rintro i σ H' _ ⟨o2, o3, o4, o5, o6, rfl, sm⟩
    exact SqL.of (sm _ _ RT.top)
  · rintro i x t σ H1 hx ht ⟨o2, o3, o4, o5, o6, rfl, sm⟩
    obtain ⟨ai, rfl, hai, hi, hrow⟩ := row_at (rows_same RT sm) hx
    refine ⟨t, _, rfl, SqT.of upd_same, rfl, _, _, rfl, _, _, rfl, rfl, ?_⟩
    have s2 := same_new ht (.tup [V.int (i : Int), V.ref ai])
    generalize upd H1 t (.tup [V.int (i : Int), V.ref ai]) = H2 at s2
    have sm2 := sm.trans s2
    have hrow2 := s2 _ _ hrow
    refine ⟨_, rfl, ai, rfl, ⟨_, hrow2⟩, for_enum (xs := rowV (row w' i)) (fun j σ H' => ∃ (o4 o5 o6 : Option V), σ = [some (.ref o), some (.ref Tt), some (.int (i : Int)), some (.ref ai), o4, o5, o6] ∧ Same H2 H') ⟨_, _, _, rfl, Same.refl _⟩ ?_ ?_ ?_⟩
    · rintro j σ H' _ ⟨o4, o5, o6, rfl, sm'⟩
      exact SqL.of (sm' _ _ hrow2)
    · rintro j x t2 σ H3 hx ht2 ⟨o4, o5, o6, rfl, sm3⟩
      obtain ⟨n, hn, rfl⟩ := rowV_inv hx
      refine ⟨t2, _, rfl, SqT.of upd_same, rfl, _, _, rfl, _, _, rfl, rfl, ?_⟩
      have s4 := same_new ht2 (.tup [V.int (j : Int), V.int (n : Int)])
      generalize upd H3 t2 (.tup [V.int (j : Int), V.int (n : Int)]) = H4 at s4
      have sm4 := sm3.trans s4
      have W4 := W.same (sm2.trans sm4)
      obtain ⟨dx, ho⟩ := W4.ob
      have hmem := List.mem_of_getElem? hn
      have hlen : 0 < (row w' i).length := List.length_pos_of_mem hmem
      refine ⟨_, rfl, o, dx, _, rfl, ho, rfl, _, rfl, _, rfl, o, R, rs, w', i, n, rfl, W4, g, hmem, ?_⟩
      refine ⟨_, rfl, _, rfl, _, rfl, iteF ?_⟩
      have hat : atI (rowV (row w' i)) (((j : Int) + 1) % ((rowV (row w' i)).length : Int)) = some (.int (succR (row w' i) n : Nat)) := by
        rw [rowV_len]
        have em : ((j : Int) + 1) % ((row w' i).length : Int) = (((j + 1) % (row w' i).length : Nat) : Int) := by rw [Int.natCast_emod, Int.natCast_add]; rfl
        rw [em]; exact atI_nat (rowV_get (succ_at (g.nod _) hn))
      refine ⟨_, rfl, _, rfl, _, rfl, _, _, rfl, rfl, _, rfl, ai, _, rfl, .inl (SqL.of (sm4 _ _ hrow2)), _, _, rfl, rfl, by rw [rowV_len]; omega, ai, _, _, _, rfl, rfl, SqL.of (sm4 _ _ hrow2), hat, rfl, _, rfl, ?_⟩
      rw [decide_eq_true rfl]
      exact iteF ⟨_, _, _, rfl, sm4⟩
    · rintro σ H3 ⟨o4, o5, o6, rfl, sm3⟩
      exact ⟨_, _, _, _, _, rfl, sm2.trans sm3⟩
  · rintro σ H1 ⟨o2, o3, o4, o5, o6, rfl, sm⟩
    exact q H1 sm
end
end K11

set_option Elab.async false
set_option linter.all false
set_option maxRecDepth 100000
set_option maxHeartbeats 4000000
namespace K11
open PySem L2 Wb
theorem ite_f {c : Bool} {A B : Prop} (h : c = false) (b : B) : if c = true then A else B := by rw [h, if_neg (by decide)]; exact b
theorem boot_range : bootBuiltins "range" = some (.type "range") := by decide +kernel
theorem inV_int {r : List Nat} {b : Int} : inV (.int b) (rowV r) = decide (0 ≤ b ∧ b.toNat ∈ r) := by
  by_cases h : 0 ≤ b
  · obtain ⟨n, rfl⟩ := Int.eq_ofNat_of_zero_le h
    rw [inV_row, decide_eq_decide, Int.toNat_natCast]
    exact ⟨fun z => ⟨h, z⟩, fun z => z.2⟩
  · rw [decide_eq_false (fun z => h z.1)]
    unfold inV rowV
    rw [List.any_eq_false]
    intro y hy
    obtain ⟨n, _, rfl⟩ := List.mem_map.mp hy
    intro e
    have : (n : Int) = b := by simpa [eqV] using e
    omega
theorem ints_inv {ns : List Int} {i : Nat} {x : V} (h : (ns.map V.int)[i]? = some x) : ∃ k : Int, x = .int k := by
  rw [List.getElem?_map] at h
  cases e : ns[i]? with
  | none => rw [e] at h; cases h
  | some k => rw [e] at h; exact ⟨k, (Option.some.inj h).symm⟩
theorem dec_blT {a b : Bool} (h : a = b) : (!decide (V.bl a = V.bl b)) = false := by rw [h, decide_eq_true rfl]; rfl
section
variable {P : Program} {w : World} {K : PySem.W.Frag} {mg : Str → Option Value} {base : Heap}
def spTiedL (C : Addr) : Sp := fun vs H Q _ => ∃ (p R T : Addr) (rs as : List Addr) (w : W) (far : Int), vs = [.ref p, .ref T, .int far] ∧ WebAt C H p R rs w ∧ RowsAt H T as w ∧ Good w ∧ w.length ≤ 14 ∧ ∀ H', Same H H' → Q (.bl true) H'
theorem scTiedL : FnScope ["_law_web_here", "_law_turns", "_law_far", "_law_numbers", "_law_a", "_law_b", "_law_found"] ["_law_web_here", "_law_turns", "_law_far"] (defScope sTiedL) := ⟨rfl, rfl, rfl, by decide +kernel, rfl, by decide +kernel, by decide +kernel⟩
theorem ok_tiedL {C fT : Addr} {fdT : FuncData} (B : Blt mg) (T : WTxt K mg C) (Am : Dfn K mg "is_among" sAmong ["thing", "many"]) (FT : Fun K "tied" "Web.tied" sTied fT fdT) (bT : Binds K fdT ["self", "a", "b"] []) (mT : Meth K C "tied" fT)
    (D : Dfn K mg "_law_tied" sTiedL ["_law_web_here", "_law_turns", "_law_far"]) : FnOk P w K mg base CX0 3 D.f D.fd ["_law_web_here", "_law_turns", "_law_far"] (spTiedL C) := by
  refine D.F.ok scTiedL (fun vs H Q E h => ?_) (fun cdv A outer s H vs Q E hr h => ?_)
  · obtain ⟨p, R, T, rs, as, w, far, rfl, _⟩ := h
    rfl
  obtain ⟨o, R, Tt, rs, as, w', far, rfl, W, RT, g, h14, q⟩ := h
  have nd := scTiedL.nd
  have gT := ok_tiedW (P := P) (w := w) (base := base) B T Am FT
  refine ⟨_, pss_cons (ps_set (i := 3) nd rfl (Or.inl rfl) (pe_op op_cat (pe_callTy (call_list_rng rfl) rfl B.list boot_list (pa_cons (pe_callTy call_rng2 rfl B.range boot_range (pa_cons (pe_un un_neg pe_int) (pa_cons (pe_op op_add (pe_callB call_len_seq rfl B.len PySem.boot_len (pa_cons (pv 1) pa_nil)) pe_int) pa_nil))) pa_nil))
        (pe_lst (pa_cons (pe_op op_add (pe_callB call_len_seq rfl B.len PySem.boot_len (pa_cons (pv 1) pa_nil)) (pv 2)) (pa_cons (pe_op op_sub (pe_un un_neg pe_int) (pv 2)) pa_nil)))))
    (pss_cons (ps_for PassesOwn.never rfl (pi_list (pv 3)) (pg_name (i := 4) nd rfl (Or.inl rfl))
      (pss_one (ps_for PassesOwn.never rfl (pi_list (pv 3)) (pg_name (i := 5) nd rfl (Or.inl rfl))
        (pss_cons (ps_set (i := 6) nd rfl (Or.inl rfl) (pe_meth (pv 0) T.cl mT gT hr bT .nil pass0 (pa_cons (pv 4) (pa_cons (pv 5) pa_nil))))
        (pss_one (ps_if (PW.pt (pw_or (pt_not (pt_val (pe_callB call_isinst rfl B.isinstance boot_isinstance (pa_cons (pv 6) (pa_cons (pe_bltn rfl B.bool boot_bool (v := .ty "bool") rfl) pa_nil)))))
            (pw_or1 (pt_cmpR op_ne (pv 6) (pe_and (pe_cmpR op_le pe_int (pv 4) (nomark _)) (pe_and (pe_cmpR op_lt (pv 4) (pe_callB call_len_seq rfl B.len PySem.boot_len (pa_cons (pv 1) pa_nil)) (nomark _))
              (pe_one (pe_cmpR op_in_seq (pv 5) (pe_ix ix_list (pv 1) (pv 4) (fun _ _ => rfl)) rfl)))) (nomark _))))) (pss_one (ps_ret pe_bl)) pss_nil))))))
    (pss_one (ps_ret pe_bl))), ?_⟩
  have lm : (as.map V.ref).length = w'.length := by rw [List.length_map, RT.len]
  refine ⟨_, rfl, _, rfl, Tt, _, rfl, .inl (SqL.of RT.top), _, _, rfl, rfl, _, _, rfl, fun q1 hq1 => ?_⟩
  rw [lm]
  have s1 := same_new hq1 (.rng (-1) ((w'.length : Int) + 1))
  have e1 : upd H q1 (.rng (-1) ((w'.length : Int) + 1)) q1 = some (.rng (-1) ((w'.length : Int) + 1)) := upd_same
  generalize upd H q1 (.rng (-1) ((w'.length : Int) + 1)) = H1 at s1 e1
  refine ⟨q1, _, _, rfl, e1, by omega, by omega, by omega, by omega, by omega, fun q2 hq2 => ?_⟩
  have ern : rangeV (-1) (((w'.length : Int) + 1) - (-1)).toNat = ((List.range (((w'.length : Int) + 1) - (-1)).toNat).map fun (k : Nat) => (-1 : Int) + (k : Int)).map V.int := by
    unfold rangeV; rw [List.map_map]; rfl
  rw [ern]
  have hns : ((List.range (((w'.length : Int) + 1) - (-1)).toNat).map fun (k : Nat) => (-1 : Int) + (k : Int)).length ≤ 16 := by rw [List.length_map, List.length_range]; omega
  generalize ((List.range (((w'.length : Int) + 1) - (-1)).toNat).map fun (k : Nat) => (-1 : Int) + (k : Int)) = ns at hns
  have s2 := same_new hq2 (.lst (ns.map V.int))
  have e2 : upd H1 q2 (.lst (ns.map V.int)) q2 = some (.lst (ns.map V.int)) := upd_same
  generalize upd H1 q2 (.lst (ns.map V.int)) = H2 at s2 e2
  refine ⟨_, rfl, Tt, _, rfl, .inl (SqL.of (s2 _ _ (s1 _ _ RT.top))), _, rfl, _, _, rfl, rfl, _, rfl, _, rfl, _, _, rfl, rfl, by show 2 ≤ sizeLine; decide, fun q3 hq3 => ?_⟩
  have n23 : q2 ≠ q3 := ne_of_none e2 hq3
  refine ⟨q2, q3, _, _, rfl, rfl, by rw [upd_ne n23]; exact e2, upd_same, small (by simp; omega), fun r hr0 => ?_⟩
  have s4 := (s1.trans s2).trans ((same_new hq3 (.lst [V.int (((as.map V.ref).length : Int) + far), V.int (-2 - far)])).trans (same_new hr0 (.lst (ns.map V.int ++ [V.int (((as.map V.ref).length : Int) + far), V.int (-2 - far)]))))
  have ecat : ns.map V.int ++ [V.int (((as.map V.ref).length : Int) + far), V.int (-2 - far)] = (ns ++ [((as.map V.ref).length : Int) + far, -2 - far]).map V.int := by rw [List.map_append]; rfl
  have e4 : upd (upd H2 q3 (.lst [V.int (((as.map V.ref).length : Int) + far), V.int (-2 - far)])) r (.lst (ns.map V.int ++ [V.int (((as.map V.ref).length : Int) + far), V.int (-2 - far)])) r = some (.lst (ns.map V.int ++ [V.int (((as.map V.ref).length : Int) + far), V.int (-2 - far)])) := upd_same
  generalize upd (upd H2 q3 (.lst [V.int (((as.map V.ref).length : Int) + far), V.int (-2 - far)])) r (.lst (ns.map V.int ++ [V.int (((as.map V.ref).length : Int) + far), V.int (-2 - far)])) = H4 at s4 e4
  rw [ecat] at e4
  generalize ns ++ [((as.map V.ref).length : Int) + far, -2 - far] = ms at e4
  refine ⟨_, rfl, r, rfl, ⟨_, SqL.of e4⟩, for_list (K := K) (a := r) (xs := ms.map V.int) (fun i σ H' => ∃ (o4 o5 o6 : Option V), σ = [some (.ref o), some (.ref Tt), some (.int far), some (.ref r), o4, o5, o6] ∧ Same H4 H') ⟨_, _, _, rfl, Same.refl _⟩ ?_ ?_ ?_⟩
  · rintro i σ H' _ ⟨o4, o5, o6, rfl, sm⟩
    exact SqL.of (sm _ _ e4)
  · rintro i x σ H5 hx ⟨o4, o5, o6, rfl, sm⟩
    obtain ⟨a, rfl⟩ := ints_inv hx
    refine ⟨_, rfl, r, rfl, ⟨_, SqL.of (sm _ _ e4)⟩, for_list (K := K) (a := r) (xs := ms.map V.int) (fun i σ H' => ∃ (o5 o6 : Option V), σ = [some (.ref o), some (.ref Tt), some (.int far), some (.ref r), some (.int a), o5, o6] ∧ Same H4 H') ⟨_, _, rfl, sm⟩ ?_ ?_ ?_⟩
    · rintro j σ H' _ ⟨o5, o6, rfl, sm'⟩
      exact SqL.of (sm' _ _ e4)
    · rintro j x σ H6 hx ⟨o5, o6, rfl, sm6⟩
      obtain ⟨b, rfl⟩ := ints_inv hx
      have sH := s4.trans sm6
      have W6 := W.same sH
      obtain ⟨dx, ho⟩ := W6.ob
      have top6 := sH _ _ RT.top
      refine ⟨_, rfl, o, dx, _, rfl, ho, rfl, _, rfl, _, rfl, o, R, rs, w', a, b, rfl, W6, g, ?_⟩
      refine ⟨_, rfl, .bl _, "bool", .type "bool", true, rfl, .bl _, kit_bool_bool, _, rfl, iteF ?_⟩
      refine ⟨_, rfl, _, rfl, _, _, rfl, rfl, _, rfl, ite2 (fun c => ?_) (fun c => ?_)⟩
      · have ca := of_decide_eq_true c
        refine ⟨_, rfl, _, rfl, Tt, _, rfl, .inl (SqL.of top6), _, _, rfl, rfl, _, rfl, ite2 (fun c2 => ?_) (fun c2 => ?_)⟩
        · have cb := of_decide_eq_true c2
          rw [lm] at cb
          obtain ⟨an, rfl⟩ := Int.eq_ofNat_of_zero_le ca
          obtain ⟨ra, hra, hrow⟩ := (rows_same RT sH).at (show an < w'.length by omega)
          refine ⟨_, rfl, _, rfl, _, rfl, Tt, _, _, _, rfl, rfl, SqL.of top6, atI_nat (by rw [List.getElem?_map, hra]; rfl), ra, _, rfl, .inl (SqL.of hrow), rfl, rowV_flat _, rfl, _, rfl, ?_⟩
          refine ite_f (dec_blT ?_) ⟨_, _, rfl, sm6⟩
          show _ = inV (.int b) (rowV (row w' an))
          rw [inV_int, decide_eq_decide, Int.toNat_natCast]
          exact ⟨fun z => z.2, fun z => ⟨ca, z⟩⟩
        · refine ⟨rfl, _, rfl, ?_⟩
          refine ite_f (dec_blT ?_) ⟨_, _, rfl, sm6⟩
          refine decide_eq_false fun z => c2 (decide_eq_true ?_)
          have := row_lt z.2.2
          rw [lm]; omega
      · refine ⟨rfl, _, rfl, ?_⟩
        refine ite_f (dec_blT ?_) ⟨_, _, rfl, sm6⟩
        exact decide_eq_false fun z => c (decide_eq_true z.1)
    · rintro σ H6 ⟨o5, o6, rfl, sm6⟩
      exact ⟨_, _, _, rfl, sm6⟩
  · rintro σ H5 ⟨o4, o5, o6, rfl, sm⟩
    exact q H5 (s4.trans sm)
end
end K11

set_option Elab.async false
set_option linter.all false
set_option maxRecDepth 100000
set_option maxHeartbeats 8000000
namespace L2
open PySem
def rIsInst (K : PySem.W.Frag) : List V → Hp → VK → Prop := fun xs H Q => ∃ (x : V) (n : String) (t : Value) (b : Bool), xs = [x, .ty n] ∧ TyOf K H x t ∧ PySem.W.kitOne K t (.type n) = some b ∧ Q (.bl b) H
theorem call_isinstK {X : Cx} {K : PySem.W.Frag} (e : X.K = K := by rfl) : CallR X (.builtin "isinstance") (rIsInst K) := by subst e; exact call_isinst
end L2
namespace K11
open PySem L2 Wb
theorem dp_ties {K : PySem.W.Frag} {H : Hp} {F : Addr} {L : List (Addr × (Nat × Nat))} (h : H F = some (.lst (L.map fun e => V.ref e.1))) (p : Prs H L) : Dp K H (.ref F) (tiesD (L.map (·.2))) := by
  have : tiesD (L.map (·.2)) = .list (L.map fun e => tupD e.2) := by unfold tiesD; rw [List.map_map]; rfl
  rw [this]
  exact .lst (SqL.of h) (dp_prs p)
theorem not_f {c : Bool} (h : c = true) : (!c) = false := by rw [h]; rfl
theorem ne_int_f (i : Int) : (!decide (V.int i = V.int i)) = false := by rw [decide_eq_true rfl]; rfl
theorem atI_end {xs : List Addr} (h : 0 < xs.length) : ∃ a, xs[xs.length - 1]? = some a ∧ atI (xs.map V.ref) (-1) = some (.ref a) := by
  refine ⟨xs[xs.length - 1], List.getElem?_eq_getElem (by omega), ?_⟩
  have hne : xs ≠ [] := fun z => by rw [z] at h; exact Nat.lt_irrefl _ h
  have e : xs = xs.dropLast ++ [xs[xs.length - 1]] := by
    rw [← List.getLast_eq_getElem hne]
    exact (List.dropLast_concat_getLast hne).symm
  have e2 : xs.map V.ref = xs.dropLast.map V.ref ++ [V.ref (xs[xs.length - 1])] := by
    conv => lhs; rw [e]
    rw [List.map_append]; rfl
  rw [e2]
  exact atI_last _ _
section
variable {P : Program} {w : World} {K : PySem.W.Frag} {mg : Str → Option Value} {base : Heap}
def spTold (C : Addr) : Sp := fun vs H Q _ => ∃ (p R T : Addr) (rs as : List Addr) (w : W), vs = [.ref p, .ref T] ∧ WebAt C H p R rs w ∧ RowsAt H T as w ∧ Good w ∧ 1 ≤ w.length ∧ w.length ≤ 14 ∧ deg w ≤ 102 ∧ ∀ H', Same H H' → Q (.bl true) H'
theorem scTold : FnScope ["_law_web_here", "_law_turns", "_law_rows", "_law_ties_here"] ["_law_web_here", "_law_turns"] (defScope sTold) := ⟨rfl, rfl, rfl, by decide +kernel, rfl, by decide +kernel, by decide +kernel⟩
theorem ok_told {C fM fU fS : Addr} {fdM fdU fdS : FuncData} (B : Blt mg) (T : WTxt K mg C) (FM : Fun K "many" "Web.many" sMany fM fdM) (bM : Binds K fdM ["self"] []) (mM : Meth K C "many" fM) (FU : Fun K "turns" "Web.turns" sTurns fU fdU) (bU : Binds K fdU ["self"] []) (mU : Meth K C "turns" fU)
    (FS : Fun K "ties" "Web.ties" sTies fS fdS) (bS : Binds K fdS ["self"] []) (mS : Meth K C "ties" fS) (Is : Dfn K mg "_law_is_int" sIsInt ["_law_found"]) (In : Dfn K mg "_law_ints" sInts ["_law_found", "_law_due"]) (Ti : Dfn K mg "_law_ties" sTiesL ["_law_turns"])
    (D : Dfn K mg "_law_told" sTold ["_law_web_here", "_law_turns"]) : FnOk P w K mg base CX0 3 D.f D.fd ["_law_web_here", "_law_turns"] (spTold C) := by
  refine D.F.ok scTold (fun vs H Q E h => ?_) (fun cdv A outer s H vs Q E hr h => ?_)
  · obtain ⟨p, R, T, rs, as, w, rfl, _⟩ := h
    rfl
  obtain ⟨o, R, Tt, rs, as, w', rfl, W, RT, g, h1, h14, dg, q⟩ := h
  have nd := scTold.nd
  have nd1 : (["_law_tie_here"] : List Str).Nodup := by decide +kernel
  have nd2 : (["_law_row", "_law_turn"] : List Str).Nodup := by decide +kernel
  have gM := (ok_many (P := P) (w := w) (base := base) B T FM).mono (show 1 ≤ 2 by decide)
  have gU := (ok_turns (P := P) (w := w) (base := base) B T FU).mono (show 1 ≤ 2 by decide)
  have gS := (ok_tiesW (P := P) (w := w) (base := base) B T FS).mono (show 1 ≤ 2 by decide)
  have gI := (ok_isInt (P := P) (w := w) (base := base) B Is).mono (show 1 ≤ 2 by decide)
  have gN := ok_ints (P := P) (w := w) (base := base) B Is In
  have gT := (ok_tiesL (P := P) (w := w) (base := base) B Ti).mono (show 1 ≤ 2 by decide)
  refine ⟨_, pss_cons (ps_set (i := 2) nd rfl (Or.inl rfl) (pe_meth0 (pv 0) T.cl mU gU hr bU .nil pass0))
    (pss_cons (ps_set (i := 3) nd rfl (Or.inl rfl) (pe_meth0 (pv 0) T.cl mS gS hr bS .nil pass0))
    (pss_cons (ps_if (PW.pt (pw_or (pt_not (pt_val (pe_call gI hr rfl Is.m Is.F.kp Is.b .nil pass0 (pa_cons (pe_meth0 (pv 0) T.cl mM gM hr bM .nil pass0) pa_nil))))
        (pw_or (pt_cmpR op_ne (pe_meth0 (pv 0) T.cl mM gM hr bM .nil pass0) (pe_callB call_len_seq rfl B.len PySem.boot_len (pa_cons (pv 1) pa_nil)) (nomark _))
          (pw_or1 (pt_not (pt_val (pe_callB call_isinst rfl B.isinstance boot_isinstance (pa_cons (pv 2) (pa_cons (pe_bltn rfl B.list boot_list (v := .ty "list") rfl) pa_nil))))))))) (pss_one (ps_ret pe_bl)) pss_nil)
    (pss_cons (ps_if (PW.pt (pw_or (pt_cmpR op_ne (pe_callB call_len_seq rfl B.len PySem.boot_len (pa_cons (pv 2) pa_nil)) (pe_callB call_len_seq rfl B.len PySem.boot_len (pa_cons (pv 1) pa_nil)) (nomark _))
        (pw_or1 (pt_not (pt_val (pe_callB (call_all rfl) rfl B.all boot_all (pa_cons (pe_lc (NC := ["_law_row", "_law_turn"]) (src := [none, none]) rfl (CompOk.of (defScope sTold) rfl rfl (by decide +kernel) (by decide +kernel) (by decide +kernel)) trivial (pi_zip rfl B.zip (pa_cons (pv 2) (pa_cons (pv 1) pa_nil)))
            (fun _ _ _ => pg_tupK (K := K) (n := 2) rfl rfl (pgs_cons (pg_name (i := 0) nd2 rfl (Or.inl rfl)) (pgs_cons (pg_name (i := 1) nd2 rfl (Or.inl rfl)) pgs_nil))) (fun _ _ _ => pts_nil) (fun _ _ _ => pe_call gN hr rfl In.m In.F.kp In.b .nil pass0 (pa_cons (pv 0) (pa_cons (pv 1) pa_nil)))) pa_nil))))))) (pss_one (ps_ret pe_bl)) pss_nil)
    (pss_cons (ps_if (PW.pt (pw_or (pt_not (pt_val (pe_callB call_isinst rfl B.isinstance boot_isinstance (pa_cons (pv 3) (pa_cons (pe_bltn rfl B.list boot_list (v := .ty "list") rfl) pa_nil)))))
        (pw_or1 (pt_cmpR (op_neD hr.units) (pv 3) (pe_call gT hr rfl Ti.m Ti.F.kp Ti.b .nil pass0 (pa_cons (pv 1) pa_nil)) (nomark _))))) (pss_one (ps_ret pe_bl)) pss_nil)
    (pss_cons (ps_if (pt_not (pt_val (pe_callB (call_all rfl) rfl B.all boot_all (pa_cons (pe_lc (NC := ["_law_tie_here"]) (src := [none]) rfl (CompOk.of (defScope sTold) rfl rfl (by decide +kernel) (by decide +kernel) (by decide +kernel)) trivial (pi_list (pv 3))
          (fun _ _ _ => pg_name (i := 0) nd1 rfl (Or.inl rfl)) (fun _ _ _ => pts_nil) (fun _ _ _ => pe_and (pe_callB (call_isinstK (K := K)) rfl B.isinstance boot_isinstance (pa_cons (pv 0) (pa_cons (pe_bltn rfl B.tuple boot_tuple (v := .ty "tuple") rfl) pa_nil)))
            (pe_and (pe_call gI hr rfl Is.m Is.F.kp Is.b .nil pass0 (pa_cons (pe_ix (ix_tupK (K := K)) (pv 0) pe_int (fun _ _ => rfl)) pa_nil)) (pe_one (pe_call gI hr rfl Is.m Is.F.kp Is.b .nil pass0 (pa_cons (pe_ix (ix_tupK (K := K)) (pv 0) pe_int (fun _ _ => rfl)) pa_nil)))))) pa_nil)))) (pss_one (ps_ret pe_bl)) pss_nil)
    (pss_cons (ps_expr (pe_bm PySem.F.plainAttrs_list PySem.F.slot_list_append PySem.F.type_list_append mt_append (pe_ix ix_list (pv 2) pe_int (fun _ _ => rfl)) (pa_cons pe_int pa_nil)))
    (pss_cons (ps_expr (pe_bm0 PySem.F.plainAttrs_list PySem.F.slot_list_reverse PySem.F.type_list_reverse mt_reverse (pe_ix ix_list (pv 2) (pe_un un_neg pe_int) (fun _ _ => rfl))))
    (pss_cons (ps_expr (pe_bm0 PySem.F.plainAttrs_list PySem.F.slot_list_clear PySem.F.type_list_clear mt_clear (pv 2)))
    (pss_cons (ps_expr (pe_bm PySem.F.plainAttrs_list PySem.F.slot_list_append PySem.F.type_list_append mt_append (pv 3) (pa_cons (pe_tup (pa_cons pe_int (pa_cons pe_int pa_nil))) pa_nil)))
    (pss_one (ps_ret pe_bl))))))))))), ?_⟩
  obtain ⟨dx, ho⟩ := W.ob
  refine ⟨_, rfl, o, dx, _, rfl, ho, rfl, o, R, rs, w', rfl, W, h14, fun Dr ds H1 s1 hD ds0 R1 => ?_⟩
  have W1 := W.same s1
  refine ⟨_, rfl, o, dx, _, rfl, s1 _ _ ho, rfl, o, R, rs, w', rfl, W1, g, h14, dg, fun F L H2 s2 hF0 hF prs pm srt => ?_⟩
  have s02 := s1.trans s2
  have R2 := rows_same R1 s2
  have T2 := rows_same RT s02
  have W2 := W.same s02
  have lm : (as.map V.ref).length = w'.length := by rw [List.length_map, RT.len]
  have ld : (ds.map V.ref).length = w'.length := by rw [List.length_map, R1.len]
  refine ⟨_, rfl, o, dx, _, rfl, s02 _ _ ho, rfl, o, R, rs, w', rfl, W2, _, rfl, _, rfl, iteF ?_⟩
  refine ⟨_, rfl, o, dx, _, rfl, s02 _ _ ho, rfl, o, R, rs, w', rfl, W2, _, rfl, Tt, _, rfl, .inl (SqL.of T2.top), rfl, _, rfl, ?_⟩
  rw [lm]
  refine ite_f (ne_int_f _) ?_
  refine ⟨_, rfl, .ref Dr, "list", .type "list", true, rfl, .lst R2.top, kit_list_list, _, rfl, iteF ?_⟩
  refine ⟨_, rfl, Dr, _, rfl, .inl (SqL.of R2.top), _, rfl, Tt, _, rfl, .inl (SqL.of T2.top), rfl, _, rfl, ?_⟩
  rw [lm, ld]
  refine ite_f (ne_int_f _) ?_
  refine ⟨_, rfl, _, rfl, Dr, Tt, _, _, rfl, R2.top, T2.top, fun Dd hDd => ?_⟩
  refine lc_by w'.length (fun i σc Hc => ∃ (o1 o2 : Option V), σc = [o1, o2] ∧ Same H2 Hc ∧ Hc Dd = some (.lst ((List.replicate i true).map V.bl))) ?_ ?_ ?_ ?_ ?_
  · exact ⟨none, none, rfl, same_new hDd _, upd_same⟩
  · rintro i σc Hc hi ⟨o1, o2, rfl, sm, _⟩
    exact ⟨_, _, _, _, sm _ _ R2.top, sm _ _ T2.top, List.getElem?_eq_getElem (by rw [ld]; exact hi), List.getElem?_eq_getElem (by rw [lm]; exact hi)⟩
  · rintro i σc Hc hi ⟨o1, o2, rfl, sm, _⟩
    exact ⟨_, _, sm _ _ R2.top, sm _ _ T2.top, .inl (by rw [ld]; exact hi)⟩
  · rintro i x σc Hc H3 hi ⟨o1, o2, rfl, sm, hd⟩ ⟨t, x1, x2, rfl, ht, rfl, hx1, hx2⟩
    obtain ⟨a1, rfl, _, _, hr1⟩ := row_at (rows_same R2 sm) (hx1 _ (sm _ _ R2.top))
    obtain ⟨a2, rfl, _, _, hr2⟩ := row_at (rows_same T2 sm) (hx2 _ (sm _ _ T2.top))
    refine ⟨t, _, rfl, SqT.of upd_same, rfl, _, _, rfl, _, _, rfl, rfl, ?_⟩
    have s3 := same_new ht (.tup [V.ref a1, V.ref a2])
    generalize upd Hc t (.tup [V.ref a1, V.ref a2]) = H3 at s3
    refine yes_if ?_
    have rl := row_len g i
    refine ⟨_, rfl, _, rfl, a1, a2, _, rfl, s3 _ _ hr1, s3 _ _ hr2, by omega, fun H4 s4 => ?_⟩
    refine ⟨_, s4 _ _ (s3 _ _ hd), small1000 (by simp; omega), _, _, rfl, fun b u eb => ?_, ?_⟩
    · rw [upd_ne (ne_of_none eb hDd)]; exact s4 _ _ (s3 _ _ (sm _ _ eb))
    · rw [upd_same, List.replicate_succ', List.map_append]; rfl
  rintro σc H5 ⟨o1, o2, rfl, sm5, hd⟩
  refine ⟨Dd, _, rfl, hd, _, rfl, ?_⟩
  rw [all_true]
  refine iteF ?_
  have hF5 := sm5 _ _ hF
  have prs5 : Prs H5 L := fun e he => sm5 _ _ (prs e he)
  have T5 := rows_same T2 sm5
  refine ⟨_, rfl, .ref F, "list", .type "list", true, rfl, .lst hF5, kit_list_list, _, rfl, iteF ?_⟩
  refine ⟨_, rfl, _, rfl, Tt, as, w', rfl, T5, g, h14, fun F2 L2 sr H6 s6 hF2 prs2 eL2 pm2 st2 => ?_⟩
  have hF6 := s6 _ _ hF5
  have prs6 : Prs H6 L := fun e he => s6 _ _ (prs5 e he)
  have eqt := ties_eq pm2 st2 pm srt
  refine ⟨_, _, dp_ties hF6 prs6, dp_ties hF2 prs2, by have := depth_tiesD (L.map (·.2)); omega, _, rfl, ?_⟩
  refine ite_f (not_f ((eqv_tiesD _ _).mpr (eqt.trans eL2.symm))) ?_
  have R6 := (rows_same (rows_same R2 sm5) s6)
  have s06 := s02.trans (sm5.trans s6)
  have lL : L.length ≤ 1000 := by
    have e1 := pm.length_eq
    have e2 := ties_half g
    rw [List.length_map] at e1
    omega
  refine ⟨_, rfl, F, rfl, ⟨_, SqL.of hF6⟩, fun De hDe => ?_⟩
  refine lc_by L.length (fun i σc Hc => ∃ (o1 : Option V), σc = [o1] ∧ Same H6 Hc ∧ Hc De = some (.lst ((List.replicate i true).map V.bl))) ?_ ?_ ?_ ?_ ?_
  · exact ⟨none, rfl, same_new hDe _, upd_same⟩
  · rintro i σc Hc hi ⟨o1, rfl, sm, _⟩
    exact ⟨_, _, SqL.of (sm _ _ hF6), List.getElem?_eq_getElem (by rw [List.length_map]; exact hi)⟩
  · rintro i σc Hc hi ⟨o1, rfl, sm, _⟩
    exact ⟨_, SqL.of (sm _ _ hF6), by rw [List.length_map]; exact hi⟩
  · rintro i x σc Hc H7 hi ⟨o1, rfl, sm, hd⟩ ⟨rfl, hx⟩
    have hx' := hx _ (SqL.of (sm _ _ hF6))
    rw [List.getElem?_map, List.getElem?_eq_getElem hi] at hx'
    obtain rfl : V.ref (L[i]).1 = x := Option.some.inj hx'
    have he := sm _ _ (prs6 _ (List.getElem_mem hi))
    refine gYes ?_
    refine ⟨_, rfl, .ref _, "tuple", .type "tuple", true, rfl, .tup he, kit_tuple_tuple, _, rfl, iteT ?_⟩
    refine ⟨_, rfl, _, _, _, _, rfl, rfl, SqT.of he, atI_nat (j := 0) rfl, _, rfl, _, rfl, iteT ?_⟩
    refine ⟨_, rfl, _, _, _, _, rfl, rfl, SqT.of he, atI_nat (j := 1) rfl, _, rfl, ?_⟩
    refine ⟨_, hd, small1000 (by simp; omega), _, rfl, fun b u eb => ?_, ?_⟩
    · rw [upd_ne (ne_of_none eb hDe)]; exact sm _ _ eb
    · rw [upd_same, List.replicate_succ', List.map_append]; rfl
  rintro σc H8 ⟨o1, rfl, sm8, hd8⟩
  refine ⟨De, _, rfl, hd8, _, rfl, ?_⟩
  rw [all_true]
  refine iteF ?_
  have R8 := rows_same R6 sm8
  have s08 := s06.trans sm8
  have hF8 := sm8 _ _ hF6
  obtain ⟨a0, ha0, hr0⟩ := R8.at (show 0 < w'.length by omega)
  have ldr : ds.length = w'.length := R1.len
  obtain ⟨az, haz, hez⟩ := atI_end (xs := ds) (by omega)
  have hrz := R8.row _ az haz
  have rl0 := row_len g 0
  have nD0 : Dr ≠ a0 := fun z => R8.nT (by rw [z]; exact List.mem_of_getElem? ha0)
  have nDz : Dr ≠ az := fun z => R8.nT (by rw [z]; exact List.mem_of_getElem? haz)
  refine ⟨_, rfl, Dr, _, _, _, rfl, rfl, SqL.of R8.top, (show atI (ds.map V.ref) 0 = some (V.ref a0) from atI_nat (j := 0) (by rw [List.getElem?_map, ha0]; rfl)), .inl ⟨rfl, _, SqL.of hr0⟩, a0, _, _, rfl, rfl, hr0, small1000 (by rw [rowV_len]; omega), ?_⟩
  have hz9 : ∃ ys, upd H8 a0 (.lst (rowV (row w' 0) ++ [V.int 0])) az = some (.lst ys) := by
    by_cases e : az = a0
    · rw [e]; exact ⟨_, upd_same⟩
    · rw [upd_ne e]; exact ⟨_, hrz⟩
  have hD9 : upd H8 a0 (.lst (rowV (row w' 0) ++ [V.int 0])) Dr = some (.lst (ds.map V.ref)) := by rw [upd_ne nD0]; exact R8.top
  have f0 : H a0 = none := ds0 _ (List.mem_of_getElem? ha0)
  have fz : H az = none := ds0 _ (List.mem_of_getElem? haz)
  have s9 : Same H (upd H8 a0 (.lst (rowV (row w' 0) ++ [V.int 0]))) := fun b u eb => by rw [upd_ne (ne_of_none eb f0)]; exact s08 _ _ eb
  have nF0 : F ≠ a0 := fun z => by rw [z, R1.row _ _ ha0] at hF0; cases hF0
  have nFz : F ≠ az := fun z => by rw [z, R1.row _ _ haz] at hF0; cases hF0
  have nFD : F ≠ Dr := fun z => by rw [z, R1.top] at hF0; cases hF0
  have hF9 : upd H8 a0 (.lst (rowV (row w' 0) ++ [V.int 0])) F = some (.lst (L.map fun e => V.ref e.1)) := by rw [upd_ne nF0]; exact hF8
  generalize upd H8 a0 (.lst (rowV (row w' 0) ++ [V.int 0])) = H9 at hz9 hD9 s9 hF9
  obtain ⟨ys, hys⟩ := hz9
  refine ⟨_, rfl, _, rfl, Dr, _, _, _, rfl, rfl, SqL.of hD9, hez, .inl ⟨rfl, _, SqL.of hys⟩, az, _, rfl, rfl, hys, ?_⟩
  have hD10 : upd H9 az (.lst ys.reverse) Dr = some (.lst (ds.map V.ref)) := by rw [upd_ne nDz]; exact hD9
  refine ⟨_, rfl, .inl ⟨rfl, _, SqL.of hD10⟩, Dr, _, rfl, rfl, hD10, ?_⟩
  have hF11 : upd (upd H9 az (.lst ys.reverse)) Dr (.lst []) F = some (.lst (L.map fun e => V.ref e.1)) := by rw [upd_ne nFD, upd_ne nFz]; exact hF9
  have s11 : Same H (upd (upd H9 az (.lst ys.reverse)) Dr (.lst [])) := fun b u eb => by rw [upd_ne (ne_of_none eb hD), upd_ne (ne_of_none eb fz)]; exact s9 _ _ eb
  generalize upd (upd H9 az (.lst ys.reverse)) Dr (.lst []) = H11 at hF11 s11
  refine ⟨_, rfl, .inl ⟨rfl, _, SqL.of hF11⟩, by show 2 ≤ sizeLine; decide, fun tt htt => ?_⟩
  have nFt : F ≠ tt := ne_of_none hF11 htt
  refine ⟨F, _, _, rfl, rfl, by rw [upd_ne nFt]; exact hF11, small1000 (by rw [List.length_map]; omega), ?_⟩
  refine q _ fun b u eb => ?_
  have hFH : H F = none := s1.free hF0
  rw [upd_ne (ne_of_none eb hFH), upd_ne (ne_of_none (s11 _ _ eb) htt)]
  exact s11 _ _ eb
end
end K11

set_option Elab.async false
set_option linter.all false
set_option maxRecDepth 100000
set_option maxHeartbeats 8000000
namespace K11
open PySem L2 Wb
theorem dp_rows {K : PySem.W.Frag} {H : Hp} : ∀ {as : List Addr} {w : W}, as.length = w.length → (∀ (i : Nat) a, as[i]? = some a → H a = some (.lst (rowV (row w i)))) → DpAll K H (as.map V.ref) (w.map rowD)
  | [], [], _, _ => .nil
  | [], _ :: _, h, _ => by simp at h
  | _ :: _, [], h, _ => by simp at h
  | a :: as, r :: w, h, hr => .cons (dp_rowD (hr 0 a rfl)) (dp_rows (by simpa using h) fun i b e => hr (i + 1) b e)
theorem dp_web {K : PySem.W.Frag} {H : Hp} {T : Addr} {as : List Addr} {w : W} (R : RowsAt H T as w) : Dp K H (.ref T) (webD w) := .lst (SqL.of R.top) (dp_rows R.len R.row)
theorem WebAt.off {S : List Addr} {C : Addr} {H H' : Hp} {p R : Addr} {rs : List Addr} {w : W} (W : WebAt C H p R rs w) (h : Off S H H') (hp : p ∉ S) (hR : R ∉ S) (hr : ∀ a ∈ rs, a ∉ S) : WebAt C H' p R rs w :=
  ⟨let ⟨dx, e⟩ := W.ob; ⟨dx, h _ _ hp e⟩, W.rows.off h hR hr⟩
def w2 : W := [[1], [0]]
theorem row_w2 (p q : Nat) : q ∈ row w2 p ↔ (p = 0 ∧ q = 1) ∨ (p = 1 ∧ q = 0) := by
  match p with
  | 0 => simp [row, w2]
  | 1 => simp [row, w2]
  | p + 2 => simp [row, w2]
theorem good_w2 : Good w2 := by
  refine ⟨fun p q h => ?_, fun p h => ?_, fun p => ?_, fun p q h => ?_, fun p h => ?_⟩
  · have := (row_w2 p q).mp h
    show q < 2
    omega
  · have := (row_w2 p p).mp h
    omega
  · match p with
    | 0 => simp [row, w2]
    | 1 => simp [row, w2]
    | p + 2 => simp [row, w2]
  · have := (row_w2 p q).mp h
    exact (row_w2 q p).mpr (by omega)
  · have h' : p < 2 := h
    match p, h' with
    | 0, _ => exact .refl _
    | 1, _ => exact .step (.refl _) ((row_w2 0 1).mpr (.inl ⟨rfl, rfl⟩))
theorem lit_two {H : Hp} {r1 r2 T : Addr} (h1 : H r1 = none) (h2 : upd H r1 (.lst [.int 1]) r2 = none) (hT : upd (upd H r1 (.lst [.int 1])) r2 (.lst [.int 0]) T = none) :
    RowsAt (upd (upd (upd H r1 (.lst [.int 1])) r2 (.lst [.int 0])) T (.lst [.ref r1, .ref r2])) T [r1, r2] w2 := by
  have n12 : r1 ≠ r2 := fun z => by rw [← z, upd_same] at h2; cases h2
  have n2T : r2 ≠ T := fun z => by rw [← z, upd_same] at hT; cases hT
  have n1T : r1 ≠ T := fun z => by rw [← z, upd_ne n12, upd_same] at hT; cases hT
  refine ⟨upd_same, by simp [n12], by simp [Ne.symm n1T, Ne.symm n2T], rfl, fun i a e => ?_⟩
  match i, e with
  | 0, e =>
    cases e
    rw [upd_ne n1T, upd_ne n12, upd_same]; rfl
  | 1, e =>
    cases e
    rw [upd_ne n2T, upd_same]; rfl
  | i + 2, e => simp at e
theorem lit_same {H : Hp} {r1 r2 T : Addr} (h1 : H r1 = none) (h2 : upd H r1 (.lst [.int 1]) r2 = none) (hT : upd (upd H r1 (.lst [.int 1])) r2 (.lst [.int 0]) T = none) :
    Same H (upd (upd (upd H r1 (.lst [.int 1])) r2 (.lst [.int 0])) T (.lst [.ref r1, .ref r2])) := (same_new h1 _).trans ((same_new h2 _).trans (same_new hT _))
def spLaw (K : PySem.W.Frag) : Sp := fun vs H Q _ => ∃ (a : Addr) (ns : List Int), vs = [.ref a] ∧ SqL K H a (ns.map V.int) ∧ ns.length ≤ 63 ∧ ∀ H', Q (.bl true) H'
theorem scLaw : FnScope ["_law_script", "_law_turns", "_law_handed", "_law_web_here", "_law_other"] ["_law_script"] (defScope sLaw) := ⟨rfl, rfl, rfl, by decide +kernel, rfl, by decide +kernel, by decide +kernel⟩
section
variable {P : Program} {w : World} {K : PySem.W.Frag} {mg : Str → Option Value} {base : Heap}
theorem ok_law {C f fN : Addr} {fd fdN : FuncData} (B : Blt mg) (T : WTxt K mg C) (mC : mg "Web" = some (.ref C)) (Mw : Mk K C fN) (bN : Binds K fdN ["self", "turns"] [])
    (gN : FnOk P w K mg base CX0 4 fN fdN ["self", "turns"] (spInitW C)) {We To Be Td Ce : Addr} {dWe dTo dBe dTd dCe : FuncData}
    (gW : FnOk P w K mg base CX0 5 We dWe ["_law_script", "_law_most", "_law_plane"] (spWebL K)) (mW : mg "_law_web" = some (.ref We)) (kW : PySem.W.keepIn K (.ref We) = true) (bW : Binds K dWe ["_law_script", "_law_most", "_law_plane"] [])
    (gTo : FnOk P w K mg base CX0 5 To dTo ["_law_web_here", "_law_turns"] (spTold C)) (mTo : mg "_law_told" = some (.ref To)) (kTo : PySem.W.keepIn K (.ref To) = true) (bTo : Binds K dTo ["_law_web_here", "_law_turns"] [])
    (gBe : FnOk P w K mg base CX0 5 Be dBe ["_law_web_here", "_law_turns"] (spBehindL C)) (mBe : mg "_law_behind" = some (.ref Be)) (kBe : PySem.W.keepIn K (.ref Be) = true) (bBe : Binds K dBe ["_law_web_here", "_law_turns"] [])
    (gTd : FnOk P w K mg base CX0 5 Td dTd ["_law_web_here", "_law_turns", "_law_far"] (spTiedL C)) (mTd : mg "_law_tied" = some (.ref Td)) (kTd : PySem.W.keepIn K (.ref Td) = true) (bTd : Binds K dTd ["_law_web_here", "_law_turns", "_law_far"] [])
    (gCe : FnOk P w K mg base CX0 5 Ce dCe ["_law_script", "_law_k"] (spCell K)) (mCe : mg "_law_cell" = some (.ref Ce)) (kCe : PySem.W.keepIn K (.ref Ce) = true) (bCe : Binds K dCe ["_law_script", "_law_k"] [])
    (F : Fun K "law" "law" sLaw f fd) : FnOk P w K mg base CX0 6 f fd ["_law_script"] (spLaw K) := by
  refine F.ok scLaw (fun vs H Q E h => ?_) (fun cdv A outer s H vs Q E hr h => ?_)
  · obtain ⟨a, ns, rfl, _⟩ := h
    rfl
  obtain ⟨a, ns, rfl, hS, h63, q⟩ := h
  have nd := scLaw.nd
  have nd1 : (["_law_turn"] : List Str).Nodup := by decide +kernel
  refine ⟨_, pss_cons (ps_set (i := 1) nd rfl (Or.inl rfl) (pe_call gW hr rfl mW kW bW .nil pass0 (pa_cons (pv 0) (pa_cons pe_int (pa_cons (pe_cmpR op_eq (pe_op op_mod (pe_call gCe hr rfl mCe kCe bCe .nil pass0 (pa_cons (pv 0) (pa_cons pe_int pa_nil))) pe_int) pe_int (nomark _)) pa_nil)))))
    (pss_cons (ps_setlc (i := 2) (NC := ["_law_turn"]) (src := [none]) rfl nd rfl (Or.inl rfl) (CompOk.of (defScope sLaw) rfl rfl (by decide +kernel) (by decide +kernel) (by decide +kernel)) trivial (pi_list (pv 1))
        (fun _ _ _ => pg_name (i := 0) nd1 rfl (Or.inl rfl)) (fun _ _ _ => pts_nil) (fun _ _ _ => pe_callTy (call_listK (K := K)) rfl B.list boot_list (pa_cons (pv 0) pa_nil)) rfl)
    (pss_cons (ps_set (i := 3) nd rfl (Or.inl rfl) (pe_make Mw gN hr rfl mC bN .nil pass0 (pa_cons (pv 2) pa_nil)))
    (pss_cons (ps_if (PW.pt (pw_or (pt_cmpR (op_neD hr.units) (pv 2) (pv 1) (nomark _)) (pw_or1 (pt_not (pt_val (pe_call gTo hr rfl mTo kTo bTo .nil pass0 (pa_cons (pv 3) (pa_cons (pv 1) pa_nil)))))))) (pss_one (ps_ret pe_bl)) pss_nil)
    (pss_cons (ps_expr (pe_bm PySem.F.plainAttrs_list PySem.F.slot_list_append PySem.F.type_list_append mt_append (pe_ix ix_list (pv 2) pe_int (fun _ _ => rfl)) (pa_cons pe_int pa_nil)))
    (pss_cons (ps_expr (pe_bm0 PySem.F.plainAttrs_list PySem.F.slot_list_reverse PySem.F.type_list_reverse mt_reverse (pe_ix ix_list (pv 2) (pe_un un_neg pe_int) (fun _ _ => rfl))))
    (pss_cons (ps_expr (pe_bm PySem.F.plainAttrs_list PySem.F.slot_list_append PySem.F.type_list_append mt_append (pv 2) (pa_cons (pe_lst pa_nil) pa_nil)))
    (pss_cons (ps_set (i := 4) nd rfl (Or.inl rfl) (pe_make Mw gN hr rfl mC bN .nil pass0 (pa_cons (pe_lst (pa_cons (pe_lst (pa_cons pe_int pa_nil)) (pa_cons (pe_lst (pa_cons pe_int pa_nil)) pa_nil))) pa_nil)))
    (pss_cons (ps_if (PW.pt (pw_or (pt_not (pt_val (pe_call gTo hr rfl mTo kTo bTo .nil pass0 (pa_cons (pv 3) (pa_cons (pv 1) pa_nil))))) (pw_or1 (pt_not (pt_val (pe_call gTo hr rfl mTo kTo bTo .nil pass0 (pa_cons (pv 4) (pa_cons (pe_lst (pa_cons (pe_lst (pa_cons pe_int pa_nil)) (pa_cons (pe_lst (pa_cons pe_int pa_nil)) pa_nil))) pa_nil)))))))) (pss_one (ps_ret pe_bl)) pss_nil)
    (pss_one (ps_ret (pe_and (pe_call gBe hr rfl mBe kBe bBe .nil pass0 (pa_cons (pv 3) (pa_cons (pv 1) pa_nil))) (pe_one (pe_call gTd hr rfl mTd kTd bTd .nil pass0 (pa_cons (pv 3) (pa_cons (pv 1) (pa_cons (pe_op op_mod (pe_call gCe hr rfl mCe kCe bCe .nil pass0 (pa_cons (pv 0) (pa_cons pe_int pa_nil))) (pe_op op_pow pe_int pe_int)) pa_nil)))))))))))))))), ?_⟩
  refine ⟨_, rfl, _, rfl, a, ns, 5, rfl, hS, h63, by decide, by decide, fun v5 H1 s1 => ?_⟩
  refine ⟨_, _, rfl, rfl, (show (0 : Int) < 2 by decide), rfl, a, ns, 14, _, rfl, s1.seq hS, h63, by decide, by decide, fun Tt as w' H2 s2 hTt0 has0 R2 g h1 h14i dg => ?_⟩
  have h14 : w'.length ≤ 14 := by omega
  have s02 := s1.trans s2
  refine ⟨_, rfl, Tt, rfl, ⟨_, SqL.of R2.top⟩, fun Dh hDh => ?_⟩
  refine copy_lc R2 h14 hDh fun hs H3 s3 fr3 R3 => ?_
  have s03 := s02.trans s3
  refine ⟨_, rfl, fun x dx hx hdx ne => ?_⟩
  have hx' : upd H3 dx (.own x) x = none := by rw [upd_ne (Ne.symm ne)]; exact hx
  have sI := (same_new hdx (.own x)).trans (same_new hx' (.ins C dx []))
  refine ⟨x, dx, Dh, hs, w', rfl, upd_same, rows_same R3 sI, g, h1, h14, fun R rs H4 kp hR hrs W4 => ⟨rfl, ?_⟩⟩
  have s4 : Same H3 H4 := fun b u eb => kp b u (sI _ _ eb) (ne_of_none eb hx)
  have hR3 : H3 R = none := sI.free hR
  have hrs3 : ∀ b ∈ rs, H3 b = none := fun b hb => sI.free (hrs b hb)
  have T4 := rows_same R2 (s3.trans s4)
  have D4 := rows_same R3 s4
  refine ⟨_, rfl, _, rfl, _, _, dp_web D4, dp_web T4, by have := depth_webD w'; omega, _, rfl, ?_⟩
  refine ite_f (not_f ((eqv_webD _ _).mpr rfl)) ?_
  refine ⟨_, rfl, _, rfl, x, R, Tt, rs, as, w', rfl, W4, T4, g, h1, h14, dg, fun H5 s5 => ⟨_, rfl, iteF ?_⟩⟩
  have W5 := W4.same s5
  have T5 := rows_same T4 s5
  have D5 := rows_same D4 s5
  have s05 := s03.trans (s4.trans s5)
  -- what was handed in is changed
  obtain ⟨a0, ha0, hr0⟩ := D5.at (show 0 < w'.length by omega)
  have ldr : hs.length = w'.length := R3.len
  obtain ⟨az, haz, hez⟩ := atI_end (xs := hs) (by omega)
  have hrz := D5.row _ az haz
  have rl0 := row_len g 0
  have m0 := List.mem_of_getElem? ha0
  have mz := List.mem_of_getElem? haz
  have nD0 : Dh ≠ a0 := fun z => D5.nT (by rw [z]; exact m0)
  have nDz : Dh ≠ az := fun z => D5.nT (by rw [z]; exact mz)
  refine ⟨_, rfl, Dh, _, _, _, rfl, rfl, SqL.of D5.top, (show atI (hs.map V.ref) 0 = some (V.ref a0) from atI_nat (j := 0) (by rw [List.getElem?_map, ha0]; rfl)), .inl ⟨rfl, _, SqL.of hr0⟩, a0, _, _, rfl, rfl, hr0, small1000 (by rw [rowV_len]; omega), ?_⟩
  have hz9 : ∃ ys, upd H5 a0 (.lst (rowV (row w' 0) ++ [V.int 0])) az = some (.lst ys) := by
    by_cases e : az = a0
    · rw [e]; exact ⟨_, upd_same⟩
    · rw [upd_ne e]; exact ⟨_, hrz⟩
  have hD9 : upd H5 a0 (.lst (rowV (row w' 0) ++ [V.int 0])) Dh = some (.lst (hs.map V.ref)) := by rw [upd_ne nD0]; exact D5.top
  have o9 : Off [a0, az, Dh] H5 (upd H5 a0 (.lst (rowV (row w' 0) ++ [V.int 0]))) := Off.put (.inl (by simp))
  generalize upd H5 a0 (.lst (rowV (row w' 0) ++ [V.int 0])) = H9 at hz9 hD9 o9
  obtain ⟨ys, hys⟩ := hz9
  refine ⟨_, rfl, _, rfl, Dh, _, _, _, rfl, rfl, SqL.of hD9, hez, .inl ⟨rfl, _, SqL.of hys⟩, az, _, rfl, rfl, hys, ?_⟩
  have hD10 : upd H9 az (.lst ys.reverse) Dh = some (.lst (hs.map V.ref)) := by rw [upd_ne nDz]; exact hD9
  have o10 : Off [a0, az, Dh] H5 (upd H9 az (.lst ys.reverse)) := o9.trans (Off.put (.inl (by simp)))
  generalize upd H9 az (.lst ys.reverse) = H10 at hD10 o10
  refine ⟨_, rfl, .inl ⟨rfl, _, SqL.of hD10⟩, by show 0 ≤ sizeLine; decide, fun le hle => ?_⟩
  have nDl : Dh ≠ le := ne_of_none hD10 hle
  refine ⟨Dh, _, _, rfl, rfl, by rw [upd_ne nDl]; exact hD10, small1000 (by rw [List.length_map]; omega), ?_⟩
  have o11 : Off [a0, az, Dh] H5 (upd (upd H10 le (.lst [])) Dh (.lst (hs.map V.ref ++ [V.ref le]))) := o10.trans ((Off.of_same (same_new hle _)).trans (Off.put (.inl (by simp))))
  generalize upd (upd H10 le (.lst [])) Dh (.lst (hs.map V.ref ++ [V.ref le])) = H11 at o11
  have f2 : ∀ b ∈ ([a0, az, Dh] : List Addr), H2 b = none := fun b hb => by
    simp only [List.mem_cons, List.not_mem_nil, or_false] at hb
    rcases hb with rfl | rfl | rfl
    · exact fr3 _ m0
    · exact fr3 _ mz
    · exact hDh
  have f3 : ∀ b ∈ ([a0, az, Dh] : List Addr), H3 b ≠ none := fun b hb => by
    simp only [List.mem_cons, List.not_mem_nil, or_false] at hb
    rcases hb with rfl | rfl | rfl
    · rw [R3.row _ _ ha0]; exact fun z => by cases z
    · rw [R3.row _ _ haz]; exact fun z => by cases z
    · rw [R3.top]; exact fun z => by cases z
  have s011 : Same H H11 := fun b u eb => o11 b u (fun z => ne_of_none (s02 _ _ eb) (f2 b z) rfl) (s05 _ _ eb)
  have T11 : RowsAt H11 Tt as w' := T5.off o11 (fun z => ne_of_none R2.top (f2 _ z) rfl) fun b hb z => by
    obtain ⟨k, hk⟩ := List.getElem?_of_mem hb
    exact ne_of_none (R2.row k b hk) (f2 _ z) rfl
  have W11 : WebAt C H11 x R rs w' := W5.off o11 (fun z => f3 _ z hx) (fun z => f3 _ z hR3) fun b hb z => f3 _ z (hrs3 b hb)
  -- another web
  refine ⟨by show 1 ≤ sizeLine; decide, fun r1 hr1 => ⟨by show 1 ≤ sizeLine; decide, fun r2 hr2 => ⟨by show 2 ≤ sizeLine; decide, fun T2 hT2 => ?_⟩⟩⟩
  have sL := lit_same hr1 hr2 hT2
  have RL := lit_two hr1 hr2 hT2
  generalize upd (upd (upd H11 r1 (.lst [V.int 1])) r2 (.lst [V.int 0])) T2 (.lst [V.ref r1, V.ref r2]) = H12 at sL RL
  intro y dy hy hdy ney
  have hy' : upd H12 dy (.own y) y = none := by rw [upd_ne (Ne.symm ney)]; exact hy
  have sJ := (same_new hdy (.own y)).trans (same_new hy' (.ins C dy []))
  refine ⟨y, dy, T2, _, w2, rfl, upd_same, rows_same RL sJ, good_w2, by decide, by decide, fun Ry ry H13 kpy _ _ W13 => ⟨rfl, ?_⟩⟩
  have s13 : Same H12 H13 := fun b u eb => kpy b u (sJ _ _ eb) (ne_of_none eb hy)
  have s1113 := sL.trans s13
  refine ⟨_, rfl, _, rfl, x, R, Tt, rs, as, w', rfl, W11.same s1113, rows_same T11 s1113, g, h1, h14, dg, fun H14 s14 => ⟨_, rfl, iteF ?_⟩⟩
  refine ⟨_, rfl, by show 1 ≤ sizeLine; decide, fun r3 hr3 => ⟨by show 1 ≤ sizeLine; decide, fun r4 hr4 => ⟨by show 2 ≤ sizeLine; decide, fun T4 hT4 => ?_⟩⟩⟩
  have sL2 := lit_same hr3 hr4 hT4
  have RL2 := lit_two hr3 hr4 hT4
  generalize upd (upd (upd H14 r3 (.lst [V.int 1])) r4 (.lst [V.int 0])) T4 (.lst [V.ref r3, V.ref r4]) = H15 at sL2 RL2
  refine ⟨y, Ry, T4, ry, _, w2, rfl, (W13.same s14).same sL2, RL2, good_w2, by decide, by decide, by decide, fun H16 s16 => ⟨_, rfl, iteF ?_⟩⟩
  have s1116 := s1113.trans (s14.trans (sL2.trans s16))
  have W16 := W11.same s1116
  have T16 := rows_same T11 s1116
  have s016 := s011.trans s1116
  refine ⟨_, rfl, _, rfl, x, R, Tt, rs, as, w', rfl, W16, T16, g, h14, fun H17 s17 => ⟨_, rfl, iteT ?_⟩⟩
  refine ⟨_, rfl, _, rfl, _, rfl, a, ns, 6, rfl, (s016.trans s17).seq hS, h63, by decide, by decide, fun v6 H18 s18 => ?_⟩
  have s1618 := s17.trans s18
  refine ⟨_, _, rfl, rfl, ⟨by decide, by decide, by decide⟩, _, _, rfl, rfl, (show (0 : Int) < 10 ^ 60 by decide), x, R, Tt, rs, as, w', _, rfl, W16.same s1618, rows_same T16 s1618, g, h14, fun H19 s19 => q H19⟩
end
end K11

set_option Elab.async false
set_option linter.all false
set_option maxRecDepth 100000
set_option maxHeartbeats 8000000
namespace K11
open PySem L2 Wb
theorem all_mk {l : PySem.W.OpenLaw} {w : World} {K : PySem.W.Frag} {h : Heap} {mg : Str → Option Value} {fa C : Addr} {tk : Tok} (X : K.In h) (G : h.Ns mainGlobals mg) (hfa : mg "law" = some (.ref fa))
    {d0 : Addr} {od0 an0 : Option Addr} {sl0 : Array (Option Value)} {oc0 kV0 dc0 pm0 cd0 ct0 : Value}
    {d1 : Addr} {od1 an1 : Option Addr} {sl1 : Array (Option Value)} {oc1 kV1 dc1 pm1 cd1 ct1 : Value}
    {d2 : Addr} {od2 an2 : Option Addr} {sl2 : Array (Option Value)} {oc2 kV2 dc2 pm2 cd2 ct2 : Value}
    {d3 : Addr} {od3 an3 : Option Addr} {sl3 : Array (Option Value)} {oc3 kV3 dc3 pm3 cd3 ct3 : Value}
    {d4 : Addr} {od4 an4 : Option Addr} {sl4 : Array (Option Value)} {oc4 kV4 dc4 pm4 cd4 ct4 : Value}
    {d5 : Addr} {od5 an5 : Option Addr} {sl5 : Array (Option Value)} {oc5 kV5 dc5 pm5 cd5 ct5 : Value}
    {d6 : Addr} {od6 an6 : Option Addr} {sl6 : Array (Option Value)} {oc6 kV6 dc6 pm6 cd6 ct6 : Value}
    {d7 : Addr} {od7 an7 : Option Addr} {sl7 : Array (Option Value)} {oc7 kV7 dc7 pm7 cd7 ct7 : Value}
    {d8 : Addr} {od8 an8 : Option Addr} {sl8 : Array (Option Value)} {oc8 kV8 dc8 pm8 cd8 ct8 : Value}
    {d9 : Addr} {od9 an9 : Option Addr} {sl9 : Array (Option Value)} {oc9 kV9 dc9 pm9 cd9 ct9 : Value}
    {d10 : Addr} {od10 an10 : Option Addr} {sl10 : Array (Option Value)} {oc10 kV10 dc10 pm10 cd10 ct10 : Value}
    {d11 : Addr} {od11 an11 : Option Addr} {sl11 : Array (Option Value)} {oc11 kV11 dc11 pm11 cd11 ct11 : Value}
    {d12 : Addr} {od12 an12 : Option Addr} {sl12 : Array (Option Value)} {oc12 kV12 dc12 pm12 cd12 ct12 : Value}
    {d13 : Addr} {od13 an13 : Option Addr} {sl13 : Array (Option Value)} {oc13 kV13 dc13 pm13 cd13 ct13 : Value}
    {d14 : Addr} {od14 an14 : Option Addr} {sl14 : Array (Option Value)} {oc14 kV14 dc14 pm14 cd14 ct14 : Value}
    {d15 : Addr} {od15 an15 : Option Addr} {sl15 : Array (Option Value)} {oc15 kV15 dc15 pm15 cd15 ct15 : Value}
    {d16 : Addr} {od16 an16 : Option Addr} {sl16 : Array (Option Value)} {oc16 kV16 dc16 pm16 cd16 ct16 : Value}
    {d17 : Addr} {od17 an17 : Option Addr} {sl17 : Array (Option Value)} {oc17 kV17 dc17 pm17 cd17 ct17 : Value}
    {d18 : Addr} {od18 an18 : Option Addr} {sl18 : Array (Option Value)} {oc18 kV18 dc18 pm18 cd18 ct18 : Value}
    {d19 : Addr} {od19 an19 : Option Addr} {sl19 : Array (Option Value)} {oc19 kV19 dc19 pm19 cd19 ct19 : Value}
    {d20 : Addr} {od20 an20 : Option Addr} {sl20 : Array (Option Value)} {oc20 kV20 dc20 pm20 cd20 ct20 : Value}
    {d21 : Addr} {od21 an21 : Option Addr} {sl21 : Array (Option Value)} {oc21 kV21 dc21 pm21 cd21 ct21 : Value}
    {d22 : Addr} {od22 an22 : Option Addr} {sl22 : Array (Option Value)} {oc22 kV22 dc22 pm22 cd22 ct22 : Value}
    {d23 : Addr} {od23 an23 : Option Addr} {sl23 : Array (Option Value)} {oc23 kV23 dc23 pm23 cd23 ct23 : Value}
    {d24 : Addr} {od24 an24 : Option Addr} {sl24 : Array (Option Value)} {oc24 kV24 dc24 pm24 cd24 ct24 : Value}
    {i0 : Addr} {jd0 jn0 : Option Addr} {js0 : Array (Option Value)} {jc0 jk0 jo0 jp0 jq0 jt0 : Value}
    {i1 : Addr} {jd1 jn1 : Option Addr} {js1 : Array (Option Value)} {jc1 jk1 jo1 jp1 jq1 jt1 : Value}
    {i2 : Addr} {jd2 jn2 : Option Addr} {js2 : Array (Option Value)} {jc2 jk2 jo2 jp2 jq2 jt2 : Value}
    {i3 : Addr} {jd3 jn3 : Option Addr} {js3 : Array (Option Value)} {jc3 jk3 jo3 jp3 jq3 jt3 : Value}
    {i4 : Addr} {jd4 jn4 : Option Addr} {js4 : Array (Option Value)} {jc4 jk4 jo4 jp4 jq4 jt4 : Value}
    {i5 : Addr} {jd5 jn5 : Option Addr} {js5 : Array (Option Value)} {jc5 jk5 jo5 jp5 jq5 jt5 : Value}
    (gC : PySem.W.nsIn K mainGlobals "Web" = some (some (.ref C)))
    (a0 : PySem.W.nsIn K mainGlobals "is_among" = some (some (.ref d0)))
    (l0 : K.lookup d0 = some ⟨oc0, od0, .func (PySem.W.fnOf "is_among" "is_among" (defArgs sAmong) (defBody sAmong) (defScope sAmong) .none kV0 dc0 pm0 an0 cd0 ct0), sl0⟩)
    (c0 : PySem.W.codeIn K cd0 "is_among" = true)
    (k0 : PySem.W.keepIn K (.ref d0) = true)
    (a1 : PySem.W.nsIn K mainGlobals "alien_fault" = some (some (.ref d1)))
    (l1 : K.lookup d1 = some ⟨oc1, od1, .func (PySem.W.fnOf "alien_fault" "alien_fault" (defArgs sAlien) (defBody sAlien) (defScope sAlien) .none kV1 dc1 pm1 an1 cd1 ct1), sl1⟩)
    (c1 : PySem.W.codeIn K cd1 "alien_fault" = true)
    (k1 : PySem.W.keepIn K (.ref d1) = true)
    (a2 : PySem.W.nsIn K mainGlobals "self_fault" = some (some (.ref d2)))
    (l2 : K.lookup d2 = some ⟨oc2, od2, .func (PySem.W.fnOf "self_fault" "self_fault" (defArgs sSelf) (defBody sSelf) (defScope sSelf) .none kV2 dc2 pm2 an2 cd2 ct2), sl2⟩)
    (c2 : PySem.W.codeIn K cd2 "self_fault" = true)
    (k2 : PySem.W.keepIn K (.ref d2) = true)
    (a3 : PySem.W.nsIn K mainGlobals "twice_fault" = some (some (.ref d3)))
    (l3 : K.lookup d3 = some ⟨oc3, od3, .func (PySem.W.fnOf "twice_fault" "twice_fault" (defArgs sTwice) (defBody sTwice) (defScope sTwice) .none kV3 dc3 pm3 an3 cd3 ct3), sl3⟩)
    (c3 : PySem.W.codeIn K cd3 "twice_fault" = true)
    (k3 : PySem.W.keepIn K (.ref d3) = true)
    (a4 : PySem.W.nsIn K mainGlobals "lone_fault" = some (some (.ref d4)))
    (l4 : K.lookup d4 = some ⟨oc4, od4, .func (PySem.W.fnOf "lone_fault" "lone_fault" (defArgs sLone) (defBody sLone) (defScope sLone) .none kV4 dc4 pm4 an4 cd4 ct4), sl4⟩)
    (c4 : PySem.W.codeIn K cd4 "lone_fault" = true)
    (k4 : PySem.W.keepIn K (.ref d4) = true)
    (a5 : PySem.W.nsIn K mainGlobals "reached_from_first" = some (some (.ref d5)))
    (l5 : K.lookup d5 = some ⟨oc5, od5, .func (PySem.W.fnOf "reached_from_first" "reached_from_first" (defArgs sReached) (defBody sReached) (defScope sReached) .none kV5 dc5 pm5 an5 cd5 ct5), sl5⟩)
    (c5 : PySem.W.codeIn K cd5 "reached_from_first" = true)
    (k5 : PySem.W.keepIn K (.ref d5) = true)
    (a6 : PySem.W.nsIn K mainGlobals "apart_fault" = some (some (.ref d6)))
    (l6 : K.lookup d6 = some ⟨oc6, od6, .func (PySem.W.fnOf "apart_fault" "apart_fault" (defArgs sApart) (defBody sApart) (defScope sApart) .none kV6 dc6 pm6 an6 cd6 ct6), sl6⟩)
    (c6 : PySem.W.codeIn K cd6 "apart_fault" = true)
    (k6 : PySem.W.keepIn K (.ref d6) = true)
    (a7 : PySem.W.nsIn K mainGlobals "first_fault" = some (some (.ref d7)))
    (l7 : K.lookup d7 = some ⟨oc7, od7, .func (PySem.W.fnOf "first_fault" "first_fault" (defArgs sFirst) (defBody sFirst) (defScope sFirst) .none kV7 dc7 pm7 an7 cd7 ct7), sl7⟩)
    (c7 : PySem.W.codeIn K cd7 "first_fault" = true)
    (k7 : PySem.W.keepIn K (.ref d7) = true)
    (a8 : PySem.W.nsIn K mainGlobals "_law_cell" = some (some (.ref d8)))
    (l8 : K.lookup d8 = some ⟨oc8, od8, .func (PySem.W.fnOf "_law_cell" "_law_cell" (defArgs sCell) (defBody sCell) (defScope sCell) .none kV8 dc8 pm8 an8 cd8 ct8), sl8⟩)
    (c8 : PySem.W.codeIn K cd8 "_law_cell" = true)
    (k8 : PySem.W.keepIn K (.ref d8) = true)
    (a9 : PySem.W.nsIn K mainGlobals "_law_mixed" = some (some (.ref d9)))
    (l9 : K.lookup d9 = some ⟨oc9, od9, .func (PySem.W.fnOf "_law_mixed" "_law_mixed" (defArgs sMixed) (defBody sMixed) (defScope sMixed) .none kV9 dc9 pm9 an9 cd9 ct9), sl9⟩)
    (c9 : PySem.W.codeIn K cd9 "_law_mixed" = true)
    (k9 : PySem.W.keepIn K (.ref d9) = true)
    (a10 : PySem.W.nsIn K mainGlobals "_law_digits" = some (some (.ref d10)))
    (l10 : K.lookup d10 = some ⟨oc10, od10, .func (PySem.W.fnOf "_law_digits" "_law_digits" (defArgs sDigits) (defBody sDigits) (defScope sDigits) .none kV10 dc10 pm10 an10 cd10 ct10), sl10⟩)
    (c10 : PySem.W.codeIn K cd10 "_law_digits" = true)
    (k10 : PySem.W.keepIn K (.ref d10) = true)
    (a11 : PySem.W.nsIn K mainGlobals "_law_take" = some (some (.ref d11)))
    (l11 : K.lookup d11 = some ⟨oc11, od11, .func (PySem.W.fnOf "_law_take" "_law_take" (defArgs sTake) (defBody sTake) (defScope sTake) .none kV11 dc11 pm11 an11 cd11 ct11), sl11⟩)
    (c11 : PySem.W.codeIn K cd11 "_law_take" = true)
    (k11 : PySem.W.keepIn K (.ref d11) = true)
    (a12 : PySem.W.nsIn K mainGlobals "_law_tree" = some (some (.ref d12)))
    (l12 : K.lookup d12 = some ⟨oc12, od12, .func (PySem.W.fnOf "_law_tree" "_law_tree" (defArgs sTree) (defBody sTree) (defScope sTree) .none kV12 dc12 pm12 an12 cd12 ct12), sl12⟩)
    (c12 : PySem.W.codeIn K cd12 "_law_tree" = true)
    (k12 : PySem.W.keepIn K (.ref d12) = true)
    (a13 : PySem.W.nsIn K mainGlobals "_law_next" = some (some (.ref d13)))
    (l13 : K.lookup d13 = some ⟨oc13, od13, .func (PySem.W.fnOf "_law_next" "_law_next" (defArgs sNext) (defBody sNext) (defScope sNext) .none kV13 dc13 pm13 an13 cd13 ct13), sl13⟩)
    (c13 : PySem.W.codeIn K cd13 "_law_next" = true)
    (k13 : PySem.W.keepIn K (.ref d13) = true)
    (a14 : PySem.W.nsIn K mainGlobals "_law_round" = some (some (.ref d14)))
    (l14 : K.lookup d14 = some ⟨oc14, od14, .func (PySem.W.fnOf "_law_round" "_law_round" (defArgs sRound) (defBody sRound) (defScope sRound) .none kV14 dc14 pm14 an14 cd14 ct14), sl14⟩)
    (c14 : PySem.W.codeIn K cd14 "_law_round" = true)
    (k14 : PySem.W.keepIn K (.ref d14) = true)
    (a15 : PySem.W.nsIn K mainGlobals "_law_tie" = some (some (.ref d15)))
    (l15 : K.lookup d15 = some ⟨oc15, od15, .func (PySem.W.fnOf "_law_tie" "_law_tie" (defArgs sTie) (defBody sTie) (defScope sTie) .none kV15 dc15 pm15 an15 cd15 ct15), sl15⟩)
    (c15 : PySem.W.codeIn K cd15 "_law_tie" = true)
    (k15 : PySem.W.keepIn K (.ref d15) = true)
    (a16 : PySem.W.nsIn K mainGlobals "_law_renamed" = some (some (.ref d16)))
    (l16 : K.lookup d16 = some ⟨oc16, od16, .func (PySem.W.fnOf "_law_renamed" "_law_renamed" (defArgs sRen) (defBody sRen) (defScope sRen) .none kV16 dc16 pm16 an16 cd16 ct16), sl16⟩)
    (c16 : PySem.W.codeIn K cd16 "_law_renamed" = true)
    (k16 : PySem.W.keepIn K (.ref d16) = true)
    (a17 : PySem.W.nsIn K mainGlobals "_law_web" = some (some (.ref d17)))
    (l17 : K.lookup d17 = some ⟨oc17, od17, .func (PySem.W.fnOf "_law_web" "_law_web" (defArgs sWebL) (defBody sWebL) (defScope sWebL) .none kV17 dc17 pm17 an17 cd17 ct17), sl17⟩)
    (c17 : PySem.W.codeIn K cd17 "_law_web" = true)
    (k17 : PySem.W.keepIn K (.ref d17) = true)
    (a18 : PySem.W.nsIn K mainGlobals "_law_is_int" = some (some (.ref d18)))
    (l18 : K.lookup d18 = some ⟨oc18, od18, .func (PySem.W.fnOf "_law_is_int" "_law_is_int" (defArgs sIsInt) (defBody sIsInt) (defScope sIsInt) .none kV18 dc18 pm18 an18 cd18 ct18), sl18⟩)
    (c18 : PySem.W.codeIn K cd18 "_law_is_int" = true)
    (k18 : PySem.W.keepIn K (.ref d18) = true)
    (a19 : PySem.W.nsIn K mainGlobals "_law_ints" = some (some (.ref d19)))
    (l19 : K.lookup d19 = some ⟨oc19, od19, .func (PySem.W.fnOf "_law_ints" "_law_ints" (defArgs sInts) (defBody sInts) (defScope sInts) .none kV19 dc19 pm19 an19 cd19 ct19), sl19⟩)
    (c19 : PySem.W.codeIn K cd19 "_law_ints" = true)
    (k19 : PySem.W.keepIn K (.ref d19) = true)
    (a20 : PySem.W.nsIn K mainGlobals "_law_ties" = some (some (.ref d20)))
    (l20 : K.lookup d20 = some ⟨oc20, od20, .func (PySem.W.fnOf "_law_ties" "_law_ties" (defArgs sTiesL) (defBody sTiesL) (defScope sTiesL) .none kV20 dc20 pm20 an20 cd20 ct20), sl20⟩)
    (c20 : PySem.W.codeIn K cd20 "_law_ties" = true)
    (k20 : PySem.W.keepIn K (.ref d20) = true)
    (a21 : PySem.W.nsIn K mainGlobals "_law_told" = some (some (.ref d21)))
    (l21 : K.lookup d21 = some ⟨oc21, od21, .func (PySem.W.fnOf "_law_told" "_law_told" (defArgs sTold) (defBody sTold) (defScope sTold) .none kV21 dc21 pm21 an21 cd21 ct21), sl21⟩)
    (c21 : PySem.W.codeIn K cd21 "_law_told" = true)
    (k21 : PySem.W.keepIn K (.ref d21) = true)
    (a22 : PySem.W.nsIn K mainGlobals "_law_tied" = some (some (.ref d22)))
    (l22 : K.lookup d22 = some ⟨oc22, od22, .func (PySem.W.fnOf "_law_tied" "_law_tied" (defArgs sTiedL) (defBody sTiedL) (defScope sTiedL) .none kV22 dc22 pm22 an22 cd22 ct22), sl22⟩)
    (c22 : PySem.W.codeIn K cd22 "_law_tied" = true)
    (k22 : PySem.W.keepIn K (.ref d22) = true)
    (a23 : PySem.W.nsIn K mainGlobals "_law_behind" = some (some (.ref d23)))
    (l23 : K.lookup d23 = some ⟨oc23, od23, .func (PySem.W.fnOf "_law_behind" "_law_behind" (defArgs sBehindL) (defBody sBehindL) (defScope sBehindL) .none kV23 dc23 pm23 an23 cd23 ct23), sl23⟩)
    (c23 : PySem.W.codeIn K cd23 "_law_behind" = true)
    (k23 : PySem.W.keepIn K (.ref d23) = true)
    (a24 : PySem.W.nsIn K mainGlobals "law" = some (some (.ref d24)))
    (l24 : K.lookup d24 = some ⟨oc24, od24, .func (PySem.W.fnOf "law" "law" (defArgs sLaw) (defBody sLaw) (defScope sLaw) .none kV24 dc24 pm24 an24 cd24 ct24), sl24⟩)
    (c24 : PySem.W.codeIn K cd24 "law" = true)
    (k24 : PySem.W.keepIn K (.ref d24) = true)
    (m0 : PySem.W.findIn K (.ref C) "__init__" = some (some (.ref i0)))
    (f0 : PySem.W.isFn K (.ref i0) = true)
    (ml0 : K.lookup i0 = some ⟨jc0, jd0, .func (PySem.W.fnOf "__init__" "Web.__init__" (defArgs sInitW) (defBody sInitW) (defScope sInitW) .none jk0 jo0 jp0 jn0 jq0 jt0), js0⟩)
    (mc0 : PySem.W.codeIn K jq0 "Web.__init__" = true)
    (mk0 : PySem.W.keepIn K (.ref i0) = true)
    (m1 : PySem.W.findIn K (.ref C) "many" = some (some (.ref i1)))
    (f1 : PySem.W.isFn K (.ref i1) = true)
    (ml1 : K.lookup i1 = some ⟨jc1, jd1, .func (PySem.W.fnOf "many" "Web.many" (defArgs sMany) (defBody sMany) (defScope sMany) .none jk1 jo1 jp1 jn1 jq1 jt1), js1⟩)
    (mc1 : PySem.W.codeIn K jq1 "Web.many" = true)
    (mk1 : PySem.W.keepIn K (.ref i1) = true)
    (m2 : PySem.W.findIn K (.ref C) "turns" = some (some (.ref i2)))
    (f2 : PySem.W.isFn K (.ref i2) = true)
    (ml2 : K.lookup i2 = some ⟨jc2, jd2, .func (PySem.W.fnOf "turns" "Web.turns" (defArgs sTurns) (defBody sTurns) (defScope sTurns) .none jk2 jo2 jp2 jn2 jq2 jt2), js2⟩)
    (mc2 : PySem.W.codeIn K jq2 "Web.turns" = true)
    (mk2 : PySem.W.keepIn K (.ref i2) = true)
    (m3 : PySem.W.findIn K (.ref C) "ties" = some (some (.ref i3)))
    (f3 : PySem.W.isFn K (.ref i3) = true)
    (ml3 : K.lookup i3 = some ⟨jc3, jd3, .func (PySem.W.fnOf "ties" "Web.ties" (defArgs sTies) (defBody sTies) (defScope sTies) .none jk3 jo3 jp3 jn3 jq3 jt3), js3⟩)
    (mc3 : PySem.W.codeIn K jq3 "Web.ties" = true)
    (mk3 : PySem.W.keepIn K (.ref i3) = true)
    (m4 : PySem.W.findIn K (.ref C) "tied" = some (some (.ref i4)))
    (f4 : PySem.W.isFn K (.ref i4) = true)
    (ml4 : K.lookup i4 = some ⟨jc4, jd4, .func (PySem.W.fnOf "tied" "Web.tied" (defArgs sTied) (defBody sTied) (defScope sTied) .none jk4 jo4 jp4 jn4 jq4 jt4), js4⟩)
    (mc4 : PySem.W.codeIn K jq4 "Web.tied" = true)
    (mk4 : PySem.W.keepIn K (.ref i4) = true)
    (m5 : PySem.W.findIn K (.ref C) "behind" = some (some (.ref i5)))
    (f5 : PySem.W.isFn K (.ref i5) = true)
    (ml5 : K.lookup i5 = some ⟨jc5, jd5, .func (PySem.W.fnOf "behind" "Web.behind" (defArgs sBehind) (defBody sBehind) (defScope sBehind) .none jk5 jo5 jp5 jn5 jq5 jt5), js5⟩)
    (mc5 : PySem.W.codeIn K jq5 "Web.behind" = true)
    (mk5 : PySem.W.keepIn K (.ref i5) = true)
    (pgC : PySem.W.plainGet K C Str.empty = true)
    (hdC : PySem.W.hasDictIn K C = true)
    (poC : PySem.W.plainOver K C = true)
    (saC : PySem.W.findIn K (.ref C) "__setattr__" = some (some (.builtin "object.__setattr__")))
    (mkC : PySem.W.makesIn K C = true)
    (kpC : PySem.W.keepIn K (.ref C) = true)
    (nR : PySem.W.findIn K (.ref C) "rows" = some none)
    (mp : PySem.W.nsIn K mainGlobals "MOST_POINTS" = some (some (.int 14 tk)))
    (zlen : PySem.W.nsIn K mainGlobals "len" = some none)
    (zrange : PySem.W.nsIn K mainGlobals "range" = some none)
    (zmax : PySem.W.nsIn K mainGlobals "max" = some none)
    (zmin : PySem.W.nsIn K mainGlobals "min" = some none)
    (zenumerate : PySem.W.nsIn K mainGlobals "enumerate" = some none)
    (zzip : PySem.W.nsIn K mainGlobals "zip" = some none)
    (zsorted : PySem.W.nsIn K mainGlobals "sorted" = some none)
    (zall : PySem.W.nsIn K mainGlobals "all" = some none)
    (zisinstance : PySem.W.nsIn K mainGlobals "isinstance" = some none)
    (zint : PySem.W.nsIn K mainGlobals "int" = some none)
    (zbool : PySem.W.nsIn K mainGlobals "bool" = some none)
    (zlist : PySem.W.nsIn K mainGlobals "list" = some none)
    (ztuple : PySem.W.nsIn K mainGlobals "tuple" = some none)
    : ∃ fd : FuncData, (∀ (s : Shared) (v : Value), BindsTo s fd ⟨[v], []⟩ [("_law_script", v)]) ∧ ∀ base : Heap, K.In base → base.Ns mainGlobals mg → FnOk l.prog w K mg base CX0 6 fa fd ["_law_script"] (spLaw K) := by
  have e := hfa.symm.trans (PySem.W.mg_of X G a24)
  cases e
  have F0 := fun_mk (st := sAmong) l0 c0 k0
  have b0 := F0.binds (ps := ["thing", "many"]) fun _ _ _ _ _ _ us hl => match us, hl with | [_, _], _ => rfl
  let D0 : Dfn K mg "is_among" sAmong ["thing", "many"] := ⟨d0, _, F0, b0, PySem.W.mg_of X G a0⟩
  have F1 := fun_mk (st := sAlien) l1 c1 k1
  have b1 := F1.binds (ps := ["rows"]) fun _ _ _ _ _ _ us hl => match us, hl with | [_], _ => rfl
  let D1 : Dfn K mg "alien_fault" sAlien ["rows"] := ⟨d1, _, F1, b1, PySem.W.mg_of X G a1⟩
  have F2 := fun_mk (st := sSelf) l2 c2 k2
  have b2 := F2.binds (ps := ["rows"]) fun _ _ _ _ _ _ us hl => match us, hl with | [_], _ => rfl
  let D2 : Dfn K mg "self_fault" sSelf ["rows"] := ⟨d2, _, F2, b2, PySem.W.mg_of X G a2⟩
  have F3 := fun_mk (st := sTwice) l3 c3 k3
  have b3 := F3.binds (ps := ["rows"]) fun _ _ _ _ _ _ us hl => match us, hl with | [_], _ => rfl
  let D3 : Dfn K mg "twice_fault" sTwice ["rows"] := ⟨d3, _, F3, b3, PySem.W.mg_of X G a3⟩
  have F4 := fun_mk (st := sLone) l4 c4 k4
  have b4 := F4.binds (ps := ["rows"]) fun _ _ _ _ _ _ us hl => match us, hl with | [_], _ => rfl
  let D4 : Dfn K mg "lone_fault" sLone ["rows"] := ⟨d4, _, F4, b4, PySem.W.mg_of X G a4⟩
  have F5 := fun_mk (st := sReached) l5 c5 k5
  have b5 := F5.binds (ps := ["rows"]) fun _ _ _ _ _ _ us hl => match us, hl with | [_], _ => rfl
  let D5 : Dfn K mg "reached_from_first" sReached ["rows"] := ⟨d5, _, F5, b5, PySem.W.mg_of X G a5⟩
  have F6 := fun_mk (st := sApart) l6 c6 k6
  have b6 := F6.binds (ps := ["rows"]) fun _ _ _ _ _ _ us hl => match us, hl with | [_], _ => rfl
  let D6 : Dfn K mg "apart_fault" sApart ["rows"] := ⟨d6, _, F6, b6, PySem.W.mg_of X G a6⟩
  have F7 := fun_mk (st := sFirst) l7 c7 k7
  have b7 := F7.binds (ps := ["rows"]) fun _ _ _ _ _ _ us hl => match us, hl with | [_], _ => rfl
  let D7 : Dfn K mg "first_fault" sFirst ["rows"] := ⟨d7, _, F7, b7, PySem.W.mg_of X G a7⟩
  have F8 := fun_mk (st := sCell) l8 c8 k8
  have b8 := F8.binds (ps := ["_law_script", "_law_k"]) fun _ _ _ _ _ _ us hl => match us, hl with | [_, _], _ => rfl
  let D8 : Dfn K mg "_law_cell" sCell ["_law_script", "_law_k"] := ⟨d8, _, F8, b8, PySem.W.mg_of X G a8⟩
  have F9 := fun_mk (st := sMixed) l9 c9 k9
  have b9 := F9.binds (ps := ["_law_script", "_law_turn"]) fun _ _ _ _ _ _ us hl => match us, hl with | [_, _], _ => rfl
  let D9 : Dfn K mg "_law_mixed" sMixed ["_law_script", "_law_turn"] := ⟨d9, _, F9, b9, PySem.W.mg_of X G a9⟩
  have F10 := fun_mk (st := sDigits) l10 c10 k10
  have b10 := F10.binds (ps := ["_law_script", "_law_at"]) fun _ _ _ _ _ _ us hl => match us, hl with | [_, _], _ => rfl
  let D10 : Dfn K mg "_law_digits" sDigits ["_law_script", "_law_at"] := ⟨d10, _, F10, b10, PySem.W.mg_of X G a10⟩
  have F11 := fun_mk (st := sTake) l11 c11 k11
  have b11 := F11.binds (ps := ["_law_left", "_law_many"]) fun _ _ _ _ _ _ us hl => match us, hl with | [_, _], _ => rfl
  let D11 : Dfn K mg "_law_take" sTake ["_law_left", "_law_many"] := ⟨d11, _, F11, b11, PySem.W.mg_of X G a11⟩
  have F12 := fun_mk (st := sTree) l12 c12 k12
  have b12 := F12.binds (ps := ["_law_many", "_law_left"]) fun _ _ _ _ _ _ us hl => match us, hl with | [_, _], _ => rfl
  let D12 : Dfn K mg "_law_tree" sTree ["_law_many", "_law_left"] := ⟨d12, _, F12, b12, PySem.W.mg_of X G a12⟩
  have F13 := fun_mk (st := sNext) l13 c13 k13
  have b13 := F13.binds (ps := ["_law_turns", "_law_side"]) fun _ _ _ _ _ _ us hl => match us, hl with | [_, _], _ => rfl
  let D13 : Dfn K mg "_law_next" sNext ["_law_turns", "_law_side"] := ⟨d13, _, F13, b13, PySem.W.mg_of X G a13⟩
  have F14 := fun_mk (st := sRound) l14 c14 k14
  have b14 := F14.binds (ps := ["_law_turns", "_law_side"]) fun _ _ _ _ _ _ us hl => match us, hl with | [_, _], _ => rfl
  let D14 : Dfn K mg "_law_round" sRound ["_law_turns", "_law_side"] := ⟨d14, _, F14, b14, PySem.W.mg_of X G a14⟩
  have F15 := fun_mk (st := sTie) l15 c15 k15
  have b15 := F15.binds (ps := ["_law_turns", "_law_left", "_law_plane"]) fun _ _ _ _ _ _ us hl => match us, hl with | [_, _, _], _ => rfl
  let D15 : Dfn K mg "_law_tie" sTie ["_law_turns", "_law_left", "_law_plane"] := ⟨d15, _, F15, b15, PySem.W.mg_of X G a15⟩
  have F16 := fun_mk (st := sRen) l16 c16 k16
  have b16 := F16.binds (ps := ["_law_turns", "_law_order", "_law_left"]) fun _ _ _ _ _ _ us hl => match us, hl with | [_, _, _], _ => rfl
  let D16 : Dfn K mg "_law_renamed" sRen ["_law_turns", "_law_order", "_law_left"] := ⟨d16, _, F16, b16, PySem.W.mg_of X G a16⟩
  have F17 := fun_mk (st := sWebL) l17 c17 k17
  have b17 := F17.binds (ps := ["_law_script", "_law_most", "_law_plane"]) fun _ _ _ _ _ _ us hl => match us, hl with | [_, _, _], _ => rfl
  let D17 : Dfn K mg "_law_web" sWebL ["_law_script", "_law_most", "_law_plane"] := ⟨d17, _, F17, b17, PySem.W.mg_of X G a17⟩
  have F18 := fun_mk (st := sIsInt) l18 c18 k18
  have b18 := F18.binds (ps := ["_law_found"]) fun _ _ _ _ _ _ us hl => match us, hl with | [_], _ => rfl
  let D18 : Dfn K mg "_law_is_int" sIsInt ["_law_found"] := ⟨d18, _, F18, b18, PySem.W.mg_of X G a18⟩
  have F19 := fun_mk (st := sInts) l19 c19 k19
  have b19 := F19.binds (ps := ["_law_found", "_law_due"]) fun _ _ _ _ _ _ us hl => match us, hl with | [_, _], _ => rfl
  let D19 : Dfn K mg "_law_ints" sInts ["_law_found", "_law_due"] := ⟨d19, _, F19, b19, PySem.W.mg_of X G a19⟩
  have F20 := fun_mk (st := sTiesL) l20 c20 k20
  have b20 := F20.binds (ps := ["_law_turns"]) fun _ _ _ _ _ _ us hl => match us, hl with | [_], _ => rfl
  let D20 : Dfn K mg "_law_ties" sTiesL ["_law_turns"] := ⟨d20, _, F20, b20, PySem.W.mg_of X G a20⟩
  have F21 := fun_mk (st := sTold) l21 c21 k21
  have b21 := F21.binds (ps := ["_law_web_here", "_law_turns"]) fun _ _ _ _ _ _ us hl => match us, hl with | [_, _], _ => rfl
  let D21 : Dfn K mg "_law_told" sTold ["_law_web_here", "_law_turns"] := ⟨d21, _, F21, b21, PySem.W.mg_of X G a21⟩
  have F22 := fun_mk (st := sTiedL) l22 c22 k22
  have b22 := F22.binds (ps := ["_law_web_here", "_law_turns", "_law_far"]) fun _ _ _ _ _ _ us hl => match us, hl with | [_, _, _], _ => rfl
  let D22 : Dfn K mg "_law_tied" sTiedL ["_law_web_here", "_law_turns", "_law_far"] := ⟨d22, _, F22, b22, PySem.W.mg_of X G a22⟩
  have F23 := fun_mk (st := sBehindL) l23 c23 k23
  have b23 := F23.binds (ps := ["_law_web_here", "_law_turns"]) fun _ _ _ _ _ _ us hl => match us, hl with | [_, _], _ => rfl
  let D23 : Dfn K mg "_law_behind" sBehindL ["_law_web_here", "_law_turns"] := ⟨d23, _, F23, b23, PySem.W.mg_of X G a23⟩
  have F24 := fun_mk (st := sLaw) l24 c24 k24
  have J0 := fun_mk (st := sInitW) ml0 mc0 mk0
  have jb0 := J0.binds (ps := ["self", "turns"]) fun _ _ _ _ _ _ us hl => match us, hl with | [_, _], _ => rfl
  have J1 := fun_mk (st := sMany) ml1 mc1 mk1
  have jb1 := J1.binds (ps := ["self"]) fun _ _ _ _ _ _ us hl => match us, hl with | [_], _ => rfl
  have M1 : Meth K C "many" i1 := ⟨m1, f1, mk1⟩
  have J2 := fun_mk (st := sTurns) ml2 mc2 mk2
  have jb2 := J2.binds (ps := ["self"]) fun _ _ _ _ _ _ us hl => match us, hl with | [_], _ => rfl
  have M2 : Meth K C "turns" i2 := ⟨m2, f2, mk2⟩
  have J3 := fun_mk (st := sTies) ml3 mc3 mk3
  have jb3 := J3.binds (ps := ["self"]) fun _ _ _ _ _ _ us hl => match us, hl with | [_], _ => rfl
  have M3 : Meth K C "ties" i3 := ⟨m3, f3, mk3⟩
  have J4 := fun_mk (st := sTied) ml4 mc4 mk4
  have jb4 := J4.binds (ps := ["self", "a", "b"]) fun _ _ _ _ _ _ us hl => match us, hl with | [_, _, _], _ => rfl
  have M4 : Meth K C "tied" i4 := ⟨m4, f4, mk4⟩
  have J5 := fun_mk (st := sBehind) ml5 mc5 mk5
  have jb5 := J5.binds (ps := ["self", "p", "q"]) fun _ _ _ _ _ _ us hl => match us, hl with | [_, _, _], _ => rfl
  have M5 : Meth K C "behind" i5 := ⟨m5, f5, mk5⟩
  have B : Blt mg := ⟨PySem.W.mg_none_of X G zlen, PySem.W.mg_none_of X G zrange, PySem.W.mg_none_of X G zmax, PySem.W.mg_none_of X G zmin, PySem.W.mg_none_of X G zenumerate, PySem.W.mg_none_of X G zzip, PySem.W.mg_none_of X G zsorted, PySem.W.mg_none_of X G zall, PySem.W.mg_none_of X G zisinstance, PySem.W.mg_none_of X G zint, PySem.W.mg_none_of X G zbool, PySem.W.mg_none_of X G zlist, PySem.W.mg_none_of X G ztuple⟩
  have T : WTxt K mg C := ⟨⟨pgC, hdC, poC, saC⟩, nR, ⟨tk, PySem.W.mg_of X G mp⟩⟩
  refine ⟨PySem.W.fnOf "law" "law" (defArgs sLaw) (defBody sLaw) (defScope sLaw) .none kV24 dc24 pm24 an24 cd24 ct24, fun s v => .of_eq rfl, fun base _ _ => ?_⟩
  exact ok_law B T (PySem.W.mg_of X G gC) ⟨mkC, m0, f0, kpC⟩ jb0 (ok_initW B T D0 D1 D2 D3 D4 D5 D6 D7 J0)
    ((ok_webL B D8 D9 D10 D11 D12 D13 D14 D15 D16 D17).mono (by decide)) D17.m D17.F.kp D17.b
    ((ok_told B T J1 jb1 M1 J2 jb2 M2 J3 jb3 M3 D18 D19 D20 D21).mono (by decide)) D21.m D21.F.kp D21.b
    ((ok_behindL B T J5 jb5 M5 D18 D23).mono (by decide)) D23.m D23.F.kp D23.b
    ((ok_tiedL B T D0 J4 jb4 M4 D22).mono (by decide)) D22.m D22.F.kp D22.b
    ((ok_cell D8).mono (by decide)) D8.m D8.F.kp D8.b F24
theorem walk {l : PySem.W.OpenLaw} {q : Program} {loose : List Str} {XP : (Str → Option Value) → Heap → Prop} {YP : World → Heap → Prop} {d : DefRec} {K : Params → PySem.W.Frag} (hn : l.most = some 63) (hdf : d.params.defaults = [])
    (hY : ∀ (w : World) (h : Heap), YP w h → (K w.params).In h)
    (F : ∀ (w : World) (mg : Str → Option Value) (fa : Addr) (h : Heap), (K w.params).In h → h.Ns mainGlobals mg → mg d.name = some (.ref fa) →
      ∃ fd : FuncData, (∀ (s : Shared) (u : Value), BindsTo s fd ⟨[u], []⟩ [("_law_script", u)]) ∧ ∀ base : Heap, (K w.params).In base → base.Ns mainGlobals mg → FnOk l.prog w (K w.params) mg base CX0 6 fa fd ["_law_script"] (spLaw (K w.params))) :
    PySem.W.WalkO q loose XP YP l.row.toRowW d [] (fun f vs => PySem.call f vs) :=
  L2.walk_of (n := 63) (k := 6) (x := "_law_script") (CX := fun _ => CX0) (sp := fun w => spLaw (K w.params)) hn (by decide) hdf ⟨rfl, by decide, by decide⟩ hY F (fun _ _ a ns hl _ hS => ⟨a, ns, rfl, hS, hl, fun _ => rfl⟩) fun _ _ _ _ _ z => z
end K11

set_option Elab.async false
open PySem PySem.W PyProof.Rows
set_option maxRecDepth 100000 in
set_option maxHeartbeats 0 in
theorem PySem.Challenge.cw_mapdye_k11_web_told_back_holds : PySem.Challenge.rw_mapdye_k11_web_told_back.Holds := by
  w_on; o_law; k_head; (case hw => w_witness2)
  k_fill
  refine K11.walk (l := PySem.Challenge.rw_mapdye_k11_web_told_back) rfl rfl (fun w h Y => PySem.W.kIn_of Y) ?F
  case F =>
    intro w mg fa h KX G hmg
    refine' K11.all_mk KX G hmg ?gC ?a0 ?l0 ?c0 ?k0 ?a1 ?l1 ?c1 ?k1 ?a2 ?l2 ?c2 ?k2 ?a3 ?l3 ?c3 ?k3 ?a4 ?l4 ?c4 ?k4 ?a5 ?l5 ?c5 ?k5 ?a6 ?l6 ?c6 ?k6 ?a7 ?l7 ?c7 ?k7 ?a8 ?l8 ?c8 ?k8 ?a9 ?l9 ?c9 ?k9 ?a10 ?l10 ?c10 ?k10 ?a11 ?l11 ?c11 ?k11 ?a12 ?l12 ?c12 ?k12 ?a13 ?l13 ?c13 ?k13 ?a14 ?l14 ?c14 ?k14 ?a15 ?l15 ?c15 ?k15 ?a16 ?l16 ?c16 ?k16 ?a17 ?l17 ?c17 ?k17 ?a18 ?l18 ?c18 ?k18 ?a19 ?l19 ?c19 ?k19 ?a20 ?l20 ?c20 ?k20 ?a21 ?l21 ?c21 ?k21 ?a22 ?l22 ?c22 ?k22 ?a23 ?l23 ?c23 ?k23 ?a24 ?l24 ?c24 ?k24 ?m0 ?f0 ?ml0 ?mc0 ?mk0 ?m1 ?f1 ?ml1 ?mc1 ?mk1 ?m2 ?f2 ?ml2 ?mc2 ?mk2 ?m3 ?f3 ?ml3 ?mc3 ?mk3 ?m4 ?f4 ?ml4 ?mc4 ?mk4 ?m5 ?f5 ?ml5 ?mc5 ?mk5 ?pgC ?hdC ?poC ?saC ?mkC ?kpC ?nR ?mp ?zlen ?zrange ?zmax ?zmin ?zenumerate ?zzip ?zsorted ?zall ?zisinstance ?zint ?zbool ?zlist ?ztuple
    (case gC => k_is)
    (case a0 => k_is)
    (case l0 => k_is)
    (case c0 => k_is)
    (case k0 => k_is)
    (case a1 => k_is)
    (case l1 => k_is)
    (case c1 => k_is)
    (case k1 => k_is)
    (case a2 => k_is)
    (case l2 => k_is)
    (case c2 => k_is)
    (case k2 => k_is)
    (case a3 => k_is)
    (case l3 => k_is)
    (case c3 => k_is)
    (case k3 => k_is)
    (case a4 => k_is)
    (case l4 => k_is)
    (case c4 => k_is)
    (case k4 => k_is)
    (case a5 => k_is)
    (case l5 => k_is)
    (case c5 => k_is)
    (case k5 => k_is)
    (case a6 => k_is)
    (case l6 => k_is)
    (case c6 => k_is)
    (case k6 => k_is)
    (case a7 => k_is)
    (case l7 => k_is)
    (case c7 => k_is)
    (case k7 => k_is)
    (case a8 => k_is)
    (case l8 => k_is)
    (case c8 => k_is)
    (case k8 => k_is)
    (case a9 => k_is)
    (case l9 => k_is)
    (case c9 => k_is)
    (case k9 => k_is)
    (case a10 => k_is)
    (case l10 => k_is)
    (case c10 => k_is)
    (case k10 => k_is)
    (case a11 => k_is)
    (case l11 => k_is)
    (case c11 => k_is)
    (case k11 => k_is)
    (case a12 => k_is)
    (case l12 => k_is)
    (case c12 => k_is)
    (case k12 => k_is)
    (case a13 => k_is)
    (case l13 => k_is)
    (case c13 => k_is)
    (case k13 => k_is)
    (case a14 => k_is)
    (case l14 => k_is)
    (case c14 => k_is)
    (case k14 => k_is)
    (case a15 => k_is)
    (case l15 => k_is)
    (case c15 => k_is)
    (case k15 => k_is)
    (case a16 => k_is)
    (case l16 => k_is)
    (case c16 => k_is)
    (case k16 => k_is)
    (case a17 => k_is)
    (case l17 => k_is)
    (case c17 => k_is)
    (case k17 => k_is)
    (case a18 => k_is)
    (case l18 => k_is)
    (case c18 => k_is)
    (case k18 => k_is)
    (case a19 => k_is)
    (case l19 => k_is)
    (case c19 => k_is)
    (case k19 => k_is)
    (case a20 => k_is)
    (case l20 => k_is)
    (case c20 => k_is)
    (case k20 => k_is)
    (case a21 => k_is)
    (case l21 => k_is)
    (case c21 => k_is)
    (case k21 => k_is)
    (case a22 => k_is)
    (case l22 => k_is)
    (case c22 => k_is)
    (case k22 => k_is)
    (case a23 => k_is)
    (case l23 => k_is)
    (case c23 => k_is)
    (case k23 => k_is)
    (case a24 => k_is)
    (case l24 => k_is)
    (case c24 => k_is)
    (case k24 => k_is)
    (case m0 => k_is)
    (case f0 => k_is)
    (case ml0 => k_is)
    (case mc0 => k_is)
    (case mk0 => k_is)
    (case m1 => k_is)
    (case f1 => k_is)
    (case ml1 => k_is)
    (case mc1 => k_is)
    (case mk1 => k_is)
    (case m2 => k_is)
    (case f2 => k_is)
    (case ml2 => k_is)
    (case mc2 => k_is)
    (case mk2 => k_is)
    (case m3 => k_is)
    (case f3 => k_is)
    (case ml3 => k_is)
    (case mc3 => k_is)
    (case mk3 => k_is)
    (case m4 => k_is)
    (case f4 => k_is)
    (case ml4 => k_is)
    (case mc4 => k_is)
    (case mk4 => k_is)
    (case m5 => k_is)
    (case f5 => k_is)
    (case ml5 => k_is)
    (case mc5 => k_is)
    (case mk5 => k_is)
    (case pgC => k_is)
    (case hdC => k_is)
    (case poC => k_is)
    (case saC => k_is)
    (case mkC => k_is)
    (case kpC => k_is)
    (case nR => k_is)
    (case mp => k_is)
    (case zlen => k_is)
    (case zrange => k_is)
    (case zmax => k_is)
    (case zmin => k_is)
    (case zenumerate => k_is)
    (case zzip => k_is)
    (case zsorted => k_is)
    (case zall => k_is)
    (case zisinstance => k_is)
    (case zint => k_is)
    (case zbool => k_is)
    (case zlist => k_is)
    (case ztuple => k_is)

