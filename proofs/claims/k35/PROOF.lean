import PyProof.Rows.All
import Wide.All
import OpenK.AllK
import Wide.FinOn
import Lean
import PyProof.EqAt
import PyProof.EqKinds
import PyProof.TupleCall
import KE.KSortTup
import PyProof.NeKinds
import PyProof.SetKind
import PyProof.SetRoads
import PyProof.SetNew
import PyProof.WalksS
import PyProof.CollectWalk
import KE.KRevIter
import PyProof.FitsBits
import PyProof.P3Eq
import PyProof.ListRange
import PyProof.MeetsSeq
import PySem.Challenge.RW_mapdye_k35_whole_counts_and_turned_rings
set_option Elab.async false
set_option linter.all false
set_option maxRecDepth 100000
abbrev aL:= @List.getD_eq_getElem?_getD
abbrev bz:= @List.getElem?_eq_getElem
abbrev aI:= @List.length_map
abbrev cM:= @List.mem_cons_of_mem
abbrev cy:= @List.length_append
abbrev cD:= @List.mem_cons_self
abbrev eU:= @List.getElem?_eq_some_iff
abbrev bC:= @Nat.le_refl
abbrev dZ:= @Array.length_toList
abbrev cE:= @List.mem_range
abbrev cG:= @List.mem_append_right
abbrev b8:= @List.length_take
abbrev eI:= @List.getElem?_append_left
abbrev cJ:= @List.size_toArray
abbrev cW:= @Bool.false_ne_true
abbrev bK:= @List.mem_map
abbrev fq:= @List.idxOf_lt_length_iff
abbrev f7:= @List.getElem?_append_right
abbrev bV:= @Nat.ne_of_lt
abbrev cv:= @List.mem_cons
abbrev dB:= @List.length_cons
abbrev dh:= @List.mem_append
abbrev dY:= @List.length_drop
abbrev fL:= @List.mem_append_left
abbrev fM:= @List.mem_iff_getElem
abbrev e7:= @List.getElem?_map
abbrev f9:= @List.mem_of_getElem?
abbrev gJ:= @Array.getElem?_toList
abbrev cH:= @Nat.zero_le
abbrev eJ:= @List.map_append
abbrev fu:= @Nat.mod_eq_of_lt
abbrev iq:= @List.take_append_drop
abbrev fN:= @List.nodup_append
abbrev gK:= @List.getElem_idxOf
abbrev gP:= @Nat.lt_of_lt_of_le
abbrev gQ:= @List.mem_singleton
abbrev iH:= @Array.toList_append
abbrev iu:= @List.length_range
abbrev gS:= @List.nodup_cons
abbrev mh:= @List.getElem?_eq_none
abbrev gL:= @List.map_cons
abbrev gd:= @List.map_map
abbrev pk:= @List.getElem?_take_of_lt
abbrev jM:= @List.pairwise_map
abbrev jN:= @List.flatMap_cons
abbrev mj:= @List.getD_cons_succ
abbrev jr:= @List.length_nil
abbrev rD:= @List.drop_eq_getElem_cons
abbrev iw:= @Nat.lt_irrefl
abbrev mm:= @Bool.false_eq_true
abbrev jO:= @List.append_nil
abbrev tR:= @Array.getElem?_eq_getElem
abbrev rE:= @List.getElem?_set_self
abbrev kJ:= @List.nil_append
abbrev kK:= @List.mem_filter
abbrev tS:= @List.getElem?_cons_succ
abbrev jP:= @List.map_take
abbrev mn:= @List.length_set
abbrev pz:= @List.getElem?_drop
abbrev tT:= @List.take_of_length_le
abbrev kL:= @List.map_drop
abbrev jQ:= @Nat.sub_self
abbrev mw:= @List.nodup_nil
abbrev pA:= @Nat.le_of_not_lt
abbrev pC:= @List.nodup_range
abbrev pD:= @List.mem_reverse
abbrev pE:= @List.mem_flatMap
abbrev kM:= @Nat.le_trans
abbrev wC:= @List.drop_eq_nil_of_le
abbrev rF:= @List.append_assoc
abbrev tU:= @List.length_pos_iff
abbrev wD:= @List.length_singleton
abbrev mz:= @Nat.zero_add
abbrev rG:= @List.lookup_cons
abbrev rH:= @List.getElem_mem
abbrev jR:= @Nat.mod_lt
abbrev wF:= @List.getElem?_of_mem
abbrev tV:= @List.getElem?_set
abbrev CV:= @Array.getD_eq_getD_getElem?
abbrev wG:= @List.replicate_succ
abbrev wH:= @List.reverse_append
abbrev wI:= @List.flatMap_append
abbrev CW:= @Array.getElem?_eq_some_iff
abbrev CY:= @List.nodup_iff_pairwise_ne
abbrev tW:= @Bool.and_eq_true
abbrev tX:= @List.filter_cons
abbrev y4:= @List.length_replicate
abbrev y6:= @List.length_filter_le
abbrev nU:= @Nat.le_succ
abbrev tY:= @List.range_succ
abbrev y8:= @List.getElem?_set_ne
abbrev wJ:= @Array.toList_push
abbrev wK:= @Nat.lt_succ_of_lt
abbrev CZ:= @List.length_eq_zero_iff
abbrev y9:= @List.length_reverse
abbrev wL:= @List.not_mem_nil
abbrev C0:= @List.length_pos_of_mem
abbrev za:= @Array.size_extract
abbrev Ga:= @List.perm_ext_iff_of_nodup
abbrev Gb:= @Array.perm_iff_toList_perm
abbrev sQ:= @List.flatten_cons
abbrev sT:= @Int.toNat_natCast
abbrev sU:= @List.getElem_take
abbrev wk:= @Array.toList_reverse
abbrev wo:= @List.mem_of_mem_take
abbrev A4:= @List.pairwise_iff_getElem
abbrev nT:= @Nat.le_of_lt
abbrev sV:= @List.flatMap_nil
abbrev A5:= @List.set_eq_of_length_le
abbrev wq:= @List.getElem?_range
abbrev A6:= @List.getElem?_replicate
abbrev sW:= @List.idxOf_cons
abbrev A7:= @Array.getElem?_eq_none
abbrev wu:= @List.ext_getElem?
abbrev wx:= @Bool.eq_false_iff
abbrev qj:= @Nat.mod_self
abbrev sX:= @List.take_zero
abbrev A8:= @List.concat_eq_append
abbrev wy:= @Nat.lt_succ_self
abbrev A9:= @List.pairwise_append
abbrev Ba:= @List.map_congr_left
abbrev Bb:= @Nat.mod_eq_sub_mod
abbrev wz:= @Bool.false_and
abbrev wA:= @Bool.xor_false
abbrev wB:= @Nat.mul_le_mul
namespace L2
open PySem PySem.Spec PyProof.Rows
abbrev Key:=Sum Int Str
def Jv:Key→Value→Bool
 | .inl k,v=>Value.isInt k v
 | .inr x,v=>Value.isStrOf x v
def Ul(w:World):Key→Int
 | .inl k=>hashInt k
 | .inr x=>hashStr w x
theorem cS:∀{k:Key}{v:Value},Jv k v=true→(∃i t,k=Sum.inl i∧v=Value.int i t)∨(∃x t,k=Sum.inr x∧v=Value.str x t)
 | .inl i,v,h=>by
  obtain ⟨t,e⟩:=Value.isInt_shape (k:=i) (v:=v) h;exact .inl ⟨i,t,rfl,e⟩
 | .inr x,v,h=>by
  obtain ⟨t,e⟩:=Value.isStrOf_shape (x:=x) (v:=v) h;exact .inr ⟨x,t,rfl,e⟩
theorem LO(a b:Int):decide ((Sum.inl a:Key)=Sum.inl b)=(a==b):=by
 by_cases e:a=b
 ·subst e;simp
 ·have h:¬(Sum.inl a:Key)=Sum.inl b:=λq=>e (Sum.inl.inj q)
  rw [decide_eq_false h];exact (beq_eq_false_iff_ne.mpr e).symm
theorem LS(a b:Str):decide ((Sum.inr a:Key)=Sum.inr b)=decide (a=b):=by
 by_cases e:a=b
 ·subst e;simp
 ·have h:¬(Sum.inr a:Key)=Sum.inr b:=λq=>e (Sum.inr.inj q)
  rw [decide_eq_false h,decide_eq_false e]
theorem LP(a:Int)(b:Str):decide ((Sum.inl a:Key)=Sum.inr b)=false:=decide_eq_false (λq=>nomatch q)
theorem LR(a:Str)(b:Int):decide ((Sum.inr a:Key)=Sum.inl b)=false:=decide_eq_false (λq=>nomatch q)
def vv(prog:Program)(w:World):PySem.KeyKind prog w Key where
 is:=Jv
 hash:=Ul w
 inj:=λv a b ha hb=>by
  rcases cS ha with ⟨i,t,rfl,rfl⟩ | ⟨x,t,rfl,rfl⟩
  ·rcases cS hb with ⟨j,u,rfl,e⟩ | ⟨y,u,rfl,e⟩
   ·injection e with e1 _;rw [e1]
   ·exact nomatch e
  ·rcases cS hb with ⟨j,u,rfl,e⟩ | ⟨y,u,rfl,e⟩
   ·exact nomatch e
   ·injection e with e1 _;rw [e1]
 byValue:=λk v h=>by
  rcases cS h with ⟨i,t,rfl,rfl⟩ | ⟨x,t,rfl,rfl⟩<;>rfl
 pyHash:=λhv h=>by
  rcases cS hv with ⟨i,t,rfl,rfl⟩ | ⟨x,t,rfl,rfl⟩
  ·exact wpAny_pyHash_int h
  ·exact wpAny_pyHash_str h
 eqBool:=λhu hv h=>by
  rcases cS hu with ⟨i,t,rfl,rfl⟩ | ⟨x,t,rfl,rfl⟩
  ·rcases cS hv with ⟨j,u,rfl,rfl⟩ | ⟨y,u,rfl,rfl⟩
   ·rw [LO] at h;exact wpAny_eqBool_int h
   ·rw [LP] at h;exact SeqAt.EqAt.int_str i t y u _ _ _ _ h
  ·rcases cS hv with ⟨j,u,rfl,rfl⟩ | ⟨y,u,rfl,rfl⟩
   ·rw [LR] at h;exact SeqAt.EqAt.str_int x t j u _ _ _ _ h
   ·rw [LS] at h;exact wpAny_eqBool_str h
 «strs»:=λk x t v h=>by
  rcases cS h with ⟨i,u,rfl,e⟩ | ⟨y,u,rfl,e⟩
  ·exact nomatch e
  ·injection e with e1 _
   subst e1;cases v<;>rfl
inductive V where
 |bo|bl (b:Bool) |int (i:Int) |str (x:Str) |Gg (b:Array UInt8) |Dx (b:UInt64) |ref (a:Addr) |ty (n:String)
 deriving DecidableEq
def RelV:V→Value→Prop
 | .bo,u=>u=Value.none
 | .bl b,u=>u=Value.bool b
 | .int i,u=>∃t,u=Value.int i t
 | .str x,u=>∃t,u=Value.str x t
 | .Gg b,u=>∃t,u=Value.bytes b t
 | .Dx b,u=>∃t,u=Value.float b t
 | .ref a,u=>u=Value.ref a
 | .ty n,u=>u=Value.type n
abbrev Vals:List V→List Value→Prop:=Paired RelV
theorem Vals.length{xs:List V}{us:List Value}(r:Vals xs us):xs.length=us.length:=Paired.length r
theorem Vals.get:∀{xs:List V}{us:List Value}{i:Nat}{x:V},Vals xs us→xs[i]? =some x→∃u,us[i]? =some u∧RelV x u
 |_,_,_,_, .nil,e=>by simp at e
 |_,_,0,_, .cons r _,e=>by simp at e;subst e;exact ⟨_,rfl,r⟩
 |_,_,i+1,x, .cons _ t,e=>by
  obtain ⟨u,h1,h2⟩:=Vals.get (i:=i) (x:=x) t (by simpa using e)
  exact ⟨u,by simpa using h1,h2⟩
theorem Vals.set{x:V}{u:Value}(r:RelV x u):∀{xs:List V}{us:List Value}(i:Nat),Vals xs us→Vals (xs.set i x) (us.set i u)
 |_,_,_, .nil=> .nil
 |_,_,0, .cons _ t=> .cons r t
 |_,_,i+1, .cons q t=> .cons q (Vals.set r i t)
theorem Vals.append:∀{xs ys:List V}{us ws:List Value},Vals xs us→Vals ys ws→Vals (xs++ys) (us++ws)
 |_,_,_,_, .nil,s=>s
 |_,_,_,_, .cons r t,s=> .cons r (Vals.append t s)
theorem Vals.take:∀{xs:List V}{us:List Value}(n:Nat),Vals xs us→Vals (xs.take n) (us.take n)
 |_,_,0,_=> .nil
 |_,_,_+1, .nil=> .nil
 |_,_,n+1, .cons r t=> .cons r (Vals.take n t)
theorem Vals.drop:∀{xs:List V}{us:List Value}(n:Nat),Vals xs us→Vals (xs.drop n) (us.drop n)
 |_,_,0,r=>r
 |_,_,_+1, .nil=> .nil
 |_,_,n+1, .cons _ t=>Vals.drop n t
def oQ:Option V→Option Value→Prop
 |some v,some u=>RelV v u
 |none,none=>True
 |_,_=>False
def KV{κ:Type}:List (κ×V)→List (κ×Value)→Prop:=Paired λ(p:κ×V)(q:κ×Value)=>p.1=q.1∧RelV p.2 q.2
def kV:Key→V
 | .inl i=> .int i
 | .inr x=> .str x
inductive HO where
 |lst (xs:List V)
 |tup (xs:List V)
 |dK (eE:List (Key×V)) |dT (eE:List (List Key×V))
 |set (S:Int→Bool) (n:Nat)
 |ins (C dx:Addr) (fs:List (Str×V))
 |own (x:Addr)
 |xd (fs:List (Str×V))
 |met (f x:Addr)
 |rng (lo hi:Int)
 |qA (o:Obj) (u:HO)
 |EV (ps:Array Value)
 |ext (φ:Heap→Prop)
abbrev Hp:=Addr→Option HO
def upd(H:Hp)(a:Addr)(o:HO):Hp:=λb=>if b=a then some o else H b
theorem aC{H:Hp}{a:Addr}{o:HO}:upd H a o a=some o:=by unfold upd;rw [if_pos rfl]
theorem aG{H:Hp}{a b:Addr}{o:HO}(h:b≠a):upd H a o b=H b:=by unfold upd;rw [if_neg h]
theorem aY{H:Hp}{a b:Addr}{o:HO}(h:H a=some o)(h':H b=none):a≠b:=by
 intro e;subst e;rw [h] at h';cases h'
section
variable (P:Program) (w:World)
def dF(H:Hp)(h:Heap)(a:Addr):HO→Prop
 | .lst xs=>xs.length≤sizeLine∧∃(its:List Value)(n:Nat),Vals xs its∧h.get? a=some {cls:= .type "list",data:= .seq its.toArray n}
 | .tup xs=>xs.length≤sizeLine∧∃its:List Value,Vals xs its∧IsTup h a its.toArray
 | .dK eE=>eE.length≤sizeLine∧(a==sysModules)=false∧∃vs,KV eE vs∧h.DictOf (vv P w) a vs
 | .dT eE=>eE.length≤sizeLine∧(a==sysModules)=false∧∃xs:List (List Key×Addr×Value),
   Paired (λ(p:List Key×V)(q:List Key×Addr×Value)=>p.1=q.1∧H q.2.1=some (.tup (p.1.map kV))∧RelV p.2 q.2.2) eE xs∧
   ∃o es ep,h.get? a=some o∧o.ExactDict∧o.data= .dict es ep∧es.toList=xs.map (entryOfKey (tupleKind (vv P w)))∧(xs.map (·.1)).Nodup
 | .set S n=>h.SetOf (intKind P w) a S n
 | .ins C dx fs=>H dx=some (.own a)∧fs.length≤1000∧dx≠a∧h.get? a=some (PySem.W.instObj C dx)∧
   ∃mA,h.Ns1 dx mA∧(∀f,oQ (fs.lookup f) (mA f))∧PySem.Within mA (fs.map (·.1))
 | .own _=>∃o,h.get? a=some o
 | .xd fs=>∃mA,h.Ns1 a mA∧∀f,oQ (fs.lookup f) (mA f)
 | .rng lo hi=>∃t u v,h.get? a=some {cls:= .type "range",data:= .fields #[.int lo t, .int hi u, .int 1 v]}
 | .qA o u=>h.get? a=some o∧dF H h a u
 | .EV ps=>h.get? a=some {cls:= .none,data:= .fields ps}
 | .met f x=>h.get? a=some (PySem.W.methodObj (.ref f) (.ref x))
 | .ext φ=>φ h∧(∃o,h.get? a=some o)∧∀h1 h2:Heap,φ h1→(∀o,h1.get? a=some o→h2.get? a=some o)→φ h2
def iI(H:Hp)(h:Heap):Prop:=∀a o,H a=some o→dF P w H h a o
end
section
variable {P:Program} {w:World} {H H':Hp} {h h':Heap} {a:Addr} {o:HO}
theorem dF.lt(x:dF P w H h a o):a<h.objs.size:=by
 cases o with
 |lst xs=>obtain ⟨_,_,_,_,e⟩:=x;exact Heap.lt_size e
 |tup xs=>obtain ⟨_,_,_,p⟩:=x;exact p.lt
 |dK eE=>obtain ⟨_,_,_,_,o,_,_,e,_⟩:=x;exact Heap.lt_size e
 |dT eE=>obtain ⟨_,_,_,_,o,_,_,e,_⟩:=x;exact Heap.lt_size e
 |set S n=>obtain ⟨o,_,_,_,e,_⟩:=x;exact Heap.lt_size e
 |ins C dx fs=>obtain ⟨_,_,_,e,_⟩:=x;exact Heap.lt_size e
 |own y=>obtain ⟨_,e⟩:=x;exact Heap.lt_size e
 |xd fs=>obtain ⟨_,⟨_,_,_,e,_⟩,_⟩:=x;exact Heap.lt_size e
 |rng lo hi=>obtain ⟨_,_,_,e⟩:=x;exact Heap.lt_size e
 |qA ob u=>obtain ⟨e,_⟩:=x;exact Heap.lt_size e
 |EV ps=>exact Heap.lt_size (show h.get? a=some _ from x)
 |met f y=>exact Heap.lt_size (show h.get? a=some _ from x)
 |ext φ=>obtain ⟨_,⟨_,e⟩,_⟩:=x;exact Heap.lt_size e
theorem Paired.NJ{α β:Type}{F G:α→β→Prop}:∀{l₁:List α}{l₂:List β},Paired F l₁ l₂→(∀a b,F a b→G a b)→Paired G l₁ l₂
 |_,_, .nil,_=> .nil
 |_,_, .cons r t,f=> .cons (f _ _ r) (Paired.NJ t f)
theorem dF.tN(x:dF P w H h a o)(k:∀b u,(b=a∨H b=some (.own a))→h.get? b=some u→h'.get? b=some u)
  (ho:∀b,H b=some (.own a)→H' b=some (.own a)) (ht:∀b xs,H b=some (.tup xs)→H' b=some (.tup xs)):dF P w H' h' a o:=by
 induction o with
 |lst xs=>obtain ⟨z,its,n,r,e⟩:=x;exact ⟨z,its,n,r,k _ _ (.inl rfl) e⟩
 |tup xs=>obtain ⟨z,its,r,ob,e,c⟩:=x;exact ⟨z,its,r,ob,k _ _ (.inl rfl) e,c⟩
 |dK eE=>obtain ⟨z,y,vs,r,ob,es,ep,e,c⟩:=x;exact ⟨z,y,vs,r,ob,es,ep,k _ _ (.inl rfl) e,c⟩
 |dT eE=>
  obtain ⟨z,y,xs,r,ob,es,ep,e,c⟩:=x;exact ⟨z,y,xs,Paired.NJ r λp q z=>⟨z.1,ht _ _ z.2.1,z.2.2⟩,ob,es,ep,k _ _ (.inl rfl) e,c⟩
 |set S n=>obtain ⟨ob,es,ep,t,e,c⟩:=x;exact ⟨ob,es,ep,t,k _ _ (.inl rfl) e,c⟩
 |ins C dx fs=>
  obtain ⟨d,z,ne,e,mA,⟨od,es,ep,e2,c⟩,r⟩:=x;exact ⟨ho _ d,z,ne,k _ _ (.inl rfl) e,mA,⟨od,es,ep,k _ _ (.inr d) e2,c⟩,r⟩
 |own y=>obtain ⟨ob,e⟩:=x;exact ⟨ob,k _ _ (.inl rfl) e⟩
 |xd fs=>obtain ⟨mA,⟨od,es,ep,e,c⟩,r⟩:=x;exact ⟨mA,⟨od,es,ep,k _ _ (.inl rfl) e,c⟩,r⟩
 |rng lo hi=>obtain ⟨t,u,v,e⟩:=x;exact ⟨t,u,v,k _ _ (.inl rfl) e⟩
 |qA ob u ih=>obtain ⟨e,q⟩:=x;exact ⟨k _ _ (.inl rfl) e,ih q⟩
 |EV ps=>
  have e:h.get? a=some {cls:= .none,data:= .fields ps}:=x;show h'.get? a=some {cls:= .none,data:= .fields ps};exact k a _ (.inl rfl) e
 |met f y=>
  have e:h.get? a=some (PySem.W.methodObj (.ref f) (.ref y)):=x;show h'.get? a=some (PySem.W.methodObj (.ref f) (.ref y));exact k a _ (.inl rfl) e
 |ext φ=>obtain ⟨p,⟨o,e⟩,st⟩:=x;exact ⟨st _ _ p λo q=>k _ _ (.inl rfl) q,⟨o,k _ _ (.inl rfl) e⟩,st⟩
theorem iI.lt(x:iI P w H h)(e:H a=some o):a<h.objs.size:=(x a o e).lt
theorem iI.fresh(x:iI P w H h)(e:h.objs.size≤a):H a=none:=by
 cases q:H a with
 |none=>rfl
 |some u=>exact absurd (gP (x.lt q) e) (iw _)
theorem iI.kept(x:iI P w H h)(k:∀b u,h.get? b=some u→h'.get? b=some u):iI P w H h':=λa o e=>
 (x a o e).tN (λb u _ q=>k b u q) (λ_ q=>q) λ_ _ q=>q
theorem iI.laid(x:iI P w H h)(k:∀b u,h.get? b=some u→h'.get? b=some u)(hp:h.objs.size≤a)(new:dF P w (upd H a o) h' a o):iI P w (upd H a o) h':=λb u e=>by
 have hn:=x.fresh hp
 by_cases hb:b=a
 ·subst hb;rw [aC] at e;cases e;exact new
 ·rw [aG hb] at e
  exact (x b u e).tN (λc v _ q=>k c v q) (λc q=>by rw [aG (aY q hn)];exact q) λc xs q=>by rw [aG (aY q hn)];exact q
end
def Rd(H:Hp)(a:Addr)(u:HO):Prop:=H a=some u∨∃o,H a=some (.qA o u)
theorem Rd.ok{P:Program}{w:World}{H:Hp}{h:Heap}{a:Addr}{u:HO}(r:Rd H a u)(x:iI P w H h):dF P w H h a u:=by
 rcases r with r| ⟨o,r⟩
 ·exact x a u r
 ·obtain ⟨_,q⟩:=x a _ r
  exact q
def K7:Option HO→Prop
 |some (.lst _)=>True
 |some (.dK _)=>True
 |some (.dT _)=>True
 |some (.set _ _)=>True
 |some (.ins _ _ _)=>True
 |some (.ext _)=>True
 |_=>False
section
variable {P:Program} {w:World} {H:Hp} {h h':Heap} {x e:Addr} {o':HO}
theorem iI.write(ok:iI P w H h)(mu:K7 (H x))(he:e=x∨H e=some (.own x))(k:∀b u,b≠e→h.get? b=some u→h'.get? b=some u)(GC:∃u,h'.get? e=some u)
  (new:dF P w (upd H x o') h' x o'):iI P w (upd H x o') h':=λb u q=>by
 have NN:∀c y,H c=some (.own y)→c≠x:=λc y r z=>by subst z;rw [r] at mu;exact mu
 have Uz:∀c xs,H c=some (.tup xs)→c≠x:=λc xs r z=>by subst z;rw [r] at mu;exact mu
 by_cases hb:b=x
 ·subst hb;rw [aC] at q;cases q;exact new
 ·rw [aG hb] at q
  by_cases DM:b=e
  ·have q':H b=some (.own x):=by
    rcases he with z|z
    ·exact absurd (DM.trans z) hb
    ·rw [DM];exact z
   rw [q] at q';cases q';obtain ⟨v,hv⟩:=GC;exact ⟨v,by rw [DM];exact hv⟩
  ·refine (ok b u q).tN (λc v hc r=>k c v ?_ r) (λc r=>by rw [aG (NN c b r)];exact r) λc xs r=>by rw [aG (Uz c xs r)];exact r
   rcases hc with rfl|hc
   ·exact DM
   ·rintro rfl
    rcases he with z|z
    ·exact NN c b hc z
    ·rw [hc] at z;cases z;exact hb rfl
end
structure Un (fs ex:List Addr) (H H':Hp) (h h':Heap):Prop where
 keep:∀b o,h.get? b=some o→H b=none→b∉fs→b∉ex→h'.get? b=some o
 slot:∀b o,h.get? b=some o→H b=none→b∈fs→b∉ex→∃sl,h'.get? b=some {o with slots:=sl}
 free:∀b o,h.get? b=some o→H b=none→b∉ex→H' b=none
 there:∀b o,h.get? b=some o→b∉ex→∃o',h'.get? b=some o'
 tups:∀b xs,H b=some (.tup xs)→H' b=some (.tup xs)
 frzs:∀b o u,H b=some (.qA o u)→H' b=some (.qA o u)
 tbls:∀b ps,H b=some (.EV ps)→∃more,H' b=some (.EV (ps++more))
section
variable {fs Yf ex oJ:List Addr} {H H1 H2:Hp} {h h1 h2 h':Heap} {a x e:Addr} {o:HO}
theorem Un.any(u:Un fs ex H H1 h h1){b:Addr}{ob:Obj}(q:h.get? b=some ob)(n:H b=none)(hx:b∉ex):∃sl,h1.get? b=some {ob with slots:=sl}:=by
 by_cases hb:b∈fs
 ·exact u.slot b ob q n hb hx
 ·exact ⟨ob.slots,u.keep b ob q n hb hx⟩
theorem Un.kept(k:∀b u,h.get? b=some u→h'.get? b=some u):Un fs ex H H h h':=
 ⟨λb ob q _ _ _=>k b ob q,λb ob q _ _ _=>⟨ob.slots,k b ob q⟩,λ_ _ _ n _=>n,λb ob q _=>⟨ob,k b ob q⟩,λ_ _ q=>q,λ_ _ _ q=>q,λ_ ps q=>⟨#[],by rw [q];simp⟩⟩
theorem Un.refl:Un fs ex H H h h:=Un.kept λ_ _ q=>q
theorem Un.laid(k:∀b u,h.get? b=some u→h'.get? b=some u)(hp:h.objs.size≤a)(hn:H a=none):Un fs ex H (upd H a o) h h' where
 keep:=λb u q _ _ _=>k b u q
 slot:=λb u q _ _ _=>⟨u.slots,k b u q⟩
 free:=λb u q n _=>by rw [aG (bV (gP (Heap.lt_size q) hp))];exact n
 there:=λb u q _=>⟨u,k b u q⟩
 tups:=λb xs q=>by rw [aG (aY q hn)];exact q
 frzs:=λb u xs q=>by rw [aG (aY q hn)];exact q
 tbls:=λb ps q=>⟨#[],by rw [aG (aY q hn),q];simp⟩
theorem Un.write(mu:K7 (H x))(he:e=x∨H e=some (.own x))(k:∀b u,b≠e→h.get? b=some u→h'.get? b=some u)(GC:∃u,h'.get? e=some u):Un fs ex H (upd H x o) h h':=by
 have hx:∀b,H b=none→b≠x:=λb n z=>by subst z;rw [n] at mu;exact mu
 have hb:∀b,H b=none→b≠e:=λb n z=>by
  subst z
  rcases he with r|r
  ·exact hx b n r
  ·rw [n] at r;cases r
 have hm:∀b u,H b=some u→¬K7 (some u)→b≠x:=λb u q nm z=>by subst z;rw [q] at mu;exact nm mu
 refine ⟨λb u q n _ _=>k b u (hb b n) q,λb u q n _ _=>⟨u.slots,k b u (hb b n) q⟩,λb u q n _=>by rw [aG (hx b n)];exact n,λb u q _=>?_,
  λb xs q=>by rw [aG (hm b _ q λz=>z)];exact q,λb u xs q=>by rw [aG (hm b _ q λz=>z)];exact q,λb ps q=>⟨#[],by rw [aG (hm b _ q λz=>z),q];simp⟩⟩
 by_cases DM:b=e
 ·subst DM;exact GC
 ·exact ⟨u,k b u DM q⟩
end
def MR(h:Heap)(H:Hp):List Addr:=(List.range h.objs.size).filter λa=>(H a).isSome
def qE(h:Heap)(H:Hp):Heap:=PySem.W.hideAll h (MR h H)
theorem DR(h:Heap)(H:Hp):(qE h H).objs.size=h.objs.size:=PySem.W.hideAll_size _ _
theorem GG{h:Heap}{H:Hp}{b:Addr}{o:Obj}(e:h.get? b=some o)(n:H b=none):(qE h H).get? b=some o:=
 PySem.W.hideAll_get _ e λhm=>by
  have q:(H b).isSome=true:=(kK.mp hm).2;rw [n] at q;simp at q
theorem JS{h:Heap}{H:Hp}{b:Addr}{o:Obj}(e:(qE h H).get? b=some o):h.get? b=some o∧H b=none:=by
 have e':h.get? b=some o:=PySem.W.of_hideAll (MR h H) e;refine ⟨e',?_⟩;cases q:H b with
 |none=>rfl
 |some x=>
  have hm:b∈MR h H:=kK.mpr ⟨cE.mpr (Heap.lt_size e'),by simp [q]⟩
  have z:(qE h H).get? b=none:=PySem.W.hideAll_none (MR h H) hm;rw [z] at e;cases e
structure Mod (K:PySem.W.Frag) (mg:Str→Option Value) (base:Heap):Prop where
 kin:K.In base
 glob:base.Ns mainGlobals mg
 blt:∃mb,base.Ns builtinsNs mb∧∀x:Str,x≠"__name__"→mb x=bootBuiltins x
 nolimit:base.NoLimit
structure Cx where
 prog:Program
 w:World
 K:PySem.W.Frag
 mg:Str→Option Value
 base:Heap
 A:Around
 N:List Str
 s₀:Shared
 H₀:Hp
 env:Env
 outer:List Env
 stack:List Env
 ex:List Addr
 fn:Str→Bool
 calm:Bool
 pn:List (Addr×Obj)
 xe:Value→Shared→Prop
def uX(l:List Env):List Addr:=l.filterMap (·.frame)
abbrev Cx.fs(X:Cx):List Addr:=uX X.outer
def uE(sc:Scope)(x:Str):Prop:=sc.names.lookup x=some .local∨sc.names.lookup x=some .cell∨sc.names.lookup x=some .free
def Loc(sc:Scope)(x:Str):Prop:=sc.names.lookup x=some .local∨sc.names.lookup x=some .cell
def Look(env:Env)(h:Heap)(m:Str→Option Value)(x:Str)(u:Value):Prop:=
 (env.kindOf x=some .local∧m x=some u)∨((env.kindOf x=some .cell∨env.kindOf x=some .free)∧∃c,env.cells.lookup x=some c∧h.IsCell c (some u))
structure Cx.Ok (X:Cx):Prop where
 mod:Mod X.K X.mg X.base
 kind:X.env.scope.kind= .function
 glob:X.env.globals=mainGlobals
 blt:X.env.builtins=builtinsNs
 above:X.s₀.heap.objs.size≤X.env.locals
 inj:∀x y c,X.env.cells.lookup x=some c→X.env.cells.lookup y=some c→x=y
 has:∀x,(X.env.kindOf x=some .cell∨X.env.kindOf x=some .free)→∃c,X.env.cells.lookup x=some c
 cab:∀x c,X.fn x=true→X.env.cells.lookup x=some c→X.s₀.heap.objs.size≤c
 hd:X.calm=true→X.A.handled=none
 frames:X.A.frames=some X.stack
 stk:X.stack=X.outer∨(X.stack=X.env::X.outer∧X.env.frame=some X.env.locals)
 exf:∀b∈X.ex,b≠X.env.locals∧∀x c,X.env.cells.lookup x=some c→c≠b
 bs:∀b o,X.base.get? b=some o→X.s₀.heap.get? b=some o∧X.H₀ b=none
 bsz:X.base.objs.size≤X.s₀.heap.objs.size
 noex:∀b o,X.base.get? b=some o→b∉X.ex
 exfs:∀b∈X.ex,b∉X.fs
 funs:X.s₀.heap.FunFrames X.base X.outer
 frf:∀b∈X.fs,X.H₀ b=none
structure Inv (X:Cx) (pins:List (Addr×Obj)) (σ:List (Option V)) (H:Hp) (s:Shared):Prop where
 ok:X.Ok
 os:s.os=X.s₀.os
 bare:AllBare s.gens
 base:Un X.fs X.ex X.H₀ H X.s₀.heap s.heap
 loc:∃m,s.heap.Ns X.env.locals m∧∀(i:Nat)(x:Str)(v:V),X.N[i]? =some x→σ[i]? =some (some v)→uE X.env.scope x→∃u,RelV v u∧Look X.env s.heap m x u
 cell:∀x c,X.env.cells.lookup x=some c→∃v,s.heap.IsCell c v
 free:H X.env.locals=none
 freeC:∀x c,X.env.cells.lookup x=some c→H c=none
 pin:∀p∈X.pn++pins,s.heap.get? p.1=some p.2∧H p.1=none∧p.1≠X.env.locals∧p.1∉X.fs∧∀v,p.2.data≠ .cell v
 hok:iI X.prog X.w H s.heap
 len:σ.length=X.N.length
section
variable {X:Cx} {pins:List (Addr×Obj)} {σ:List (Option V)} {H H':Hp} {s:Shared} {h':Heap}
theorem Cx.Ok.Uw(ok:X.Ok){b:Addr}{o:Obj}(e:X.base.get? b=some o):b∉X.fs:=λhb=>by
 have:=(ok.funs.mem hb).1
 rw [e] at this;cases this
theorem Inv.bs(I:Inv X pins σ H s):∀b o,X.base.get? b=some o→s.heap.get? b=some o∧H b=none:=λb o e=>
 ⟨I.base.keep b o (I.ok.bs b o e).1 (I.ok.bs b o e).2 (I.ok.Uw e) (I.ok.noex b o e),I.base.free b o (I.ok.bs b o e).1 (I.ok.bs b o e).2 (I.ok.noex b o e)⟩
theorem Inv.bk(I:Inv X pins σ H s):∀b o,X.base.get? b=some o→s.heap.get? b=some o:=λb o e=>(I.bs b o e).1
theorem Inv.mod(I:Inv X pins σ H s):Mod X.K X.mg X.base:=I.ok.mod
theorem Inv.iL(I:Inv X pins σ H s):X.K.In s.heap:=I.ok.mod.kin.keeps I.bk
theorem Inv.lt(I:Inv X pins σ H s):X.env.locals<s.heap.objs.size:=let ⟨_,hn,_⟩:=I.loc;hn.lt
theorem Inv.sz(I:Inv X pins σ H s):X.s₀.heap.objs.size≤s.heap.objs.size:=kM I.ok.above (nT I.lt)
theorem Inv.JN(I:Inv X pins σ H s){a:Addr}(h:s.heap.objs.size≤a):a∉X.fs:=λhb=>by
 obtain ⟨_,o,ho,_⟩:=I.ok.funs.mem hb;exact absurd (gP (Heap.lt_size ho) (kM I.sz h)) (iw _)
theorem Inv.Df(I:Inv X pins σ H s):∀x c,X.env.cells.lookup x=some c→c≠X.env.locals:=λx c e z=>by
 obtain ⟨v,o,ho,hd⟩:=I.cell x c e;obtain ⟨m,⟨o',es,ep,mE,oK,_⟩,_⟩:=I.loc;rw [z,mE] at ho;cases ho;rw [oK] at hd;cases hd
theorem Inv.funs(I:Inv X pins σ H s):s.heap.FunFrames X.base X.outer:=by
 have all:∀(l:List Env),(∀b∈uX l,b∈X.fs)→X.s₀.heap.FunFrames X.base l→s.heap.FunFrames X.base l:=by
  intro l
  induction l with
  |nil=>intro _ _;trivial
  |cons env r ih=>
   intro hs hl;obtain ⟨hk,⟨L,o,hf,hn,ho,hd⟩,hr⟩:=hl;have hL:L∈X.fs:=hs L (by unfold uX;rw [List.filterMap_cons,hf];exact cD)
   obtain ⟨sl,e⟩:=I.base.slot L o ho (I.ok.frf L hL) hL λz=>I.ok.exfs L z hL;exact ⟨hk,⟨L,_,hf,hn,e,hd⟩,ih (λb hb=>hs b (by unfold uX;rw [List.filterMap_cons,hf];exact cM _ hb)) hr⟩
 exact all X.outer (λ_ hb=>hb) I.ok.funs
theorem Inv.stack(I:Inv X pins σ H s):s.heap.FunFrames X.base X.stack:=by
 rcases I.ok.stk with e| ⟨e,hf⟩
 ·rw [e];exact I.funs
 ·rw [e]
  obtain ⟨m,hn,_⟩:=I.loc;refine .cons (by rw [I.ok.kind];decide) hf hn ?_ I.funs
  exact Heap.get?_none_of_le (kM I.ok.bsz I.ok.above)
theorem Inv.Ah(I:Inv X pins σ H s):∀b∈uX X.stack,b∈X.env.locals::X.fs:=λb hb=>by
 rcases I.ok.stk with e| ⟨e,hf⟩
 ·rw [e] at hb;exact cM _ hb
 ·rw [e] at hb
  unfold uX at hb;rw [List.filterMap_cons,hf] at hb;exact hb
theorem Inv.CK(I:Inv X pins σ H s):∀b∈uX X.stack,H b=none:=λb hb=>by
 rcases cv.mp (I.Ah b hb) with e|hb
 ·rw [e];exact I.free
 ·obtain ⟨_,o,ho,_⟩:=I.ok.funs.mem hb
  exact I.base.free b o ho (I.ok.frf b hb) λz=>I.ok.exfs b z hb
theorem Inv.step{g':Array GenState}{t':Nat}{d':Drawn}{ch:List Addr}(I:Inv X pins σ H s)
  (w6:∀b∈ch,(b∈X.ex∨X.s₀.heap.objs.size≤b)∧b≠X.env.locals∧(∀x c,X.env.cells.lookup x=some c→c≠b)∧∀p∈X.pn++pins,p.1≠b)
  (keep:∀b o,b≠X.env.locals→b∉X.fs→b∉ch→s.heap.get? b=some o→H b=none→h'.get? b=some o)
  (slot:∀b o,b≠X.env.locals→b∈X.fs→b∉ch→s.heap.get? b=some o→H b=none→∃sl,h'.get? b=some {o with slots:=sl}) (free:∀b o,b∉ch→s.heap.get? b=some o→H b=none→H' b=none)
  (there:∀b o,b∉ch→s.heap.get? b=some o→∃o',h'.get? b=some o')
  (tups:∀b xs,H b=some (.tup xs)→H' b=some (.tup xs)) (frzs:∀b o u,H b=some (.qA o u)→H' b=some (.qA o u)) (tbls:∀b ps,H b=some (.EV ps)→∃more,H' b=some (.EV (ps++more)))
  (ns:∀m,s.heap.Ns X.env.locals m→h'.Ns X.env.locals m) (hok:iI X.prog X.w H' h') (hg:AllBare g'):
  Inv X pins σ H' {s with heap:=h',gens:=g',drawn:=d',toks:=t'}:=by
 have Ut:∀b o,X.s₀.heap.get? b=some o→b≠X.env.locals:=λb o e=>bV (gP (Heap.lt_size e) I.ok.above)
 have L7:∀b o,X.s₀.heap.get? b=some o→b∉X.ex→b∉ch:=λb o e hx hb=>by
  rcases (w6 b hb).1 with z|z
  ·exact hx z
  ·exact absurd (gP (Heap.lt_size e) z) (iw _)
 have cellK:∀x c,X.env.cells.lookup x=some c→∀v,s.heap.IsCell c v→h'.IsCell c v:=λx c e v ⟨o,ho,hd⟩=>by
  have JJ:c∉ch:=λz=>(w6 c z).2.2.1 x c e rfl
  by_cases hc:c∈X.fs
  ·obtain ⟨sl,q⟩:=slot c o (I.Df x c e) hc JJ ho (I.freeC x c e)
   exact ⟨_,q,hd⟩
  ·exact ⟨o,keep c o (I.Df x c e) hc JJ ho (I.freeC x c e),hd⟩
 refine ⟨I.ok,I.os,hg,⟨λb o e n hb hx=>?_,λb o e n hb hx=>?_,λb o e n hx=>?_,λb o e hx=>?_,λb xs e=>tups b xs (I.base.tups b xs e),λb o xs e=>frzs b o xs (I.base.frzs b o xs e),λb ps e=>?_⟩,?_,λx c e=>?_,?_,λx c e=>?_,λp hp=>?_,hok,I.len⟩
 ·exact keep b o (Ut b o e) hb (L7 b o e hx) (I.base.keep b o e n hb hx) (I.base.free b o e n hx)
 ·obtain ⟨sl,e1⟩:=I.base.slot b o e n hb hx
  obtain ⟨sl',e2⟩:=slot b _ (Ut b o e) hb (L7 b o e hx) e1 (I.base.free b o e n hx);exact ⟨sl',e2⟩
 ·obtain ⟨o',e1⟩:=I.base.there b o e hx
  exact free b o' (L7 b o e hx) e1 (I.base.free b o e n hx)
 ·obtain ⟨o',e1⟩:=I.base.there b o e hx
  exact there b o' (L7 b o e hx) e1
 ·obtain ⟨m1,e1⟩:=I.base.tbls b ps e
  obtain ⟨m2,e2⟩:=tbls b _ e1;exact ⟨m1++m2,by rw [e2,Array.append_assoc]⟩
 ·obtain ⟨m,hn,hl⟩:=I.loc
  refine ⟨m,ns m hn,λi x v e1 e2 e3=>?_⟩;obtain ⟨u,r,l⟩:=hl i x v e1 e2 e3;refine ⟨u,r,?_⟩
  rcases l with l| ⟨k,c,e,z⟩
  ·exact .inl l
  ·exact .inr ⟨k,c,e,cellK x c e _ z⟩
 ·obtain ⟨v,z⟩:=I.cell x c e
  exact ⟨v,cellK x c e v z⟩
 ·obtain ⟨m,⟨o,_,_,ho,_⟩,_⟩:=I.loc
  exact free _ o (λz=>(w6 _ z).2.1 rfl) ho I.free
 ·obtain ⟨v,o,ho,hd⟩:=I.cell x c e
  exact free c o (λz=>(w6 c z).2.2.1 x c e rfl) ho (I.freeC x c e)
 ·obtain ⟨e,n,ne,nf,d⟩:=I.pin p hp
  have JJ:p.1∉ch:=λz=>(w6 p.1 z).2.2.2 p hp rfl;exact ⟨keep p.1 p.2 ne nf JJ e n,free p.1 p.2 JJ e n,ne,nf,d⟩
theorem Inv.un{t':Nat}(I:Inv X pins σ H s)(u:Un X.fs [] H H' s.heap h')(hok:iI X.prog X.w H' h'):Inv X pins σ H' {s with heap:=h',toks:=t'}:=by
 obtain ⟨m,⟨o,es,ep,ho,r⟩,_⟩:=id I.loc;obtain ⟨sl,hL⟩:=u.any ho I.free (by simp)
 exact I.step (g':=s.gens) (d':=s.drawn) (ch:= []) (λ_ z=>nomatch z) (λb o _ hb _ e n=>u.keep b o e n hb (by simp)) (λb o _ hb _ e n=>u.slot b o e n hb (by simp)) (λb o _ e n=>u.free b o e n (by simp)) (λb o _ e=>u.there b o e (by simp)) u.tups u.frzs u.tbls (λm' hm=>by
  obtain ⟨o',jU,Dt,mE,r'⟩:=hm;rw [ho] at mE;cases mE;exact ⟨_,jU,Dt,hL,r'⟩) hok I.bare
theorem Inv.call{g':Array GenState}{t':Nat}{d':Drawn}{ch:List Addr}(I:Inv X pins σ H s)(u:Un (uX X.stack) ch H H' s.heap h')(hok:iI X.prog X.w H' h')(hg:AllBare g')
  (w6:∀b∈ch,(b∈X.ex∨X.s₀.heap.objs.size≤b)∧b≠X.env.locals∧(∀x c,X.env.cells.lookup x=some c→c≠b)∧∀p∈X.pn++pins,p.1≠b):
  Inv X pins σ H' {s with heap:=h',gens:=g',drawn:=d',toks:=t'}:=by
 obtain ⟨m,⟨o,es,ep,ho,r⟩,_⟩:=id I.loc;obtain ⟨sl,hL⟩:=u.any ho I.free λz=>(w6 _ z).2.1 rfl
 exact I.step (ch:=ch) w6 (λb o hL hb hc e n=>u.keep b o e n (λz=>(cv.mp (I.Ah b z)).elim hL hb) hc) (λb o _ _ hc e n=>u.any e n hc) (λb o hc e n=>u.free b o e n hc) (λb o hc e=>u.there b o e hc) u.tups u.frzs u.tbls (λm' hm=>by
  obtain ⟨o',jU,Dt,mE,r'⟩:=hm;rw [ho] at mE;cases mE;exact ⟨_,jU,Dt,hL,r'⟩) hok hg
theorem Inv.turned{t':Nat}{it:Addr}(I:Inv X pins σ H s)(k:∀b o,b≠it→s.heap.get? b=some o→h'.get? b=some o)(hn:H it=none)(hL:it≠X.env.locals)
  (h1:it∈X.ex∨X.s₀.heap.objs.size≤it) (h2:∀x c,X.env.cells.lookup x=some c→c≠it) (h3:∀p∈X.pn++pins,p.1≠it):Inv X pins σ H {s with heap:=h',toks:=t'}:=by
 have Uu:∀b u,H b=some u→b≠it:=λb u e z=>by rw [z,hn] at e;cases e
 refine I.step (g':=s.gens) (d':=s.drawn) (ch:= [it]) (λb hb=>?_) (λb o _ _ hc e _=>k b o (λz=>hc (by simp [z])) e) (λb o _ _ hc e _=>⟨o.slots,k b o (λz=>hc (by simp [z])) e⟩) (λ_ _ _ _ n=>n)
  (λb o hc e=>⟨o,k b o (λz=>hc (by simp [z])) e⟩) (λ_ _ e=>e) (λ_ _ _ e=>e) (λb ps e=>⟨#[],by rw [e];simp⟩) (λm hm=>?_) (λb u e=>?_) I.bare
 ·have e:b=it:=by simpa using hb
  subst e;exact ⟨h1,hL,h2,h3⟩
 ·obtain ⟨o,es,ep,ho,r⟩:=hm
  exact ⟨o,es,ep,k _ o (Ne.symm hL) ho,r⟩
 ·refine (I.hok b u e).tN (λc v hc q=>k c v ?_ q) (λ_ q=>q) λ_ _ q=>q
  rcases hc with z|z
  ·rw [z];exact Uu b u e
  ·exact Uu c _ z
theorem Inv.tok(I:Inv X pins σ H s)(t:Nat):Inv X pins σ H {s with toks:=t}:=I.un (h':=s.heap) (t':=t) Un.refl I.hok
theorem Inv.kept{t':Nat}(I:Inv X pins σ H s)(k:∀b u,s.heap.get? b=some u→h'.get? b=some u):Inv X pins σ H {s with heap:=h',toks:=t'}:=I.un (Un.kept k) (I.hok.kept k)
theorem Inv.laid{a:Addr}{o:HO}{t':Nat}(I:Inv X pins σ H s)(k:∀b u,s.heap.get? b=some u→h'.get? b=some u)(hp:s.heap.objs.size≤a)(new:dF X.prog X.w (upd H a o) h' a o):
  Inv X pins σ (upd H a o) {s with heap:=h',toks:=t'}:=I.un (Un.laid k hp (I.hok.fresh hp)) (I.hok.laid k hp new)
theorem Inv.write{x e:Addr}{o:HO}{t':Nat}(I:Inv X pins σ H s)(mu:K7 (H x))(he:e=x∨H e=some (.own x))(k:∀b u,b≠e→s.heap.get? b=some u→h'.get? b=some u)(GC:∃u,h'.get? e=some u)
  (new:dF X.prog X.w (upd H x o) h' x o):Inv X pins σ (upd H x o) {s with heap:=h',toks:=t'}:=I.un (Un.write mu he k GC) (I.hok.write mu he k GC new)
theorem Inv.kx{z9:List (Addr×Obj)}(I:Inv X pins σ H s)(h:∀p∈z9,s.heap.get? p.1=some p.2∧H p.1=none∧p.1≠X.env.locals∧p.1∉X.fs∧∀v,p.2.data≠ .cell v):Inv X z9 σ H s:=
 ⟨I.ok,I.os,I.bare,I.base,I.loc,I.cell,I.free,I.freeC,λp hp=>(dh.mp hp).elim (λz=>I.pin p (fL _ z)) (h p),I.hok,I.len⟩
theorem xY{N:List Str}(hN:N.Nodup){i j:Nat}{x:Str}(a:N[i]? =some x)(b:N[j]? =some x):i=j:=by
 obtain ⟨h1,e1⟩:=eU.mp a;obtain ⟨h2,e2⟩:=eU.mp b;exact (List.getElem_inj hN).mp (e1.trans e2.symm)
theorem store_ok2{M:Model}{A:Around}{E:Value→Shared→Prop}{i:Nat}{x:Str}{v:V}{u:Value}{Q:Unit→Shared→Prop}(I:Inv X pins σ H s)(hN:X.N.Nodup)(hi:X.N[i]? =some x)(hx:Loc X.env.scope x)(r:RelV v u)
  (h:∀s',Inv X pins (σ.set i (some v)) H s'→(∃a,Heap.SameBut a s.heap s'.heap∧(a=X.env.locals∨X.env.cells.lookup x=some a))→Q () s') (hf:X.fn x=true∨X.env.scope.names.lookup x=some .local:=by first|exact .inl rfl|exact .inr rfl|assumption):wpAny M A (storeName X.env x u) Q E s:=by
 obtain ⟨m,hn,hl⟩:=id I.loc;have SW:(X.env.scope.kind== .class|| (X.env.scope.kind== .module&&X.env.locals !=X.env.globals))=false:=by rw [I.ok.kind];rfl
 have NF:i<σ.length:=by rw [I.len];exact (eU.mp hi).1
 have Df:=I.Df
 have tracked:∀{a:Addr}{h':Heap},(∃o,s.heap.get? a=some o∧H a=none)→Heap.SameBut a s.heap h'→iI X.prog X.w H h':=λ {a h'} ha hs b ob e=>by
  obtain ⟨_,_,Jc⟩:=ha;refine (I.hok b ob e).tN (λc w' hc q=>(hs.2 c ?_).trans q) (λ_ q=>q) λ_ _ q=>q;rintro rfl
  rcases hc with rfl|hc
  ·rw [Jc] at e;cases e
  ·rw [Jc] at hc;cases hc
 rcases hx with hk|hk
 ·refine wpAny_storeName_local hk hn (λh' YK hs=>?_) SW
  obtain ⟨oL,_,_,BS,_⟩:=id hn;refine h _ ⟨I.ok,I.os,I.bare,⟨λb o e n hb hx=>?_,λb o e n hb hx=>?_,I.base.free,λb o e hx=>?_,I.base.tups,I.base.frzs,I.base.tbls⟩,⟨_,YK,λj y v' e1 e2 e3=>?_⟩,λy c e=>?_,I.free,I.freeC,λp hp=>?_,tracked ⟨oL,BS,I.free⟩ hs,by simpa using I.len⟩ ⟨_,hs, .inl rfl⟩
  ·exact (hs.2 b (bV (gP (Heap.lt_size e) I.ok.above))).trans (I.base.keep b o e n hb hx)
  ·obtain ⟨sl,e1⟩:=I.base.slot b o e n hb hx
   exact ⟨sl,(hs.2 b (bV (gP (Heap.lt_size e) I.ok.above))).trans e1⟩
  ·obtain ⟨o',e1⟩:=I.base.there b o e hx
   exact ⟨o',(hs.2 b (bV (gP (Heap.lt_size e) I.ok.above))).trans e1⟩
  ·by_cases hj:j=i
   ·subst hj
    rw [hi] at e1;cases e1;rw [rE NF] at e2;cases e2;exact ⟨u,r, .inl ⟨hk,by simp⟩⟩
   ·rw [y8 (Ne.symm hj)] at e2
    obtain ⟨u',r',q⟩:=hl j y v' e1 e2 e3;refine ⟨u',r',?_⟩
    rcases q with ⟨k,e⟩ | ⟨k,c,e,z⟩
    ·refine .inl ⟨k,?_⟩
     have:y≠x:=λe=>hj (xY hN e1 (e▸hi))
     simp [this,e]
    ·exact .inr ⟨k,c,e,z.sameBut hs (Df y c e)⟩
  ·obtain ⟨w',z⟩:=I.cell y c e
   exact ⟨w',z.sameBut hs (Df y c e)⟩
  ·obtain ⟨e,n,ne,nf,d⟩:=I.pin p hp
   exact ⟨(hs.2 p.1 ne).trans e,n,ne,nf,d⟩
 ·have Pp:X.fn x=true:=by
   rcases hf with z|z
   ·exact z
   ·rw [z] at hk;cases hk
  obtain ⟨c,hc⟩:=I.ok.has x (.inl hk);obtain ⟨w',z⟩:=I.cell x c hc;refine wpAny_storeName_cell I.ok.kind hk hc z (λh' rV hs=>?_);obtain ⟨oc,To,Tp⟩:=id z;refine h {s with heap:=h'} ⟨I.ok,I.os,I.bare,⟨λb o e n hb hx=>?_,λb o e n hb hx=>?_,I.base.free,λb o e hx=>?_,I.base.tups,I.base.frzs,I.base.tbls⟩,⟨m,hn.sameBut hs (Ne.symm (Df x c hc)),λj y v' e1 e2 e3=>?_⟩,λy c' e=>?_,I.free,I.freeC,λp hp=>?_,tracked ⟨oc,To,I.freeC x c hc⟩ hs,by simpa using I.len⟩ ⟨c,hs, .inr hc⟩
  ·exact (hs.2 b (bV (gP (Heap.lt_size e) (I.ok.cab x c Pp hc)))).trans (I.base.keep b o e n hb hx)
  ·obtain ⟨sl,e1⟩:=I.base.slot b o e n hb hx
   exact ⟨sl,(hs.2 b (bV (gP (Heap.lt_size e) (I.ok.cab x c Pp hc)))).trans e1⟩
  ·obtain ⟨o',e1⟩:=I.base.there b o e hx
   exact ⟨o',(hs.2 b (bV (gP (Heap.lt_size e) (I.ok.cab x c Pp hc)))).trans e1⟩
  ·by_cases hj:j=i
   ·subst hj
    rw [hi] at e1;cases e1;rw [rE NF] at e2;cases e2;exact ⟨u,r, .inr ⟨.inl hk,c,hc,rV⟩⟩
   ·rw [y8 (Ne.symm hj)] at e2
    obtain ⟨u',r',q⟩:=hl j y v' e1 e2 e3;refine ⟨u',r',?_⟩
    rcases q with q| ⟨k,c',e,z'⟩
    ·exact .inl q
    ·refine .inr ⟨k,c',e,z'.sameBut hs ?_⟩
     rintro rfl;exact hj (xY hN e1 (I.ok.inj _ _ _ e hc▸hi))
  ·by_cases SV:c'=c
   ·subst SV;exact ⟨_,rV⟩
   ·obtain ⟨w2,z2⟩:=I.cell y c' e
    exact ⟨w2,z2.sameBut hs SV⟩
  ·obtain ⟨e,n,ne,nf,d⟩:=I.pin p hp
   refine ⟨(hs.2 p.1 ?_).trans e,n,ne,nf,d⟩;intro q;rw [q,To] at e;have q':oc=p.2:=Option.some.inj e;exact d w' (by rw [←q'];exact Tp)
theorem ou{M:Model}{A:Around}{E:Value→Shared→Prop}{i:Nat}{x:Str}{v:V}{u:Value}{Q:Unit→Shared→Prop}(I:Inv X pins σ H s)(hN:X.N.Nodup)(hi:X.N[i]? =some x)(hx:Loc X.env.scope x)(r:RelV v u)
  (h:∀s',Inv X pins (σ.set i (some v)) H s'→Q () s') (hf:X.fn x=true∨X.env.scope.names.lookup x=some .local:=by first|exact .inl rfl|exact .inr rfl|assumption):wpAny M A (storeName X.env x u) Q E s:=
 store_ok2 I hN hi hx r (λs' I' _=>h s' I') hf
theorem Inv.Od{s':Shared}{ch:List Addr}(I:Inv X pins σ H s)(ho:s'.os=s.os)(u:Un (uX X.stack) ch H H' s.heap s'.heap)(hok:iI X.prog X.w H' s'.heap)(hg:AllBare s'.gens)
  (w6:∀b∈ch,(b∈X.ex∨X.s₀.heap.objs.size≤b)∧b≠X.env.locals∧(∀x c,X.env.cells.lookup x=some c→c≠b)∧∀p∈X.pn++pins,p.1≠b):Inv X pins σ H' s':=by
 obtain ⟨h',g',d',t',o'⟩:=s';have e:o'=s.os:=ho;subst e;exact I.call (g':=g') (t':=t') (d':=d') u hok hg w6
end
abbrev XK:=Value→Option Addr→Hp→Prop
abbrev St:=List (Option V)
abbrev VK:=V→Hp→Prop
abbrev TE:=St→Hp→VK→Prop
abbrev TT:=St→Hp→(Bool→Hp→Prop)→Prop
abbrev TA:=St→Hp→(List V→Hp→Prop)→Prop
structure Ends where
 nx:St→Hp→Prop
 rt:VK
 bk:St→Hp→Prop:=λ_ _=>False
 ct:St→Hp→Prop:=λ_ _=>False
abbrev TS:=Ends→St→Hp→Prop
def EP(X:Cx)(pins:List (Addr×Obj))(σ:St)(Q:VK)(u:Value)(s':Shared):Prop:=∃v H',Inv X pins σ H' s'∧RelV v u∧Q v H'
def TP(X:Cx)(pins:List (Addr×Obj))(σ:St)(Q:Bool→Hp→Prop)(b:Bool)(s':Shared):Prop:=∃H',Inv X pins σ H' s'∧Q b H'
def AP(X:Cx)(pins:List (Addr×Obj))(σ:St)(Q:List V→Hp→Prop)(us:List Value)(s':Shared):Prop:=∃vs H',Inv X pins σ H' s'∧Vals vs us∧Q vs H'
def SP(X:Cx)(pins:List (Addr×Obj))(D:Ends)(f:Flow)(s':Shared):Prop:=
 match f with
 | .next=>∃ay H',Inv X pins ay H' s'∧D.nx ay H'
 | .brk=>∃ay H',Inv X pins ay H' s'∧D.bk ay H'
 | .cont=>∃ay H',Inv X pins ay H' s'∧D.ct ay H'
 | .ret u=>∃v ay H',Inv X pins ay H' s'∧RelV v u∧D.rt v H'
def PE(X:Cx)(e:Expr)(t:TE):Prop:=
 ∀(pins:List (Addr×Obj))(s:Shared)(σ:St)(H:Hp)(Q:VK),Inv X pins σ H s→t σ H Q→wpAny (model X.prog X.w) X.A (eval e X.env) (EP X pins σ Q) X.xe s
def PT(X:Cx)(e:Expr)(t:TT):Prop:=
 ∀(pins:List (Addr×Obj))(s:Shared)(σ:St)(H:Hp)(Q:Bool→Hp→Prop),Inv X pins σ H s→t σ H Q→wpAny (model X.prog X.w) X.A (isTrue e X.env (eval e X.env)) (TP X pins σ Q) X.xe s
def PW(X:Cx)(e:Expr)(t:TT):Prop:=
 ∀(whole:Sem Value)(pins:List (Addr×Obj))(s:Shared)(σ:St)(H:Hp)(Q:Bool→Hp→Prop),Inv X pins σ H s→t σ H Q→wpAny (model X.prog X.w) X.A (isTrue e X.env whole) (TP X pins σ Q) X.xe s
theorem PW.pt{X:Cx}{e:Expr}{t:TT}(h:PW X e t):PT X e t:=h _
def PA(X:Cx)(es:List Expr)(t:TA):Prop:=
 ∀(pos:Pos)(pins:List (Addr×Obj))(s:Shared)(σ:St)(H:Hp)(Q:List V→Hp→Prop),Inv X pins σ H s→t σ H Q→wpAny (model X.prog X.w) X.A (spliced (backTo pos (starEach es X.env))) (AP X pins σ Q) X.xe s
def PS(X:Cx)(st:Stmt)(t:TS):Prop:=
 ∀(pins:List (Addr×Obj))(s:Shared)(σ:St)(H:Hp)(D:Ends),Inv X pins σ H s→t D σ H→wpAny (model X.prog X.w) X.A (exec st X.env) (SP X pins D) X.xe s
def mK(X:Cx)(st:List Stmt)(t:TS):Prop:=
 ∀(pins:List (Addr×Obj))(s:Shared)(σ:St)(H:Hp)(D:Ends),Inv X pins σ H s→t D σ H→wpAny (model X.prog X.w) X.A (execs st X.env) (SP X pins D) X.xe s
theorem thn{α:Type}{t:Sem α}{Q Q':α→Shared→Prop}{M:Model}{A:Around}{E:Value→Shared→Prop}{s:Shared}(h:wpAny M A t Q E s)(hQ:∀a s,Q a s→Q' a s):wpAny M A t Q' E s:=wpAny_mono h hQ λ_ _ x=>x
section
variable {X:Cx}
def N2(i:Nat):TE:=λσ H Q=>∃v,σ[i]? =some (some v)∧Q v H
def tC(v:V):TE:=λ_ H Q=>Q v H
theorem FN{i:Nat}{x:Str}{pos:Pos}(hN:X.N[i]? =some x)(hv:uE X.env.scope x)(hd:(x==("__debug__":Str))=false:=by decide)(gY:(x==("__classdict__":Str))=false:=by decide):PE X (.Name x pos) (N2 i):=by
 intro pins s σ H Q I h;obtain ⟨v,e,h⟩:=h;obtain ⟨m,hn,hl⟩:=I.loc;obtain ⟨u,r,l⟩:=hl i x v hN e hv;have fin:EP X pins σ Q u s:=⟨v,H,I,r,h⟩
 rcases l with ⟨hk,hm⟩ | ⟨hk,c,hc,IZ⟩
 ·exact wpAny_Name (wpAny_loadName_local I.ok.kind hk hn hm fin) hd
 ·rcases hk with hk|hk
  ·exact wpAny_Name (wpAny_loadName_cell I.ok.kind hk hc IZ fin) hd
  ·exact wpAny_Name (wpAny_loadName_free I.ok.kind hk hc IZ fin gY) hd
theorem Mq{i j pos}:PE X (.Constant (.int i) j pos) (tC (.int i)):=λ_ _ _ H _ I h=>wpAny_Constant_int ⟨.int i,H,I.tok _,⟨_,rfl⟩,h⟩
theorem Qb{b j pos}:PE X (.Constant (.bool b) j pos) (tC (.bl b)):=λ_ _ _ H _ I h=>Constant_bool ⟨.bl b,H,I,rfl,h⟩
theorem Ms{j pos}:PE X (.Constant .none j pos) (tC .bo):=λ_ _ _ H _ I h=>Constant_none ⟨.bo,H,I,rfl,h⟩
theorem Mv{x j pos}:PE X (.Constant (.str x) j pos) (tC (.str x)):=λ_ _ _ H _ I h=>Calls.Constant_str ⟨.str x,H,I.tok _,⟨_,rfl⟩,h⟩
def Gl(X:Cx)(x:Str):Prop:=X.env.kindOf x=some .globalImplicit
theorem vg{E:Value→Shared→Prop}{pins:List (Addr×Obj)}{s:Shared}{σ:St}{H:Hp}{x:Str}{u:Value}{pos:Pos}{Q:Value→Shared→Prop}(I:Inv X pins σ H s)(hg:Gl X x)(hm:X.mg x=some u)(h:Q u s)
  (hd:(x==("__debug__":Str))=false:=by decide):wpAny (model X.prog X.w) X.A (eval (.Name x pos) X.env) Q E s:=
 Calls.Name_function_global I.ok.kind hg (Calls.loadGlobal_global (by rw [I.ok.glob];exact I.mod.glob.keeps I.bk) hm h) hd
theorem iM{E:Value→Shared→Prop}{pins:List (Addr×Obj)}{s:Shared}{σ:St}{H:Hp}{x:Str}{u:Value}{pos:Pos}{Q:Value→Shared→Prop}(I:Inv X pins σ H s)(hg:Gl X x)(hm:X.mg x=none)(hv:bootBuiltins x=some u)(h:Q u s)
  (hn:x≠"__name__":=by decide) (hd:(x==("__debug__":Str))=false:=by decide):wpAny (model X.prog X.w) X.A (eval (.Name x pos) X.env) Q E s:=by
 obtain ⟨mb,h1,h2⟩:=I.mod.blt;exact Calls.Name_function_global I.ok.kind hg (Calls.loadGlobal_builtin (by rw [I.ok.glob];exact I.mod.glob.keeps I.bk) hm (by rw [I.ok.blt];exact h1.keeps I.bk) ((h2 x hn).trans hv) h) hd
theorem JZ{x:Str}{v:V}{u:Value}{pos:Pos}(hg:Gl X x)(hm:X.mg x=some u)(r:RelV v u)(hd:(x==("__debug__":Str))=false:=by decide):PE X (.Name x pos) (tC v):=
 λ_ _ _ H _ I h=>vg I hg hm ⟨v,H,I,r,h⟩ hd
theorem JW{x:Str}{v:V}{u:Value}{pos:Pos}(hg:Gl X x)(hm:X.mg x=none)(hv:bootBuiltins x=some u)(r:RelV v u)(hn:x≠"__name__":=by decide)(hd:(x==("__debug__":Str))=false:=by decide):PE X (.Name x pos) (tC v):=
 λ_ _ _ H _ I h=>iM I hg hm hv ⟨v,H,I,r,h⟩ hn hd
variable {a b:Expr} {ta tb:TE} {pos:Pos}
variable {tA Ai:TT} {rest:List Expr}
def Wf(t u:TT):TT:=λσ H Q=>t σ H λc H1=>if c=true then u σ H1 Q else Q false H1
def tOr(t u:TT):TT:=λσ H Q=>t σ H λc H1=>if c=true then Q true H1 else u σ H1 Q
def Wn(t:TT):TT:=λσ H Q=>t σ H λc H1=>Q (!c) H1
theorem Ki(ha:PT X a tA):PW X (.BoolOp .And [a] pos) tA:=by
 intro wh pins s σ H Q I h;refine isTrue_and (thn (ha pins s σ H Q I h) λc s1 e=>?_);cases c with
 |true=>exact isTrue_and_nil e
 |false=>exact e
theorem MA(ha:PT X a tA):PW X (.BoolOp .Or [a] pos) tA:=by
 intro wh pins s σ H Q I h;refine isTrue_or (thn (ha pins s σ H Q I h) λc s1 e=>?_);cases c with
 |false=>exact isTrue_or_nil e
 |true=>exact e
theorem Mz(ha:PT X a tA)(hb:PW X (.BoolOp .And (b::rest) pos) Ai):PW X (.BoolOp .And (a::b::rest) pos) (Wf tA Ai):=by
 intro wh pins s σ H Q I h;refine isTrue_and (thn (ha pins s σ H _ I h) λc s1 ⟨H1,I1,q1⟩=>?_);cases c with
 |true=>exact hb wh pins s1 σ H1 Q I1 q1
 |false=>exact ⟨H1,I1,q1⟩
theorem Qf(ha:PT X a tA)(hb:PW X (.BoolOp .Or (b::rest) pos) Ai):PW X (.BoolOp .Or (a::b::rest) pos) (tOr tA Ai):=by
 intro wh pins s σ H Q I h;refine isTrue_or (thn (ha pins s σ H _ I h) λc s1 ⟨H1,I1,q1⟩=>?_);cases c with
 |true=>exact ⟨H1,I1,q1⟩
 |false=>exact hb wh pins s1 σ H1 Q I1 q1
theorem My(ha:PT X a tA):PT X (.UnaryOp .Not a pos) (Wn tA):=by
 intro pins s σ H Q I h;exact isTrue_not (ha pins s σ H (λc H1=>Q (!c) H1) I h)
def Qw(ta tb:TE):TE:=λσ H Q=>ta σ H λx H1=>∃c,x= .bl c∧if c=true then tb σ H1 Q else Q (.bl false) H1
def QC(ta:TE):TE:=λσ H Q=>ta σ H λx H1=>∃c,x= .bl c∧Q (.bl (!c)) H1
theorem Mu{op}{t:TE}(h:PE X a t):PE X (.BoolOp op [a] pos) t:=λpins s σ H Q I hw=>BoolOp_one (h pins s σ H Q I hw)
theorem Mm(ha:PE X a ta)(hb:PE X (.BoolOp .And (b::rest) pos) tb):PE X (.BoolOp .And (a::b::rest) pos) (Qw ta tb):=by
 intro pins s σ H Q I h;refine BoolOp_and (thn (ha pins s σ H _ I h) λv s1 ⟨x,H1,I1,r1,q1⟩=>?_);obtain ⟨c,rfl,q1⟩:=q1;cases r1;refine wpAny_truthy_bool ?_;cases c with
 |true=>exact hb pins s1 σ H1 Q I1 q1
 |false=>exact ⟨.bl false,H1,I1,rfl,q1⟩
theorem Mt(ha:PE X a ta):PE X (.UnaryOp .Not a pos) (QC ta):=by
 intro pins s σ H Q I h;refine UnaryOp_ (thn (ha pins s σ H _ I h) λv s1 ⟨x,H1,I1,r1,q1⟩=>?_);obtain ⟨c,rfl,q1⟩:=q1;cases r1;exact not_of (wpAny_truthy_bool ⟨.bl (!c),H1,I1,rfl,q1⟩)
end
def cQ(K:PySem.W.Frag)(H:Hp)(a:Addr)(xs:List V):Prop:=
 Rd H a (.lst xs)∨
  ∃(o:Obj)(its:Array Value)(n:Nat),K.lookup a=some o∧o.cls= .type "list"∧o.dict=none∧o.data= .seq its n∧its.size≤sizeLine∧Vals xs its.toList
def gr(K:PySem.W.Frag)(H:Hp)(a:Addr)(xs:List V):Prop:=
 Rd H a (.tup xs)∨
  ∃(o:Obj)(its:Array Value)(n:Nat),K.lookup a=some o∧o.cls= .type "tuple"∧o.data= .seq its n∧its.size≤sizeLine∧Vals xs its.toList
def QT:Value→Option V
 | .none=>some .bo
 | .bool b=>some (.bl b)
 | .int i _=>some (.int i)
 | .str x _=>some (.str x)
 | .bytes b _=>some (.Gg b)
 | .float b _=>some (.Dx b)
 | .ref a=>some (.ref a)
 | .type n=>some (.ty n)
 |_=>none
theorem RelV.abs{x:V}{u:Value}(r:RelV x u):QT u=some x:=by
 cases x with
 |bo=>cases r;rfl
 |bl _=>cases r;rfl
 |int _=>obtain ⟨t,rfl⟩:=r;rfl
 |str _=>obtain ⟨t,rfl⟩:=r;rfl
 |Gg _=>obtain ⟨t,rfl⟩:=r;rfl
 |Dx _=>obtain ⟨t,rfl⟩:=r;rfl
 |ref _=>cases r;rfl
 |ty _=>cases r;rfl
theorem RelV.inj{x y:V}{u:Value}(r:RelV x u)(q:RelV y u):x=y:=Option.some.inj (r.abs.symm.trans q.abs)
theorem Vals.inj:∀{xs ys:List V}{us:List Value},Vals xs us→Vals ys us→xs=ys
 |_,_,_, .nil, .nil=>rfl
 |_,_,_, .cons r t, .cons r' t'=>by rw [r.inj r',Vals.inj t t']
section
variable {X:Cx} {pins:List (Addr×Obj)} {σ:St} {H:Hp} {s:Shared} {a:Addr} {xs ys:List V}
theorem cQ.of{K:PySem.W.Frag}(h:H a=some (.lst xs)):cQ K H a xs:= .inl (.inl h)
theorem gr.of{K:PySem.W.Frag}(h:H a=some (.tup xs)):gr K H a xs:= .inl (.inl h)
theorem Inv.list(I:Inv X pins σ H s)(h:cQ X.K H a xs):∃its:List Value,Vals xs its∧PlainL s.heap a its.toArray∧xs.length≤sizeLine:=by
 rcases h with h| ⟨o,its,n,hk,hc,hd,hs,hz,r⟩
 ·obtain ⟨z,its,n,r,e⟩:=h.ok I.hok
  exact ⟨its,r,⟨_,n,e,rfl,rfl,rfl⟩,z⟩
 ·refine ⟨its.toList,r,⟨o,n,I.iL a o hk,hc,hd,by simpa using hs⟩,?_⟩
  have e:=r.length;simp only [dZ] at e;omega
theorem Inv.tuple(I:Inv X pins σ H s)(h:gr X.K H a xs):∃its:List Value,Vals xs its∧IsTup s.heap a its.toArray∧xs.length≤sizeLine:=by
 rcases h with h| ⟨o,its,n,hk,hc,hs,hz,r⟩
 ·obtain ⟨z,its,r,p⟩:=h.ok I.hok
  exact ⟨its,r,p,z⟩
 ·refine ⟨its.toList,r,⟨o,I.iL a o hk,hc,n,by simpa using hs⟩,?_⟩
  have e:=r.length;simp only [dZ] at e;omega
theorem Inv.xW(I:Inv X pins σ H s)(h:cQ X.K H a xs)(h':cQ X.K H a ys):xs=ys:=by
 obtain ⟨its,r,⟨o,n,e,_,_,d⟩,_⟩:=I.list h;obtain ⟨its',r',⟨o',n',e',_,_,d'⟩,_⟩:=I.list h';rw [e] at e';cases e';rw [d] at d'
 injection d' with d1 _
 have:its=its':=by simpa using congrArg Array.toList d1
 subst this;exact r.inj r'
end
abbrev Cx.ph(X:Cx)(E:Value→Shared→Prop):Cx:={X with xe:=E}
abbrev Cx.ie(X:Cx):Cx:=X.ph λ_ _=>False
theorem Cx.Ok.ph{X:Cx}(ok:X.Ok)(E:Value→Shared→Prop):(X.ph E).Ok:=
 ⟨ok.mod,ok.kind,ok.glob,ok.blt,ok.above,ok.inj,ok.has,ok.cab,ok.hd,ok.frames,ok.stk,ok.exf,ok.bs,ok.bsz,ok.noex,ok.exfs,ok.funs,ok.frf⟩
theorem Cx.Ok.jJ{X:Cx}{E:Value→Shared→Prop}(ok:(X.ph E).Ok):X.Ok:=
 ⟨ok.mod,ok.kind,ok.glob,ok.blt,ok.above,ok.inj,ok.has,ok.cab,ok.hd,ok.frames,ok.stk,ok.exf,ok.bs,ok.bsz,ok.noex,ok.exfs,ok.funs,ok.frf⟩
section
variable {X:Cx} {pins:List (Addr×Obj)} {σ:St} {H:Hp} {s:Shared} {E:Value→Shared→Prop}
theorem Inv.ph(I:Inv X pins σ H s)(E:Value→Shared→Prop):Inv (X.ph E) pins σ H s:=⟨I.ok.ph E,I.os,I.bare,I.base,I.loc,I.cell,I.free,I.freeC,I.pin,I.hok,I.len⟩
theorem Inv.jJ(I:Inv (X.ph E) pins σ H s):Inv X pins σ H s:=⟨I.ok.jJ,I.os,I.bare,I.base,I.loc,I.cell,I.free,I.freeC,I.pin,I.hok,I.len⟩
theorem SP.jJ{D:Ends}{f:Flow}{s':Shared}(h:SP (X.ph E) pins D f s'):SP X pins D f s':=by
 cases f with
 |next=>obtain ⟨ay,H',I,q⟩:=h;exact ⟨ay,H',I.jJ,q⟩
 |brk=>obtain ⟨ay,H',I,q⟩:=h;exact ⟨ay,H',I.jJ,q⟩
 |cont=>obtain ⟨ay,H',I,q⟩:=h;exact ⟨ay,H',I.jJ,q⟩
 |ret u=>obtain ⟨v,ay,H',I,r,q⟩:=h;exact ⟨v,ay,H',I.jJ,r,q⟩
theorem mK.ie{st:List Stmt}{t:TS}(h:mK X.ie st t):mK X st t:=λpins s σ H D I hw=>
 wpAny_mono (h pins s σ H D (I.ph _) hw) (λ_ _ q=>q.jJ) λ_ _ z=>False.elim z
end
section
variable {X:Cx} {st:Stmt} {rest:List Stmt} {t u:TS} {e:Expr} {te:TE} {pos:Pos}
def QB:TS:=λD σ H=>D.nx σ H
def Wq(t u:TS):TS:=λD σ H=>t {D with nx:=u D} σ H
theorem Kd:mK X [] QB:=λ_ _ σ H _ I h=>wpAny_execs_nil ⟨σ,H,I,h⟩
theorem kB(h1:PS X st t)(h2:mK X rest u):mK X (st::rest) (Wq t u):=by
 intro pins s σ H D I h;refine wpAny_execs_cons (thn (h1 pins s σ H {D with nx:=u D} I h) λf s1 q=>?_)
 cases f with
 |next=>
  obtain ⟨ay,H',I',q⟩:=q;exact h2 pins s1 ay H' D I' q
 |ret v=>exact q
 |brk=>exact q
 |cont=>exact q
theorem Cp(h1:PS X st t):mK X [st] t:=by
 intro pins s σ H D I h;refine wpAny_execs_cons (thn (h1 pins s σ H D I h) λf s1 q=>?_);cases f with
 |next=>exact wpAny_execs_nil q
 |ret v=>exact q
 |brk=>exact q
 |cont=>exact q
theorem Inv.quiet{pins:List (Addr×Obj)}{σ:St}{H:Hp}{s:Shared}(I:Inv X pins σ H s):interactive X.env=false:=by simp [interactive,I.ok.kind]
def Qz(te:TE):TS:=λD σ H=>te σ H λ_ H1=>D.nx σ H1
theorem qX(he:PE X e te)(hs:swapsWith e none pos.line X.env=pure false:=by rfl):PS X (.Expr e pos) (Qz te):=by
 intro pins s σ H D I h;exact wpAny_Expr_any (thn (he pins s σ H _ I h) λv s1 ⟨x,H1,I1,r1,q1⟩=>⟨σ,H1,I1,q1⟩) I.quiet hs
def Wo(te:TE):TS:=λD σ H=>te σ H D.rt
theorem FT(he:PE X e te):PS X (.Return (some e) pos) (Wo te):=by
 intro pins s σ H D I h;exact wpAny_Return_some (thn (he pins s σ H _ I h) λv s1 ⟨x,H1,I1,r1,q1⟩=>⟨x,σ,H1,I1,r1,q1⟩)
def Wl(c:TT)(t u:TS):TS:=λD σ H=>c σ H λb H1=>if b=true then t D σ H1 else u D σ H1
theorem Qe{c:Expr}{a b:List Stmt}{tc:TT}(hc:PT X c tc)(ha:mK X a t)(hb:mK X b u):PS X (.If c a b pos) (Wl tc t u):=by
 intro pins s σ H D I h;refine wpAny_If (thn (hc pins s σ H _ I h) λd s1 ⟨H1,I1,q1⟩=>?_);cases d with
 |true=>exact ha pins s1 σ H1 D I1 q1
 |false=>exact hb pins s1 σ H1 D I1 q1
def MP:TS:=λ_ _ _=>False
theorem Hh:PS X st MP:=λ_ _ _ _ _ _ h=>h.elim
end
abbrev TG:=V→St→Hp→(St→Hp→Prop)→Prop
abbrev wR:=List V→St→Hp→(St→Hp→Prop)→Prop
def PG(X:Cx)(target:Expr)(t:TG):Prop:=
 ∀(pins:List (Addr×Obj))(s:Shared)(σ:St)(H:Hp)(v:V)(u:Value)(Q:St→Hp→Prop),Inv X pins σ H s→RelV v u→t v σ H Q→
  wpAny (model X.prog X.w) X.A (assign target X.env u) (λ_ s'=>∃ay H',Inv X pins ay H' s'∧Q ay H') X.xe s
def zd(X:Cx)(ts:List Expr)(t:wR):Prop:=
 ∀(pins:List (Addr×Obj))(s:Shared)(σ:St)(H:Hp)(vs:List V)(us:List Value)(Q:St→Hp→Prop),Inv X pins σ H s→Vals vs us→t vs σ H Q→
  wpAny (model X.prog X.w) X.A (assignInOrder ((assignEach ts X.env).map (·.2)) us) (λ_ s'=>∃ay H',Inv X pins ay H' s'∧Q ay H') X.xe s
abbrev HR:=V→V→V→Hp→(Hp→Prop)→Prop
def MZ(X:Cx)(t:HR):Prop:=
 ∀(pins:List (Addr×Obj))(s:Shared)(σ:St)(H:Hp)(o i v:V)(ov iv u:Value)(Q:Hp→Prop),Inv X pins σ H s→RelV o ov→RelV i iv→RelV v u→t o i v H Q→
  wpAny (model X.prog X.w) X.A (setItem ov iv u) (λ_ s'=>∃H',Inv X pins σ H' s'∧Q H') X.xe s
section
variable {X:Cx} {pos:Pos}
def IL(i:Nat):TG:=λv σ H Q=>Q (σ.set i (some v)) H
theorem Ci{i:Nat}{x:Str}(hN:X.N.Nodup)(hi:X.N[i]? =some x)(hx:Loc X.env.scope x)(hf:X.fn x=true∨X.env.scope.names.lookup x=some .local:=by first|exact .inl rfl|exact .inr rfl|assumption):PG X (.Name x pos) (IL i):=by
 intro pins s σ H v u Q I r h;exact wpAny_assign_Name (ou I hN hi hx r (λs' I'=>⟨_,H,I',h⟩) hf)
def SH:wR:=λvs σ H Q=>vs= []∧Q σ H
def O2(t:TG)(u:wR):wR:=λvs σ H Q=>∃v r,vs=v::r∧t v σ H λay H'=>u r ay H' Q
theorem Cj:zd X [] SH:=by
 intro pins s σ H vs us Q I r h;obtain ⟨e,h⟩:=h;subst e;cases r;exact assignInOrder_nil ⟨σ,H,I,h⟩
theorem ye{e:Expr}{es:List Expr}{t:TG}{u:wR}(h1:PG X e t)(h2:zd X es u)
  (hs:(assignEach (e::es) X.env).map (·.2)=assign e X.env::(assignEach es X.env).map (·.2):=by rfl):zd X (e::es) (O2 t u):=by
 intro pins s σ H vs us Q I r h;obtain ⟨v,vr,e1,h⟩:=h;subst e1;cases r with
 |cons r rr=>
  rw [hs];refine assignInOrder_cons (thn (h1 pins s σ H _ _ _ I r h) λ_ s1 ⟨Fb,H1,I1,q1⟩=>?_);exact h2 pins s1 Fb H1 _ _ Q I1 rr q1
def SK(K:PySem.W.Frag)(n:Nat)(t:wR):TG:=λv σ H Q=>∃a xs,v= .ref a∧gr K H a xs∧xs.length=n∧t xs σ H Q
theorem FP{es:List Expr}{k:Nat}{t:wR}{n:Nat}(hc:X.calm=true)(h:zd X es t)
  (hn:(assignEach es X.env).length=n:=by rfl) (oN:(assignEach es X.env).findIdx? (·.1)=none:=by rfl):PG X (.Tuple es k pos) (SK X.K n t):=by
 intro pins s σ H v u Q I r hw;obtain ⟨a,xs,e1,hq,hl,hw⟩:=hw;subst e1;cases r;obtain ⟨its,rv,ht,hz⟩:=I.tuple hq;refine assign_Tuple_tuple (I.ok.hd hc) ht (by simp [hn,←hl,rv.length]) oN λh' hx=>?_
 have I1:Inv X pins σ H {s with heap:=h'}:=I.kept (t':=s.toks) λb o e=>hx b o (bV (Heap.lt_size e)) e
 exact h pins _ σ H xs _ Q I1 (by simpa using rv) hw
def SJ(to ti:TE)(t:HR):TG:=λv σ H Q=>to σ H λo H1=>ti σ H1 λi H2=>t o i v H2 λH3=>Q σ H3
theorem FO{o i:Expr}{to ti:TE}{t:HR}(ho:PE X o to)(hi:PE X i ti)(hs:MZ X t)
  (ha:∀v,assign (.Subscript o i pos) X.env v=(do
   let ov ←holding [v] (eval o X.env)
   let iv ←holding [v,ov] (eval i X.env)
   standAt pos
   holding [v,ov,iv] (setItem ov iv v)
   release [v,ov,iv] []):=by intro _;rfl):PG X (.Subscript o i pos) (SJ to ti t):=by
 intro pins s σ H v u Q I r h;rw [ha];refine wpAny_bind (wpAny_holding (thn (ho pins s σ H _ I h) λov s1 ⟨x,H1,I1,r1,q1⟩=>?_));refine wpAny_bind (wpAny_holding (thn (hi pins s1 σ H1 _ I1 q1) λiv s2 ⟨y,H2,I2,r2,q2⟩=>?_));refine wpAny_bind (wpAny_standAt (wpAny_bind (wpAny_holding (thn (hs pins s2 σ H2 x y v ov iv u _ I2 r1 r2 r q2) λ_ s3 ⟨H3,I3,q3⟩=>?_))));exact wpAny_release ⟨σ,H3,I3,q3⟩
def NY(te:TE)(g:TG):TS:=λD σ H=>te σ H λx H1=>g x σ H1 D.nx
theorem Aa{tg e:Expr}{te:TE}{g:TG}(he:PE X e te)(hg:PG X tg g)(hs:swapsWithSole [tg] e pos.line X.env=pure false:=by rfl)(hw:swappedStores [tg] e X.env=pure none:=by rfl)
  (h1:(assignEach [tg] X.env).map (·.2)= [assign tg X.env]:=by rfl):PS X (.Assign [tg] e pos) (NY te g):=by
 intro pins s σ H D I h;refine wpAny_Assign_stores (thn (he pins s σ H _ I h) λv s1 ⟨x,H1,I1,r1,q1⟩=>?_) hs hw;rw [h1];exact thn (hg pins s1 σ H1 x v _ I1 r1 q1) λ_ s2 q=>q
theorem uw{i:Nat}{x:Str}{e:Expr}{te:TE}{pos':Pos}(hN:X.N.Nodup)(hi:X.N[i]? =some x)(hx:Loc X.env.scope x)(he:PE X e te)(hs:swapsWith e (some (.Name x pos')) pos.line X.env=pure false:=by rfl)(hf:X.fn x=true∨X.env.scope.names.lookup x=some .local:=by first|exact .inl rfl|exact .inr rfl|assumption):
  PS X (.Assign [.Name x pos'] e pos) (NY te (IL i)):=by
 intro pins s σ H D I h;refine wpAny_Assign_Name (thn (he pins s σ H _ I h) λv s1 ⟨y,H1,I1,r1,q1⟩=>?_) hs;exact ou I1 hN hi hx r1 (λs2 I2=>⟨_,H1,I2,q1⟩) hf
end
section
variable {X:Cx} {pos:Pos}
def MQ(c:TT)(tb:TS):TS:=λD σ H=>∃W:Nat→St→Hp→Prop,(∃m,W m σ H)∧∀m σ H,W m σ H→
 c σ H λb H1=>if b=true then ∃N:St→Hp→Prop,(∀ay H',N ay H'→∃m',m'<m∧W m' ay H')∧tb {D with nx:=N,ct:=N,bk:=D.nx} σ H1 else D.nx σ H1
theorem Hi{c:Expr}{body:List Stmt}{tc:TT}{tb:TS}(hp:PassesOwn (model X.prog X.w) X.A X.env X.xe)(hc:PT X c tc)(hb:mK X body tb):PS X (.While c body [] pos) (MQ tc tb):=by
 intro pins s σ H D I h;obtain ⟨W,⟨m0,w0⟩,turn⟩:=h;refine wpAny_While (codeAny_whileLoop (λn s'=>∃ay H',Inv X pins ay H' s'∧W n ay H') ?_ m0 ⟨σ,H,I,w0⟩);rintro n s1 ⟨Fb,H1,I1,w1⟩;refine wpAny_passesOwn hp (thn (hc pins s1 Fb H1 _ I1 (turn n Fb H1 w1)) λb s2 ⟨H2,I2,q2⟩=>?_);cases b with
 |true=>
  obtain ⟨N,hN,q2⟩:=q2;rw [if_pos rfl];refine wpAny_passesOwn hp (thn (hb pins s2 Fb H2 _ I2 q2) λf s3 q3=>?_);cases f with
  |next=>
   obtain ⟨uk,H3,I3,n3⟩:=q3;obtain ⟨m',hm,w3⟩:=hN uk H3 n3;exact ⟨m',hm,uk,H3,I3,w3⟩
  |cont=>
   obtain ⟨uk,H3,I3,n3⟩:=q3;obtain ⟨m',hm,w3⟩:=hN uk H3 n3;exact ⟨m',hm,uk,H3,I3,w3⟩
  |brk=>exact q3
  |ret v=>exact q3
 |false=>
  rw [if_neg cW];exact wpAny_execs_nil ⟨Fb,H2,I2,q2⟩
end
structure It where
 go:Nat→Hp→Prop
 yld:Nat→Hp→V→Hp→Prop
 stop:Nat→Hp→Prop
def eW(X:Cx)(pins:List (Addr×Obj))(H:Hp)(b:Addr):Prop:=
 H b=none∧b≠X.env.locals∧b∉X.fs∧(b∈X.ex∨X.s₀.heap.objs.size≤b)∧(∀x c,X.env.cells.lookup x=some c→c≠b)∧∀p∈X.pn++pins,p.1≠b
theorem Inv.IK{X:Cx}{pins:List (Addr×Obj)}{σ:St}{H H':Hp}{s:Shared}{b:Addr}(I:Inv X pins σ H s)(hb:s.heap.objs.size≤b)(hn:H' b=none):eW X pins H' b:=by
 refine ⟨hn,Nat.ne_of_gt (gP I.lt hb),I.JN hb, .inr (kM I.sz hb),λx c e z=>?_,λp hp z=>?_⟩
 ·obtain ⟨v,q⟩:=I.cell x c e
  exact absurd (gP q.lt (by rw [z];exact hb)) (iw _)
 ·exact absurd (gP (Heap.lt_size (I.pin p hp).1) (by rw [z];exact hb)) (iw _)
structure Turn (P:Program) (w:World) (K:PySem.W.Frag) (tg:Expr) (J:It) (fp:List Addr) (it:Addr) (tn:Nat→Heap→Prop):Prop where
 mem:it∈fp
 obj:∀i h,tn i h→∀b∈fp,∃o,h.get? b=some o∧∀v,o.data≠ .cell v
 keep:∀i h h',tn i h→(∀b∈fp,∀o,h.get? b=some o→h'.get? b=some o)→tn i h'
 item:∀(X:Cx),X.prog=P→X.w=w→X.K=K→X.calm=true→∀(i:Nat)(pins:List (Addr×Obj))(s:Shared)(σ:St)(H:Hp)(E:Value→Shared→Prop),Inv X pins σ H s→(∀b∈fp,eW X pins H b)→tn i s.heap→J.go i H→
  wpAny (model P w) X.A (pyNext (.ref it)) (λr s1=>∃u,r=some u∧
   wpAny (model P w) X.A (letOwnedTupleGo tg (.ref it) u) (λ_ s2=>∃x H',Inv X pins σ H' s2∧RelV x u∧J.yld i H x H'∧tn (i+1) s2.heap∧∀b∈fp,H' b=none) E s1) E s
 done:∀(X:Cx),X.prog=P→X.w=w→X.K=K→X.calm=true→∀(i:Nat)(pins:List (Addr×Obj))(s:Shared)(σ:St)(H:Hp)(E:Value→Shared→Prop),Inv X pins σ H s→(∀b∈fp,eW X pins H b)→tn i s.heap→J.stop i H→
  wpAny (model P w) X.A (pyNext (.ref it)) (λr s1=>r=none∧Inv X pins σ H s1) E s
 self:∀(A:Around)(i:Nat)(s:Shared)(Q:Value→Shared→Prop)(E:Value→Shared→Prop),tn i s.heap→Q (.ref it) s→wpAny (model P w) A (pyIter (.ref it)) Q E s
abbrev TI:=St→Hp→(It→Hp→Prop)→Prop
def QQ(X:Cx)(pins:List (Addr×Obj))(σ:St)(tg:Expr)(R:It→Hp→Prop)(BZ:Value)(s2:Shared):Prop:=
 ∃(it:Addr)(fp:List Addr)(tn:Nat→Heap→Prop)(J:It)(H':Hp),BZ= .ref it∧Inv X pins σ H' s2∧Turn X.prog X.w X.K tg J fp it tn∧tn 0 s2.heap∧(∀b∈fp,eW X pins H' b)∧R J H'
def PI(X:Cx)(tg iter:Expr)(wi:TI):Prop:=
 ∀(pins:List (Addr×Obj))(s:Shared)(σ:St)(H:Hp)(R:It→Hp→Prop),Inv X pins σ H s→wi σ H R→
  wpAny (model X.prog X.w) X.A (eval iter X.env) (λv s1=>wpAny (model X.prog X.w) X.A (pyIter v) (QQ X pins σ tg R) X.xe s1) X.xe s
theorem IS{M:Model}{A:Around}{E:Value→Shared→Prop}{s:Shared}{tg:Expr}{it:Addr}{u:Value}{o:Obj}{n:String}{vs:Array Value}{Q:Unit→Shared→Prop}(ho:s.heap.get? it=some o)(hc:o.cls= .type n)(hd:o.data= .fields vs)
  (hn: ["enumerate","zip","dict_itemiterator","dict_reverseitemiterator","odict_iterator","itertools.zip_longest","itertools.pairwise"].contains n=false) (hQ:Q () s):wpAny M A (letOwnedTupleGo tg (.ref it) u) Q E s:=by
 unfold letOwnedTupleGo
 cases tg<;>first
  |exact wpAny_pure hQ
  | (cases u<;>first
    |exact wpAny_pure hQ
    | (refine wpAny_bind (wpAny_load ho ?_)
       rw [hc,hd];show wpAny M A (if (["enumerate","zip","dict_itemiterator","dict_reverseitemiterator","odict_iterator","itertools.zip_longest","itertools.pairwise"].contains n&&vs[0]? ==some (rawInt _))=true then _ else _) Q E s;rw [if_neg (by intro h;rw [hn,wz] at h;cases h)]
       exact wpAny_pure hQ))
def N9(K:PySem.W.Frag)(a:Addr):It:=
 ⟨λi H=>∃xs x,cQ K H a xs∧xs[i]? =some x,λi H x H'=>H'=H∧∀xs,cQ K H a xs→xs[i]? =some x,λi H=>∃xs,cQ K H a xs∧xs.length≤i⟩
def HL(lo:Int)(n:Nat):It:=⟨λi _=>i<n,λi H x H'=>H'=H∧x= .int (lo+i),λi _=>n≤i⟩
theorem EX{P:Program}{w:World}{K:PySem.W.Frag}{tg:Expr}(a it:Addr):Turn P w K tg (N9 K a) [it] it (λi h=>h.IsListIter it a i) where
 mem:=by simp
 obj:=λi h st b hb=>by
  have e:b=it:=by simpa using hb
  subst e;obtain ⟨o,e,c,d⟩:=st;exact ⟨o,e,λv z=>by rw [d] at z;cases z⟩
 keep:=λi h h' st k=>st.at λo e=>k it (by simp) o e
 item:=by
  intro X hP hw hK hc i pins s σ H E I hf st hg;subst hP hw hK;obtain ⟨xs,x,hq,hx⟩:=hg;obtain ⟨its,rv,p,hz⟩:=I.list hq;obtain ⟨u,hu,ru⟩:=rv.get hx;obtain ⟨f0,f1,f2,f3,f4,f5⟩:=hf it (by simp)
  refine wpAny_pyNext_list_item st p.isList (x:=u) (by simpa using hu) λh' ao sb=>?_
  have I1:Inv X pins σ H {s with heap:=h'}:=I.turned (t':=s.toks) (λb o hb e=>(sb.2 b hb).trans e) f0 f1 f3 f4 f5
  obtain ⟨o,e,c,d⟩:=id ao;exact ⟨u,rfl,IS (s:={s with heap:=h'}) e c d (by decide) ⟨x,H,I1,ru,⟨rfl,λys hy=>by rw [I.xW hy hq];exact hx⟩,ao,λb hb=>(hf b hb).1⟩⟩
 done:=by
  intro X hP hw hK hc i pins s σ H E I hf st hg;subst hP hw hK;obtain ⟨xs,hq,hx⟩:=hg;obtain ⟨its,rv,p,hz⟩:=I.list hq;obtain ⟨f0,f1,f2,f3,f4,f5⟩:=hf it (by simp)
  have hl:=rv.length;exact wpAny_pyNext_list_end (I.ok.hd hc) st p.isList (by simp;omega) λh' eb=>⟨rfl,I.turned (t':=s.toks) (λb o hb e=>eb b o hb e) f0 f1 f3 f4 f5⟩
 self:=λ_ _ _ _ _ st h=>wpAny_pyIter_listiter st h
theorem CM{P:Program}{w:World}{K:PySem.W.Frag}{tg:Expr}(it:Addr)(lo:Int)(n:Nat):Turn P w K tg (HL lo n) [it] it (λi h=>IsRangeIter h it (lo+(i:Nat)*1) ((n:Int)-(i:Nat)) 1) where
 mem:=by simp
 obj:=λi h st b hb=>by
  have e:b=it:=by simpa using hb
  subst e
  exact ⟨_,st,λv z=>by
   have z':Data.fields _=Data.cell v:=z;cases z'⟩
 keep:=λi h h' st k=>k it (by simp) _ st
 item:=by
  intro X hP hw hK hc i pins s σ H E I hf st hg;subst hP hw hK;obtain ⟨f0,f1,f2,f3,f4,f5⟩:=hf it (by simp)
  have W:=Walks.range (prog:=X.prog) (w:=X.w) (I.ok.hd hc) it lo 1 n;refine W.item i s _ _ hg st λv h' tk hv ao kk=>?_;obtain ⟨t,rfl⟩:=hv;have I1:Inv X pins σ H {s with heap:=h',toks:=tk}:=I.turned (λb o hb e=>kk b o (by simpa using hb) e) f0 f1 f3 f4 f5
  refine ⟨_,rfl,IS (s:={s with heap:=h',toks:=tk}) (n:="range_iterator") ao rfl rfl (by decide) ⟨.int (lo+i),H,I1,⟨t,?_⟩,⟨rfl,rfl⟩,ao,λb hb=>(hf b hb).1⟩⟩
  rw [Int.mul_one]
 done:=by
  intro X hP hw hK hc i pins s σ H E I hf st hg;subst hP hw hK;obtain ⟨f0,f1,f2,f3,f4,f5⟩:=hf it (by simp)
  exact wpAny_pyNext_range_end (I.ok.hd hc) st (by have:n≤i:=hg;omega) λh' eb=>⟨rfl,I.turned (t':=s.toks) (λb o hb e=>eb b o hb e) f0 f1 f3 f4 f5⟩
 self:=λ_ _ _ _ _ st h=>wpAny_pyIter_rangeiter st h
section
variable {X:Cx} {tg:Expr}
def PM(K:PySem.W.Frag)(tl:TE):TI:=λσ H R=>tl σ H λx H1=>∃a,x= .ref a∧(∃xs,cQ K H1 a xs)∧R (N9 K a) H1
theorem J7{l:Expr}{tl:TE}(hl:PE X l tl):PI X tg l (PM X.K tl):=by
 intro pins s σ H R I h;refine thn (hl pins s σ H _ I h) λv s1 ⟨x,H1,I1,r1,q1⟩=>?_;obtain ⟨a,e,⟨xs,hq⟩,q⟩:=q1;subst e;cases r1;obtain ⟨its,rv,p,hz⟩:=I1.list hq;refine wpAny_pyIter_list p.isList ?_;refine ⟨s1.heap.objs.size,[s1.heap.objs.size],_,_,H1,rfl,I1.kept (t':=s1.toks) λb o e=>Heap.get?_push_of_some _ e,EX a _,⟨_,Heap.get?_push_size _ rfl,rfl,rfl⟩,λb hb=>?_,q⟩;have e:b=s1.heap.objs.size:=by simpa using hb
 subst e;exact I1.IK (bC _) (I1.hok.fresh (bC _))
theorem yl{pins:List (Addr×Obj)}{σ:St}{H:Hp}{s:Shared}{R:It→Hp→Prop}{E:Value→Shared→Prop}{lo hi:Int}{t u v:Tok}{tk:Nat}(I:Inv X pins σ H s)(h1: -(2^62)≤lo)(h2:lo<2^62)(h3: -(2^62)≤hi)(h4:hi<2^62)
  (q:R (HL lo (hi-lo).toNat) H):wpAny (model X.prog X.w) X.A (pyIter (.ref s.heap.objs.size)) (QQ X pins σ tg R) E {s with heap:=s.heap.push {cls:= .type "range",data:= .fields #[.int lo t, .int hi u, .int 1 v]},toks:=tk}:=by
 refine wpAny_pyIter_range (IsRange.new ..) (small_one h1 h2 h3 h4) ?_;have I1:Inv X pins σ H {s with heap:=s.heap.push {cls:= .type "range",data:= .fields #[.int lo t, .int hi u, .int 1 v]},toks:=tk}:=I.kept λb o e=>Heap.get?_push_of_some _ e
 refine ⟨(s.heap.push {cls:= .type "range",data:= .fields #[.int lo t, .int hi u, .int 1 v]}).objs.size,[(s.heap.push {cls:= .type "range",data:= .fields #[.int lo t, .int hi u, .int 1 v]}).objs.size],_,_,H,rfl,
  I1.kept (t':=tk) λb o e=>Heap.get?_push_of_some _ e,CM _ lo (hi-lo).toNat,?_,λb hb=>?_,q⟩
 ·have e1:lo+((0:Nat):Int)*1=lo:=by simp
  have e2:(((hi-lo).toNat:Nat):Int)-((0:Nat):Int)=Builtin.Range.rangeSize lo hi 1:=by rw [rangeSize_one];split<;>omega
  show IsRangeIter _ _ (lo+((0:Nat):Int)*1) ((((hi-lo).toNat:Nat):Int)-((0:Nat):Int)) 1;rw [e1,e2];exact Heap.get?_push_size _ rfl
 ·have e:b=(s.heap.push {cls:= .type "range",data:= .fields #[.int lo t, .int hi u, .int 1 v]}).objs.size:=by simpa using hb
  subst e;exact I1.IK (bC _) (I1.hok.fresh (bC _))
def PN(ta:TA):TI:=λσ H R=>ta σ H λvs H1=>∃j:Int,vs= [.int j]∧-(2^62)≤j∧j<2^62∧R (HL 0 j.toNat) H1
def PQ(ta:TA):TI:=λσ H R=>ta σ H λvs H1=>∃i j:Int,vs= [.int i, .int j]∧(-(2^62)≤i∧i<2^62∧-(2^62)≤j∧j<2^62)∧R (HL i (j-i).toNat) H1
theorem vJ{a:Expr}{ta:TA}{p pos:Pos}(hg:Gl X "range")(hm:X.mg "range"=none)(ha:PA X [a] ta)(hs:starEach [a] X.env= [(false,eval a X.env)]:=by rfl):PI X tg (.Call (.Name "range" p) [a] [] pos) (PN ta):=by
 intro pins s σ H R I h;refine Call_ (iM I hg hm boot_range (PyProof.Rows.callWith_type1 (thn (ha pos pins s σ H _ I h) λus s1 ⟨vs,H1,I1,r1,q1⟩=>?_) hs rfl));obtain ⟨j,e,q1,q2,q⟩:=q1;subst e;cases r1 with
 |cons r rr=>
  cases rr;obtain ⟨t,rfl⟩:=r;exact call_range_1 (yl I1 (by omega) (by omega) q1 q2 (by simpa using q))
theorem vK{a b:Expr}{ta:TA}{p pos:Pos}(hg:Gl X "range")(hm:X.mg "range"=none)(ha:PA X [a,b] ta)(hs:starEach [a,b] X.env= [(false,eval a X.env),(false,eval b X.env)]:=by rfl)(ja:starEach [b] X.env= [(false,eval b X.env)]:=by rfl):
  PI X tg (.Call (.Name "range" p) [a,b] [] pos) (PQ ta):=by
 intro pins s σ H R I h;refine Call_ (iM I hg hm boot_range (PyProof.Rows.callWith_type1 (thn (ha pos pins s σ H _ I h) λus s1 ⟨vs,H1,I1,r1,q1⟩=>?_) (by rw [hs,ja]) (by rw [ja];rfl)))
 obtain ⟨i,j,e,⟨q1,q2,q3,q4⟩,q⟩:=q1;subst e;cases r1 with
 |cons r rr=>
  cases rr with
  |cons r' rr=>
   cases rr;obtain ⟨t,rfl⟩:=r;obtain ⟨t',rfl⟩:=r';exact call_range_2 (yl I1 q1 q2 q3 q4 q)
def Wk(wi:TI)(g:TG)(tb:TS):TS:=λD σ H=>wi σ H λJ H1=>∃W:Nat→Nat→St→Hp→Prop,(∃m,W 0 m σ H1)∧∀i m σ H,W i m σ H→
 (J.stop i H∧D.nx σ H)∨(J.go i H∧∃N:St→Hp→Prop,(∀ay H',N ay H'→∃m',m'<m∧W (i+1) m' ay H')∧∀x H',J.yld i H x H'→g x σ H' λeV H2=>tb {D with nx:=N,ct:=N,bk:=D.nx} eV H2)
def jF(fp:List Addr)(h:Heap):List (Addr×Obj):=fp.filterMap λb=>(h.get? b).map λo=>(b,o)
theorem cU{fp:List Addr}{h:Heap}{b:Addr}{o:Obj}(hb:b∈fp)(e:h.get? b=some o):(b,o)∈jF fp h:=List.mem_filterMap.mpr ⟨b,hb,by rw [e];rfl⟩
theorem Er{fp:List Addr}{h:Heap}{p:Addr×Obj}(hp:p∈jF fp h):p.1∈fp∧h.get? p.1=some p.2:=by
 obtain ⟨b,hb,e⟩:=List.mem_filterMap.mp hp;cases q:h.get? b with
 |none=>rw [q] at e;cases e
 |some o=>
  rw [q] at e;have e':(b,o)=p:=Option.some.inj e;subst e';exact ⟨hb,q⟩
theorem Inv.pinned{pins:List (Addr×Obj)}{σ:St}{H:Hp}{s:Shared}{fp:List Addr}(I:Inv X pins σ H s)(hf:∀b∈fp,eW X pins H b)(ho:∀b∈fp,∃o,s.heap.get? b=some o∧∀v,o.data≠ .cell v):Inv X (pins++jF fp s.heap) σ H s:=
 I.kx λp hp=>(dh.mp hp).elim (λz=>I.pin p (cG _ z)) λz=>by
  obtain ⟨hb,e⟩:=Er z;obtain ⟨f0,f1,f2,_⟩:=hf p.1 hb;obtain ⟨o,e',d⟩:=ho p.1 hb;rw [e] at e';cases e';exact ⟨e,f0,f1,f2,d⟩
theorem Inv.g9{pins pl:List (Addr×Obj)}{σ:St}{H:Hp}{s:Shared}(I:Inv X (pins++pl) σ H s):Inv X pins σ H s:=I.kx λp hp=>I.pin p (cG _ (fL _ hp))
theorem FR{iter:Expr}{body:List Stmt}{wi:TI}{g:TG}{tb:TS}{pos:Pos}(hp:PassesOwn (model X.prog X.w) X.A X.env X.xe)(hc:X.calm=true)(hi:PI X tg iter wi)(hg:PG X tg g)(hb:mK X body tb)
  (hs:∀x,foldedSetIterable iter X.env x=pure x:=by intro _;rfl):PS X (.For tg iter body [] pos) (Wk wi g tb):=by
 intro pins s σ H D I h;refine wpAny_For (thn (hi pins s σ H _ I h) λv s1 h1=>thn h1 λBZ s2 h2=>?_) hs;obtain ⟨it,fp,tn,J,H2,e,I2,T,iO,f2,W,⟨m0,w0⟩,turn⟩:=h2;subst e;have stat:∀{H':Hp},(∀b∈fp,H' b=none)→∀b∈fp,eW X pins H' b:=λhn b hb=>⟨hn b hb,(f2 b hb).2⟩;refine codeAny_forLoop_any (λn s'=>∃i ay H',Inv X pins ay H' s'∧tn i s'.heap∧(∀b∈fp,H' b=none)∧W i n ay H') ?_ m0 ⟨0,σ,H2,I2,iO,λb hb=>(f2 b hb).1,w0⟩;rintro n s3 ⟨i,uk,H3,I3,qa,SG,w3⟩
 rcases turn i n uk H3 w3 with ⟨stop,qn⟩ | ⟨go,N,hN,step⟩
 ·refine wpAny_passesOwn hp (thn (T.done X rfl rfl rfl hc i pins s3 uk H3 X.xe I3 (stat SG) qa stop) λr s4 ⟨hr,I4⟩=>?_)
  subst hr;exact wpAny_execs_nil ⟨uk,H3,I4,qn⟩
 ·refine wpAny_passesOwn hp (thn (T.item X rfl rfl rfl hc i pins s3 uk H3 X.xe I3 (stat SG) qa go) λr s4 ⟨u,hr,h4⟩=>?_)
  subst hr;refine wpAny_passesOwn hp (thn h4 λ_ s5 ⟨x,H5,I5,r5,y5,qb,rT⟩=>?_);have HK:=I5.pinned (stat rT) (T.obj _ _ qb);refine wpAny_passesOwn hp (thn (hg _ s5 uk H5 x u _ HK r5 (step x H5 y5)) λ_ s6 ⟨σ6,H6,I6,q6⟩=>?_);refine wpAny_passesOwn hp (thn (hb _ s6 σ6 H6 _ I6 q6) λf s7 q7=>?_)
  have again:∀{nV:St}{H7:Hp},Inv X (pins++jF fp s5.heap) nV H7 s7→N nV H7→∃m,m<n∧∃i ay H',Inv X pins ay H' s7∧tn i s7.heap∧(∀b∈fp,H' b=none)∧W i m ay H':=λ {nV H7} I7 n7=>by
   obtain ⟨m',hm,w7⟩:=hN nV H7 n7;refine ⟨m',hm,i+1,nV,H7,I7.g9,T.keep _ _ _ qb λb hb o e=>(I7.pin (b,o) (cG _ (cG _ (cU hb e)))).1,λb hb=>?_,w7⟩;obtain ⟨o,e,d⟩:=T.obj _ _ qb b hb;exact (I7.pin (b,o) (cG _ (cG _ (cU hb e)))).2.1
  cases f with
  |next=>obtain ⟨nV,H7,I7,n7⟩:=q7;exact again I7 n7
  |cont=>obtain ⟨nV,H7,I7,n7⟩:=q7;exact again I7 n7
  |brk=>obtain ⟨nV,H7,I7,q7⟩:=q7;exact ⟨nV,H7,I7.g9,q7⟩
  |ret v=>obtain ⟨x7,nV,H7,I7,r7,q7⟩:=q7;exact ⟨x7,nV,H7,I7.g9,r7,q7⟩
end
abbrev R2:=V→V→Hp→VK→Prop
def OpR(X:Cx)(f:Value→Value→Sem Value)(r:R2):Prop:=
 ∀(pins:List (Addr×Obj))(s:Shared)(σ:St)(H:Hp)(x y:V)(v u:Value)(Q:VK),Inv X pins σ H s→RelV x v→RelV y u→r x y H Q→
  wpAny (model X.prog X.w) X.A (f v u) (EP X pins σ Q) X.xe s
def UnR(X:Cx)(f:Value→Sem Value)(r:V→Hp→VK→Prop):Prop:=
 ∀(pins:List (Addr×Obj))(s:Shared)(σ:St)(H:Hp)(x:V)(v:Value)(Q:VK),Inv X pins σ H s→RelV x v→r x H Q→
  wpAny (model X.prog X.w) X.A (f v) (EP X pins σ Q) X.xe s
def cP(X:Cx)(f:Value)(r:List V→Hp→VK→Prop):Prop:=
 ∀(pins:List (Addr×Obj))(s:Shared)(σ:St)(H:Hp)(xs:List V)(us:List Value)(Q:VK),Inv X pins σ H s→Vals xs us→r xs H Q→
  wpAny (model X.prog X.w) X.A (call f us) (EP X pins σ Q) X.xe s
def QR(X:Cx)(r:V→Hp→(Bool→Hp→Prop)→Prop):Prop:=
 ∀(pins:List (Addr×Obj))(s:Shared)(σ:St)(H:Hp)(x:V)(v:Value)(Q:Bool→Hp→Prop),Inv X pins σ H s→RelV x v→r x H Q→
  wpAny (model X.prog X.w) X.A (truthy v) (TP X pins σ Q) X.xe s
def KQ(r:R2)(ta tb:TE):TE:=λσ H Q=>ta σ H λx H1=>tb σ H1 λy H2=>r x y H2 Q
def tUn(r:V→Hp→VK→Prop)(ta:TE):TE:=λσ H Q=>ta σ H λx H1=>r x H1 Q
def rI(C:Int→Int→Prop)(g:Int→Int→V):R2:=λx y H Q=>∃i j,x= .int i∧y= .int j∧C i j∧Q (g i j) H
def xh(g:Int→Int→V):R2:=λx y H Q=>∃i j,x= .int i∧y= .int j∧Q (g i j) H
def rU(g:Int→V):V→Hp→VK→Prop:=λx H Q=>∃i,x= .int i∧Q (g i) H
section
variable {X:Cx} {a b c:Expr} {ta tb tc:TE} {pos:Pos}
theorem H0(ha:PE X a ta)(hb:PE X b tb){pins:List (Addr×Obj)}{s:Shared}{σ:St}{H:Hp}{R:V→V→Hp→Prop}(I:Inv X pins σ H s)
  (h:ta σ H λx H1=>tb σ H1 λy H2=>R x y H2) {Q:Value→Shared→Prop} {f:Value→Value→Sem Value}
  (hf:∀v u s2 x y H2,Inv X pins σ H2 s2→RelV x v→RelV y u→R x y H2→wpAny (model X.prog X.w) X.A (f v u) Q X.xe s2):
  wpAny (model X.prog X.w) X.A (eval a X.env) (λv s₁=>wpAny (model X.prog X.w) X.A (eval b X.env) (λu F6=>wpAny (model X.prog X.w) X.A (f v u) Q X.xe F6) X.xe s₁) X.xe s:=by
 refine thn (ha pins s σ H _ I h) λv s1 ⟨x,H1,I1,r1,q1⟩=>?_;refine thn (hb pins s1 σ H1 _ I1 q1) λu s2 ⟨y,H2,I2,r2,q2⟩=>?_;exact hf v u s2 x y H2 I2 r1 r2 q2
theorem J3{op:Operator}{r:R2}(ho:OpR X (binaryOp op) r)(ha:PE X a ta)(hb:PE X b tb):PE X (.BinOp a op b pos) (KQ r ta tb):=by
 intro pins s σ H Q I h;exact wpAny_BinOp (H0 ha hb I h λv u s2 x y H2 I2 rx ry q=>ho pins s2 σ H2 x y v u Q I2 rx ry q)
theorem Qd{op:UnaryOp}{r:V→Hp→VK→Prop}(ho:UnR X (unaryOp op) r)(ha:PE X a ta):PE X (.UnaryOp op a pos) (tUn r ta):=by
 intro pins s σ H Q I h;exact UnaryOp_ (thn (ha pins s σ H _ I h) λv s1 ⟨x,H1,I1,r1,q1⟩=>ho pins s1 σ H1 x v Q I1 r1 q1)
theorem Mb{f:Value→Value→Sem Value}{C:Int→Int→Prop}{g:Int→Int→Int}
  (rule:∀(i j:Int)(t u:Tok)(s:Shared)(Q:Value→Shared→Prop)(E:Value→Shared→Prop),C i j→Q (.int (g i j) s.toks) {s with toks:=s.toks+1}→wpAny (model X.prog X.w) X.A (f (.int i t) (.int j u)) Q E s):
  OpR X f (rI C λi j=> .int (g i j)):=by
 intro pins s σ H x y v u Q I rx ry h;obtain ⟨i,j,rfl,rfl,hc,q⟩:=h;obtain ⟨t,rfl⟩:=rx;obtain ⟨t',rfl⟩:=ry;exact rule i j t t' s _ _ hc ⟨.int (g i j),H,I.tok _,⟨_,rfl⟩,q⟩
theorem NQ{f:Value→Value→Sem Value}{g:Int→Int→Int}
  (rule:∀(i j:Int)(t u:Tok)(s:Shared)(Q:Value→Shared→Prop)(E:Value→Shared→Prop),Q (.int (g i j) s.toks) {s with toks:=s.toks+1}→wpAny (model X.prog X.w) X.A (f (.int i t) (.int j u)) Q E s):
  OpR X f (xh λi j=> .int (g i j)):=by
 intro pins s σ H x y v u Q I rx ry h;obtain ⟨i,j,rfl,rfl,q⟩:=h;obtain ⟨t,rfl⟩:=rx;obtain ⟨t',rfl⟩:=ry;exact rule i j t t' s _ _ ⟨.int (g i j),H,I.tok _,⟨_,rfl⟩,q⟩
theorem FJ{f:Value→Value→Sem Value}{g:Int→Int→Bool}
  (rule:∀(i j:Int)(t u:Tok)(s:Shared)(Q:Value→Shared→Prop)(E:Value→Shared→Prop),Q (.bool (g i j)) s→wpAny (model X.prog X.w) X.A (f (.int i t) (.int j u)) Q E s):
  OpR X f (xh λi j=> .bl (g i j)):=by
 intro pins s σ H x y v u Q I rx ry h;obtain ⟨i,j,rfl,rfl,q⟩:=h;obtain ⟨t,rfl⟩:=rx;obtain ⟨t',rfl⟩:=ry;exact rule i j t t' s _ _ ⟨.bl (g i j),H,I,rfl,q⟩
def MX(i j:Int):Prop:=0<j∧j<1073741824
def MY(i j:Int):Prop:=0≤j∧j≤1000000∧i.natAbs<2^64
def Fc(i j:Int):Prop:=(-(2^64)<i∧i<2^64)∨(-(2^64)<j∧j<2^64)
theorem Fc.ok{i j:Int}(h:Fc i j):IntMulOk i j:=by
 rcases h with ⟨h1,h2⟩ | ⟨h1,h2⟩
 ·exact .of_left (intBits_le_64 h1 h2)
 ·exact .of_right (intBits_le_64 h1 h2)
theorem Mc:OpR X (binaryOp .Add) (xh λi j=> .int (i+j)):=NQ λ_ _ _ _ _ _ _ q=>add_int q
theorem Ml:OpR X (binaryOp .Sub) (xh λi j=> .int (i-j)):=NQ λ_ _ _ _ _ _ _ q=>sub_int q
theorem Mg:OpR X (binaryOp .Mult) (rI Fc λi j=> .int (i*j)):=Mb λ_ _ _ _ _ _ _ hc q=>mul_int q hc.ok
theorem JU:OpR X (binaryOp .FloorDiv) (rI MX λi j=> .int (i / j)):=Mb λi j _ _ _ _ _ hc q=>by
 have h1:(0:Int)<j:=hc.1;have h2:j<1073741824:=hc.2;exact floordiv_int (by omega) (by rw [Int.fdiv_eq_ediv_of_nonneg i (by omega)];exact q) (.inl (PyProof.noPylong_small (by omega)))
theorem Mf:OpR X (binaryOp .Mod) (rI (λ_ j=>0<j) λi j=> .int (i%j)):=Mb λi j _ _ _ _ _ hc q=>by
 have h1:(0:Int)<j:=hc;exact mod_int' (by omega) (by rw [Int.fmod_eq_emod_of_nonneg i (by omega)];exact q)
theorem Mi:OpR X (binaryOp .Pow) (rI MY λi j=> .int (i^j.toNat)):=Mb λ_ _ _ _ _ _ _ hc q=>pow_int_small hc.1 hc.2.1 hc.2.2 q
theorem unI{f:Value→Sem Value}{g:Int→Int}
  (rule:∀(i:Int)(t:Tok)(s:Shared)(Q:Value→Shared→Prop)(E:Value→Shared→Prop),Q (.int (g i) s.toks) {s with toks:=s.toks+1}→wpAny (model X.prog X.w) X.A (f (.int i t)) Q E s):
  UnR X f (rU λi=> .int (g i)):=by
 intro pins s σ H x v Q I rx h;obtain ⟨i,rfl,q⟩:=h;obtain ⟨t,rfl⟩:=rx;exact rule i t s _ _ ⟨.int (g i),H,I.tok _,⟨_,rfl⟩,q⟩
theorem MU:UnR X (unaryOp .USub) (rU λi=> .int (-i)):=unI λ_ _ _ _ _ q=>neg_int q
end
section
variable {X:Cx} {a b c:Expr} {ta tb tc:TE} {pos:Pos}
theorem Ft{pins:List (Addr×Obj)}{σ:St}{H:Hp}{s:Shared}{Q:VK}{k k':Bool}(I:Inv X pins σ H s)(q:Q (.bl k) H)(e:k=k'):EP X pins σ Q (.bool k') s:=by
 subst e;exact ⟨.bl k,H,I,rfl,q⟩
theorem P7:OpR X (compareOp .Lt) (xh λi j=> .bl (decide (i<j))):=FJ λ_ _ _ _ _ _ _ q=>lt_int q
theorem P6:OpR X (compareOp .LtE) (xh λi j=> .bl (decide (i≤j))):=FJ λ_ _ _ _ _ _ _ q=>le_int q
theorem P5:OpR X (compareOp .Gt) (xh λi j=> .bl (decide (j<i))):=FJ λ_ _ _ _ _ _ _ q=>gt_int q
theorem P4:OpR X (compareOp .GtE) (xh λi j=> .bl (decide (j≤i))):=FJ λ_ _ _ _ _ _ _ q=>ge_int q
theorem Me:OpR X (compareOp .Is) (λx y H Q=>y= .bo∧Q (.bl (decide (x= .bo))) H):=by
 intro pins s σ H x y v u Q I rx ry h;obtain ⟨rfl,q⟩:=h;cases ry;refine is_none_gen (Ft I q ?_)
 cases x<;>first
  | (cases rx;rfl)
  | (obtain ⟨t,rfl⟩:=rx;rfl)
theorem JV:OpR X (compareOp .IsNot) (λx y H Q=>y= .bo∧Q (.bl (!decide (x= .bo))) H):=by
 intro pins s σ H x y v u Q I rx ry h;obtain ⟨rfl,q⟩:=h;cases ry;refine isnot_none_gen (Ft I q ?_)
 cases x<;>first
  | (cases rx;rfl)
  | (obtain ⟨t,rfl⟩:=rx;rfl)
theorem OpR.or{f:Value→Value→Sem Value}{r r':R2}(h:OpR X f r)(h':OpR X f r'):OpR X f (λx y H Q=>r x y H Q∨r' x y H Q):=by
 intro pins s σ H x y v u Q I rx ry q
 rcases q with q|q
 ·exact h pins s σ H x y v u Q I rx ry q
 ·exact h' pins s σ H x y v u Q I rx ry q
theorem bH(b:Expr){op:CmpOp}(h:op≠ .In:=by decide)(h2:op≠ .NotIn:=by decide):behindInMarks op b=false:=by
 have e1:(op==CmpOp.In)=false:=by cases op<;>first|rfl|exact absurd rfl h
 have e2:(op==CmpOp.NotIn)=false:=by cases op<;>first|rfl|exact absurd rfl h2
 cases b<;>simp [behindInMarks,e1,e2]
theorem JY{op:CmpOp}{r:R2}(ho:OpR X (compareOp op) r)(ha:PE X a ta)(hb:PE X b tb)(hm:behindInMarks op b=false):PE X (.Compare a [op] [b] pos) (KQ r ta tb):=by
 intro pins s σ H Q I h;exact wpAny_Compare1 (H0 ha hb I h λv u s2 x y H2 I2 rx ry q=>ho pins s2 σ H2 x y v u Q I2 rx ry q) hm
def EU(t:TE):TT:=λσ H Q=>t σ H λx H'=>∃k,x= .bl k∧Q k H'
theorem Ke{op:CmpOp}{r:R2}(ho:OpR X (compareOp op) r)(ha:PE X a ta)(hb:PE X b tb)(hm:behindInMarks op b=false):PT X (.Compare a [op] [b] pos) (EU (KQ r ta tb)):=by
 intro pins s σ H Q I h
 refine wpAny_isTrue_Compare1 (thn (ha pins s σ H _ I h) λv s1 ⟨x,H1,I1,r1,q1⟩=>thn (hb pins s1 σ H1 _ I1 q1) λu s2 ⟨y,H2,I2,r2,q2⟩=>
  thn (ho pins s2 σ H2 x y v u _ I2 r1 r2 q2) λc s3 ⟨z,H3,I3,r3,k,e,q3⟩=>?_) hm
 subst e;cases r3;exact wpAny_truthy_bool ⟨H3,I3,q3⟩
def Aj(r r':R2)(ta tb tc:TE):TE:=λσ H Q=>ta σ H λx H1=>tb σ H1 λy H2=>r x y H2 λz H3=>∃k,z= .bl k∧
 (if k=true then tc σ H3 λw' H4=>r' y w' H4 Q else Q (.bl false) H3)
theorem He{op pZ:CmpOp}{r r':R2}(ho:OpR X (compareOp op) r)(mE:OpR X (compareOp pZ) r')(ha:PE X a ta)(hb:PE X b tb)(hc:PE X c tc)
  (hm:lastMarks [op,pZ] [b,c]=false:=by with_unfolding_all rfl):PE X (.Compare a [op,pZ] [b,c] pos) (Aj r r' ta tb tc):=by
 intro pins s σ H Q I h
 refine Compare_chain (thn (ha pins s σ H _ I h) λv s1 ⟨x,H1,I1,r1,q1⟩=>chain_link (thn (hb pins s1 σ H1 _ I1 q1) λu s2 ⟨y,H2,I2,r2,q2⟩=>
  thn (ho pins s2 σ H2 x y v u _ I2 r1 r2 q2) λd s3 ⟨z,H3,I3,r3,k,e,q3⟩=>?_)) hm
 subst e;cases r3;refine wpAny_truthy_bool ?_;cases k with
 |false=>exact ite_ff ⟨.bl false,H3,I3,rfl,q3⟩
 |true=>exact ite_tt (chain_last (thn (hc pins s3 σ H3 _ I3 q3) λw' s4 ⟨z',H4,I4,r4,q4⟩=>mE pins s4 σ H4 y z' u w' Q I4 r2 r4 q4))
theorem Hj{op pZ:CmpOp}{r r':R2}(ho:OpR X (compareOp op) r)(mE:OpR X (compareOp pZ) r')(ha:PE X a ta)(hb:PE X b tb)(hc:PE X c tc)
  (hm:lastMarks [op,pZ] [b,c]=false:=by with_unfolding_all rfl):PT X (.Compare a [op,pZ] [b,c] pos) (EU (Aj r r' ta tb tc)):=by
 intro pins s σ H Q I h
 refine isTrue_chain (thn (ha pins s σ H _ I h) λv s1 ⟨x,H1,I1,r1,q1⟩=>test_link (thn (hb pins s1 σ H1 _ I1 q1) λu s2 ⟨y,H2,I2,r2,q2⟩=>
  thn (ho pins s2 σ H2 x y v u _ I2 r1 r2 q2) λd s3 ⟨z,H3,I3,r3,k,e,q3⟩=>?_)) hm
 subst e;cases r3;refine wpAny_truthy_bool ?_;cases k with
 |false=>
  obtain ⟨k',e',q'⟩:=q3;cases e';exact ite_ff ⟨H3,I3,q'⟩
 |true=>
  refine ite_tt (test_last (thn (hc pins s3 σ H3 _ I3 q3) λw' s4 ⟨z',H4,I4,r4,q4⟩=>thn (mE pins s4 σ H4 y z' u w' _ I4 r2 r4 q4) λd' s5 ⟨z2,H5,I5,r5,k2,e2,q5⟩=>?_));subst e2;cases r5;exact wpAny_truthy_bool ⟨H5,I5,q5⟩
def M1(K:PySem.W.Frag)(x:V)(H:Hp)(k:Bool):Prop:=
 match x with
 | .bo=>k=false
 | .bl b=>k=b
 | .int i=>k=(i !=0)
 | .str y=>y.length≤sizeLine∧k=((y.length:Int) !=0)
 | .Gg y=>y.size≤sizeLine∧k=((y.size:Int) !=0)
 | .ref p=>(∃xs,cQ K H p xs∧k= !xs.isEmpty)∨(∃xs,gr K H p xs∧k= !xs.isEmpty)∨∃eE,H p=some (.dK eE)∧k= !eE.isEmpty
 |_=>False
theorem BX{κ:Type}{eE:List (κ×V)}{vs:List (κ×Value)}(r:KV eE vs):(!vs.isEmpty)= !eE.isEmpty:=by
 cases r<;>rfl
theorem tE{xs:List V}{its:List Value}(r:Vals xs its):(!its.toArray.isEmpty)= !xs.isEmpty:=by
 cases r<;>simp
theorem kY:(sizeLine:Nat)<2^63:=by rw [sizeLine_eq];decide
theorem MS:QR X (λx H Q=>∃k,M1 X.K x H k∧Q k H):=by
 intro pins s σ H x v Q I rx h;obtain ⟨k,e,q⟩:=h;have hl:=kY;have hs:sizeLine=16777216:=sizeLine_eq;cases x with
 |bo=>
  cases rx;have e':k=false:=e;subst e';exact truthy_none ⟨H,I,q⟩
 |bl b=>
  cases rx;have e':k=b:=e;subst e';exact wpAny_truthy_bool ⟨H,I,q⟩
 |int i=>
  obtain ⟨t,rfl⟩:=rx;have e':k=(i !=0):=e;subst e';exact PySem.P.truthy_int ⟨H,I,q⟩
 |str y=>
  obtain ⟨t,rfl⟩:=rx;obtain ⟨hy,e'⟩:y.length≤sizeLine∧k=((y.length:Int) !=0):=e;subst e';exact PySem.P.truthy_str (by omega) ⟨H,I.tok _,q⟩
 |Gg y=>
  obtain ⟨t,rfl⟩:=rx;obtain ⟨hy,e'⟩:y.size≤sizeLine∧k=((y.size:Int) !=0):=e;subst e';exact PySem.W.truthy_bytes (by omega) ⟨H,I.tok _,q⟩
 |ref p=>
  cases rx;have e':(∃xs,cQ X.K H p xs∧k= !xs.isEmpty)∨(∃xs,gr X.K H p xs∧k= !xs.isEmpty)∨∃eE,H p=some (.dK eE)∧k= !eE.isEmpty:=e
  rcases e' with ⟨xs,hx,e'⟩ | ⟨xs,hx,e'⟩ | ⟨eE,hx,e'⟩
  ·subst e'
   obtain ⟨its,r,pl,hz⟩:=I.list hx;have hlen:=r.length;exact wpAny_truthy_list pl.isList (by simp only [cJ];omega) ⟨H,I.tok _,by rw [tE r];exact q⟩
  ·subst e'
   obtain ⟨its,r,pl,hz⟩:=I.tuple hx;have hlen:=r.length;exact truthy_tuple pl (by simp only [cJ];omega) ⟨H,I.tok _,by rw [tE r];exact q⟩
  ·subst e'
   obtain ⟨hz,hS,vs,r,m⟩:eE.length≤sizeLine∧(p==sysModules)=false∧∃vs,KV eE vs∧s.heap.DictOf (vv X.prog X.w) p vs:=I.hok p _ hx;have hlen:eE.length=vs.length:=Paired.length r;exact wpAny_truthy_dict hS m (by omega) ⟨H,I.tok _,by rw [BX r];exact q⟩
 |_=>exact (show False from e).elim
theorem Hk(ha:PE X a ta)(he:∀whole,isTrue a X.env whole=(do let v ←whole;standAt a.pos;holding [v] (truthy v))):
  PT X a (λσ H Q=>ta σ H λx H'=>∃k,M1 X.K x H' k∧Q k H'):=by
 intro pins s σ H Q I h;exact isTrue_plain (thn (ha pins s σ H _ I h) λv s1 ⟨x,H1,I1,r1,q1⟩=>MS pins s1 σ H1 x v Q I1 r1 q1) (he _)
theorem vals1{x:V}{us:List Value}(r:Vals [x] us):∃u,us= [u]∧RelV x u:=by
 cases r with
 |cons r1 r2=>cases r2;exact ⟨_,rfl,r1⟩
theorem vals2{x y:V}{us:List Value}(r:Vals [x,y] us):∃u w',us= [u,w']∧RelV x u∧RelV y w':=by
 cases r with
 |cons r1 r2=>
  cases r2 with
  |cons r3 r4=>cases r4;exact ⟨_,_,rfl,r1,r3⟩
theorem C9(hc:X.calm=true):cP X (.builtin "max") (λxs H Q=>∃i j,xs= [.int i, .int j]∧Q (.int (if j>i then j else i)) H):=by
 intro pins s σ H xs us Q I r h;obtain ⟨i,j,rfl,q⟩:=h;obtain ⟨u,w',rfl,⟨t,rfl⟩,⟨t',rfl⟩⟩:=vals2 r;refine max_two_ints (I.ok.hd hc) λh' tk k=>⟨_,H,I.kept k,?_,q⟩
 by_cases hj:j>i
 ·rw [if_pos hj,if_pos hj];exact ⟨_,rfl⟩
 ·rw [if_neg hj,if_neg hj];exact ⟨_,rfl⟩
theorem Dd(hc:X.calm=true):cP X (.builtin "min") (λxs H Q=>∃i j,xs= [.int i, .int j]∧Q (.int (if j<i then j else i)) H):=by
 intro pins s σ H xs us Q I r h;obtain ⟨i,j,rfl,q⟩:=h;obtain ⟨u,w',rfl,⟨t,rfl⟩,⟨t',rfl⟩⟩:=vals2 r;refine min_two_ints (I.ok.hd hc) λh' tk k=>⟨_,H,I.kept k,?_,q⟩
 by_cases hj:j<i
 ·rw [if_pos hj,if_pos hj];exact ⟨_,rfl⟩
 ·rw [if_neg hj,if_neg hj];exact ⟨_,rfl⟩
end
structure uD (h:Heap) (x dx C:Addr) (mA:Str→Option Value):Prop where
 obj:h.get? x=some (PySem.W.instObj C dx)
 ns:h.Ns1 dx mA
 ne:dx≠x
theorem Ef{h:Heap}{dx:Addr}{mA:Str→Option Value}(n:h.Ns1 dx mA):∃od,h.get? dx=some od∧∀name,PySem.W.lookIn name od=some (mA name):=by
 obtain ⟨o,es,ep,ho,hd,hk,_,hm⟩:=n;refine ⟨o,ho,λname=>?_⟩;have e:=hm name;unfold nsFind findBy at e;rw [←Array.find?_toList] at e;unfold PySem.W.lookIn;rw [hd];dsimp only
 split
 ·rename_i y q
  rw [q] at e;exact congrArg some e
 ·rename_i q
  rw [q] at e
  have a:es.toList.any (·.refKey)=false:=by
   rw [List.any_eq_false];intro y hy;obtain ⟨z,t,Fx⟩:=hk y (Array.mem_toList_iff.mp hy);simp [DictEntry.refKey,Fx]
  have a':¬es.toList.any (·.refKey)=true:=by rw [a];exact cW
  rw [if_neg a'];exact congrArg some e
theorem uD.look{h:Heap}{x dx C:Addr}{mA:Str→Option Value}(I:uD h x dx C mA):∃od,PySem.W.InstAt h x (PySem.W.instObj C dx) C (some od)∧∀name,PySem.W.lookIn name od=some (mA name):=
 let ⟨od,ho,hl⟩:=Ef I.ns
 ⟨od,⟨I.obj,rfl,rfl,ho⟩,hl⟩
section
variable {prog:Program} {w:World} {A:Around} {E:Value→Shared→Prop} {s:Shared} {K:PySem.W.Frag} {x dx C f:Addr} {mA:Str→Option Value} {name:Str} {v:Value}
theorem get_map{expr:Bool}{Q:Value→Shared→Prop}(X:K.In s.heap)(I:uD s.heap x dx C mA)(hg:PySem.W.plainGet K C name=true)(hh:PySem.W.hasDictIn K C=true)
  (ha:PySem.W.findIn K (.ref C) name=some none) (hv:mA name=some v) (DY:PySem.W.handedIn v=true) (h:Q v {s with toks:=s.toks+1}):
  wpAny (model prog w) A (getAttr (.ref x) name expr) Q E s:=by
 obtain ⟨od,J,hl⟩:=I.look;exact PySem.W.get_value X J (PySem.W.plainGet_of hg).1 (PySem.W.findObj_own hh ha rfl (by rw [hl,hv])) DY h
theorem Gx{pl:Sem Bool}{Q:Value×List Value→Shared→Prop}(X:K.In s.heap)(I:uD s.heap x dx C mA)(hg:PySem.W.plainGet K C name=true)
  (hf:PySem.W.findIn K (.ref C) name=some (some (.ref f))) (ht:PySem.W.isFn K (.ref f)=true) (hv:mA name=none) (h:Q (.ref f,[.ref x]) s):
  wpAny (model prog w) A (getMethod (.ref x) name pl) Q E s:=by
 obtain ⟨od,J,hl⟩:=I.look;exact PySem.W.method_fn X J (PySem.W.plainGet_of hg).1 (PySem.W.plainGet_of hg).2 hf (beq_iff_eq.mp ht) (by show (PySem.W.lookIn name od).map (·.isSome)=some false;rw [hl,hv];rfl) h
theorem Ku{ns:List Str}{Q:Unit→Shared→Prop}(X:K.In s.heap)(I:uD s.heap x dx C mA)
  (hs:PySem.W.findIn K (.ref C) "__setattr__"=some (some (.builtin "object.__setattr__"))) (hp:PySem.W.plainOver K C=true) (ht:PySem.W.takerIn K C name=some none) (hh:PySem.W.hasDictIn K C=true)
  (hw:PySem.Within mA ns) (fb:ns.length≤sizeLine)
  (h:∀h',uD h' x dx C (λy=>if y=name then some v else mA y)→Heap.SameBut dx s.heap h'→Q () {s with heap:=h',toks:=s.toks+2}):
  wpAny (model prog w) A (setAttr (.ref x) name v) Q E s:=by
 obtain ⟨od,J,hl⟩:=I.look;refine PySem.W.set_plain X J hs (PySem.W.osa_open (s:={s with toks:=s.toks+1}) (r:=none) X J hp ht λb=>?_)
 obtain ⟨cd,hc,oK⟩:=PySem.W.any_some hh;have hx:s.heap.get? x=some ⟨.ref C,some dx, .plain, #[]⟩:=I.obj;refine wpAny_bind (wpAny_pure (wpAny_bind (wpAny_bind (wpAny_loadPart hx (wpAny_bind (PySem.W.Looks.here (s:={s with toks:=s.toks+1}) (PySem.W.looks_clsIn X hc) ?_))))))
 rw [oK];refine wpAny_pure (a:=some dx) (wpAny_bind (wpAny_pure (wpAny_bind ?_)));refine wpAny_nsSet1 (s:={s with toks:=s.toks+1}) I.ns λh' xa ja=>?_
 obtain ⟨oD,esD,epD,YM,Yt,Ys⟩:=xa.count (PySem.Within.cons name v hw);refine wpAny_bind (wpAny_lookBehind YM (by rw [Yt];exact pastItsLine_dict (kM Ys (by rw [dB];omega))) ?_)
 exact wpAny_pure (h _ ⟨(ja.2 _ (Ne.symm I.ne)).trans I.obj,xa,I.ne⟩ ja)
theorem GZ{R:Result→Shared→Prop}{vs:List Value}{kw:List (Str×Value)}(X:K.In s.heap)(hm:PySem.W.makesIn K C=true)
  (hi:PySem.W.findIn K (.ref C) "__init__"=some (some (.ref f))) (hf:PySem.W.typeIn K (.ref f)=some (.type "function"))
  (h:codeAny (model prog w) (A.under (.builtin "type.__call__" ⟨.ref C::vs,kw⟩)) (.call (.ref f) ⟨.ref (s.heap.objs.size+1)::vs,kw⟩) (PySem.W.InitBack (s.heap.objs.size+1) R)
   {s with heap:=(s.heap.push PySem.W.emptyDict).push (PySem.W.instObj C s.heap.objs.size)}):
  codeAny (model prog w) A (.call (.ref C) ⟨vs,kw⟩) R s:=by
 obtain ⟨hh,g,d,t,os⟩:=s;exact PySem.W.make_core (PySem.W.makes_of X hm) (PySem.W.looks_findIn X hi) (λself=>PySem.W.bind_fn X self hf) (.inl rfl) h
end
def iG(f:Str)(v:V):List (Str×V)→List (Str×V)
 | []=> [(f,v)]
 | (g,x)::r=>if g=f then (g,v)::r else (g,x)::iG f v r
theorem qO(f g:Str)(v:V):∀fs:List (Str×V),(iG f v fs).lookup g=if g=f then some v else fs.lookup g
 | []=>by
  show List.lookup g [(f,v)]=_
  by_cases h:g=f
  ·have hb:(g==f)=true:=beq_iff_eq.mpr h
   simp only [List.lookup,hb,if_pos h]
  ·have hb:(g==f)=false:=beq_eq_false_iff_ne.mpr h
   simp only [List.lookup,hb,if_neg h]
 | (k,x)::r=>by
  have ih:=qO f g v r;rw [show iG f v ((k,x)::r)=(if k=f then (k,v)::r else (k,x)::iG f v r) from rfl]
  by_cases hk:k=f
  ·rw [if_pos hk]
   by_cases h:g=k
   ·have hb:(g==k)=true:=beq_iff_eq.mpr h
    simp only [List.lookup,hb,if_pos (h.trans hk)]
   ·have hb:(g==k)=false:=beq_eq_false_iff_ne.mpr h
    simp only [List.lookup,hb,if_neg (λe:g=f=>h (e.trans hk.symm))]
  ·rw [if_neg hk]
   by_cases h:g=k
   ·have hb:(g==k)=true:=beq_iff_eq.mpr h
    simp only [List.lookup,hb,if_neg (λe:g=f=>hk (h.symm.trans e))]
   ·have hb:(g==k)=false:=beq_eq_false_iff_ne.mpr h
    simp only [List.lookup,hb];exact ih
theorem pR(f:Str)(v:V):∀fs:List (Str×V),f∈(iG f v fs).map (·.1)∧∀g,g∈fs.map (·.1)→g∈(iG f v fs).map (·.1)
 | []=>⟨by simp [iG],λg h=>by simp at h⟩
 | (k,x)::r=>by
  obtain ⟨i1,i2⟩:=pR f v r;rw [show iG f v ((k,x)::r)=(if k=f then (k,v)::r else (k,x)::iG f v r) from rfl]
  by_cases hk:k=f
  ·rw [if_pos hk]
   subst hk;exact ⟨by simp,λg h=>by simpa using h⟩
  ·rw [if_neg hk]
   refine ⟨?_,λg h=>?_⟩
   ·rw [gL]
    exact cM _ i1
   ·rw [gL] at h ⊢
    rcases cv.mp h with e|e
    ·exact cv.mpr (.inl e)
    ·exact cM _ (i2 g e)
theorem qL(f:Str)(v:V):∀fs:List (Str×V),(iG f v fs).length≤fs.length+1
 | []=>by simp [iG]
 | (k,x)::r=>by
  have ih:=qL f v r;rw [show iG f v ((k,x)::r)=(if k=f then (k,v)::r else (k,x)::iG f v r) from rfl]
  by_cases hk:k=f
  ·rw [if_pos hk,dB,dB];omega
  ·rw [if_neg hk,dB,dB];omega
theorem oQ.some_of{v:V}{o:Option Value}(r:oQ (some v) o):∃u,o=some u∧RelV v u:=by
 cases o with
 |none=>exact (show False from r).elim
 |some u=>exact ⟨u,rfl,r⟩
theorem oQ.none_of{o:Option Value}(r:oQ none o):o=none:=by
 cases o with
 |none=>rfl
 |some u=>exact (show False from r).elim
theorem DL{v:V}{u:Value}(r:RelV v u):PySem.W.handedIn u=true:=by
 cases v with
 |bo=>cases (show u=Value.none from r);rfl
 |bl b=>cases (show u=Value.bool b from r);rfl
 |int i=>obtain ⟨t,e⟩:=(show ∃t,u=Value.int i t from r);cases e;rfl
 |str x=>obtain ⟨t,e⟩:=(show ∃t,u=Value.str x t from r);cases e;rfl
 |Gg b=>obtain ⟨t,e⟩:=(show ∃t,u=Value.bytes b t from r);cases e;rfl
 |Dx b=>obtain ⟨t,e⟩:=(show ∃t,u=Value.float b t from r);cases e;rfl
 |ref a=>cases (show u=Value.ref a from r);rfl
 |ty n=>cases (show u=Value.type n from r);rfl
section
variable {P:Program} {w:World} {H H':Hp} {h h':Heap} {a C dx:Addr} {fs Yf:List (Str×V)}
theorem qH(hok:iI P w H h)(e:H a=some (.ins C dx fs)):∃mA,uD h a dx C mA∧(∀f,oQ (fs.lookup f) (mA f))∧PySem.Within mA (fs.map (·.1))∧fs.length≤1000∧H dx=some (.own a):=by
 obtain ⟨d,z,ne,ob,mA,n,r,q⟩:=(show dF P w H h a (.ins C dx fs) from hok a _ e);exact ⟨mA,⟨ob,n,ne⟩,r,q,z,d⟩
end
structure wO (K:PySem.W.Frag) (C:Addr):Prop where
 pg:PySem.W.plainGet K C Str.empty=true
 hd:PySem.W.hasDictIn K C=true
 po:PySem.W.plainOver K C=true
 sa:PySem.W.findIn K (.ref C) "__setattr__"=some (some (.builtin "object.__setattr__"))
theorem wO.get{K:PySem.W.Frag}{C:Addr}(c:wO K C)(f:Str):PySem.W.plainGet K C f=true:=c.pg
def kP(K:PySem.W.Frag)(C:Addr)(f:Str):Prop:=PySem.W.findIn K (.ref C) f=some none
theorem kP.QE{K:PySem.W.Frag}{C:Addr}{f:Str}(n:kP K C f):PySem.W.takerIn K C f=some none:=by
 unfold PySem.W.takerIn;rw [show PySem.W.findIn K (.ref C) f=some none from n];rfl
structure Meth (K:PySem.W.Frag) (C:Addr) (m:Str) (f:Addr):Prop where
 at_:PySem.W.findIn K (.ref C) m=some (some (.ref f))
 fn:PySem.W.isFn K (.ref f)=true
 kp:PySem.W.keepIn K (.ref f)=true
section
variable {X:Cx} {pins:List (Addr×Obj)} {σ:St} {H:Hp} {s:Shared} {a C dx:Addr} {fs:List (Str×V)} {f:Str} {v:V} {A:Around} {E:Value→Shared→Prop}
theorem BL{b:Bool}{Q:Value→Shared→Prop}(I:Inv X pins σ H s)(e:H a=some (.ins C dx fs))(c:wO X.K C)(n:kP X.K C f)(l:fs.lookup f=some v)
  (h:∀u s',Inv X pins σ H s'→RelV v u→Q u s'):wpAny (model X.prog X.w) A (getAttr (.ref a) f b) Q E s:=by
 obtain ⟨mA,O,r,_,_,_⟩:=qH I.hok e;obtain ⟨u,hu,ru⟩:=oQ.some_of (v:=v) (o:=mA f) (by rw [←l];exact r f)
 exact get_map I.iL O (c.get f) c.hd n hu (DL ru) (h u _ (I.tok _) ru)
theorem BM{m:Str}{g:Addr}{pl:Sem Bool}{Q:Value×List Value→Shared→Prop}(I:Inv X pins σ H s)(e:H a=some (.ins C dx fs))(c:wO X.K C)(k:Meth X.K C m g)(l:fs.lookup m=none)
  (h:Q (.ref g,[.ref a]) s):wpAny (model X.prog X.w) A (getMethod (.ref a) m pl) Q E s:=by
 obtain ⟨mA,O,r,_,_,_⟩:=qH I.hok e;have hn:mA m=none:=oQ.none_of (by rw [←l];exact r m)
 exact Gx I.iL O (c.get m) k.at_ k.fn hn h
theorem Cy{y:V}{u:Value}{Q:Unit→Shared→Prop}(I:Inv X pins σ H s)(e:H a=some (.ins C dx fs))(c:wO X.K C)(n:kP X.K C f)(hl:fs.length<1000)(ry:RelV y u)
  (h:∀s',Inv X pins σ (upd H a (.ins C dx (iG f y fs))) s'→Q () s'):wpAny (model X.prog X.w) A (setAttr (.ref a) f u) Q E s:=by
 obtain ⟨mA,O,r,wi,_,ho⟩:=qH I.hok e;have hz:(fs.map (·.1)).length≤sizeLine:=by rw [aI,sizeLine_eq];omega
 refine Ku I.iL O c.sa c.po n.QE c.hd wi hz λh' O' sb=>h _ ?_;have hd:∃o,h'.get? dx=some o:=let ⟨o,_,_,e',_⟩:=O'.ns;⟨o,e'⟩;refine I.write (x:=a) (e:=dx) (by rw [e];exact True.intro) (.inr ho) (λb q hb z=>(sb.2 b hb).trans z) hd ?_
 refine ⟨by rw [aG O.ne];exact ho,?_,O.ne,O'.obj,_,O'.ns,λg=>?_,λg hg=>?_⟩
 ·have:=qL f y fs;omega
 ·show oQ ((iG f y fs).lookup g) (if g=f then some u else mA g)
  rw [qO]
  by_cases q:g=f
  ·rw [if_pos q,if_pos q];exact ry
  ·rw [if_neg q,if_neg q];exact r g
 ·by_cases q:g=f
  ·rw [q];exact (pR f y fs).1
  ·refine (pR f y fs).2 g (wi g λz=>hg ?_)
   show (if g=f then some u else mA g)=none;rw [if_neg q];exact z
theorem Inv.made(I:Inv X pins σ H s):Inv X pins σ (upd (upd H s.heap.objs.size (.own (s.heap.objs.size+1))) (s.heap.objs.size+1) (.ins C s.heap.objs.size []))
  {s with heap:=(s.heap.push PySem.W.emptyDict).push (PySem.W.instObj C s.heap.objs.size)}:=by
 have e1:(s.heap.push PySem.W.emptyDict).get? s.heap.objs.size=some PySem.W.emptyDict:=Heap.get?_push_size s.heap rfl
 have e2:((s.heap.push PySem.W.emptyDict).push (PySem.W.instObj C s.heap.objs.size)).get? (s.heap.objs.size+1)=some (PySem.W.instObj C s.heap.objs.size):=by
  have:=Heap.get?_push_size (s.heap.push PySem.W.emptyDict) (o:=PySem.W.instObj C s.heap.objs.size) rfl
  rwa [Heap.size_push] at this
 have e3:(s.heap.push PySem.W.emptyDict).Ns s.heap.objs.size (λ_=>none):=⟨PySem.W.emptyDict, #[],_,e1,rfl,(λe he=>absurd he (by simp)),λ_=>rfl⟩
 have I1:=I.laid (a:=s.heap.objs.size) (o:= .own (s.heap.objs.size+1)) (h':=s.heap.push PySem.W.emptyDict) (t':=s.toks) (λb u q=>Heap.get?_push_of_some _ q) (bC _) ⟨_,e1⟩;refine I1.laid (a:=s.heap.objs.size+1) (o:= .ins C s.heap.objs.size []) (t':=s.toks) (λb u q=>Heap.get?_push_of_some _ q) (Nat.le_of_eq (Heap.size_push _ _)) ?_;have ne:s.heap.objs.size≠s.heap.objs.size+1:=bV (wy _);refine ⟨by rw [aG ne,aC],cH _,ne,e2,λ_=>none,(Heap.Ns1.of_empty e3).at λo q=>Heap.get?_push_of_some _ q,λ_=>True.intro,λy hy=>absurd rfl hy⟩
theorem HX{prog:Program}{w:World}{env:Env}{e:Expr}{f:Str}{pos:Pos}{s:Shared}{Q:Value→Shared→Prop}(hb:attributeBase e f env (eval e env)=eval e env)
  (h:wpAny (model prog w) A (eval e env) (λo s₁=>wpAny (model prog w) A (getAttr o f true) Q E s₁) E s):wpAny (model prog w) A (eval (.Attribute e f pos) env) Q E s:=
 Attribute_any_ h (by rw [arm_eval_Attribute,hb])
end
def Wj(K:PySem.W.Frag)(ta:TE)(f:Str):TE:=λσ H Q=>ta σ H λx H1=>∃a C dx fs v,x= .ref a∧H1 a=some (.ins C dx fs)∧wO K C∧kP K C f∧fs.lookup f=some v∧Q v H1
def VL(K:PySem.W.Frag)(ta tv:TE)(f:Str):TS:=λD σ H=>tv σ H λy H1=>ta σ H1 λx H2=>∃a C dx fs,x= .ref a∧H2 a=some (.ins C dx fs)∧wO K C∧kP K C f∧fs.length<1000∧
 D.nx σ (upd H2 a (.ins C dx (iG f y fs)))
section
variable {X:Cx} {o e value:Expr} {f:Str} {pos pos' aak:Pos} {ta tv:TE}
theorem Mp(he:PE X e ta)(hb:attributeBase e f X.env (eval e X.env)=eval e X.env):PE X (.Attribute e f pos) (Wj X.K ta f):=by
 intro pins s σ H Q I h;refine HX hb (thn (he pins s σ H _ I h) λu s1 ⟨x,H1,I1,rx,a,C,dx,fs,v,ex,ea,c,n,l,q⟩=>?_);subst ex;obtain rfl:u=Value.ref a:=rx;exact BL I1 ea c n l λu' s2 I2 ru=>⟨v,H1,I2,ru,q⟩
theorem Mx(ha:PE X o ta)(hv:PE X value tv)(hs:swapsWith value (some (.Attribute o f pos')) pos.line X.env=pure false):PS X (.Assign [.Attribute o f pos'] value pos) (VL X.K ta tv f):=by
 intro pins s σ H D I h;refine plainObj_wpAny_Assign_Attribute (thn (hv pins s σ H _ I h) λu s1 ⟨y,H1,I1,ry,q⟩=>thn (ha pins s1 σ H1 _ I1 q) λov s2 ⟨x,H2,I2,rx,a,C,dx,fs,ex,ea,c,n,l,q2⟩=>?_) hs;subst ex;obtain rfl:ov=Value.ref a:=rx;exact Cy I2 ea c n l ry λs3 I3=>⟨σ,_,I3,q2⟩
end
section
variable {X:Cx} {pins:List (Addr×Obj)} {σ:St} {H:Hp} {s:Shared} {A:Around} {E:Value→Shared→Prop} {Q:Value→Shared→Prop} {c:Value} {b:Bool}
inductive jv (K:PySem.W.Frag) (H:Hp):V→Value→Prop where
 |bo:jv K H .bo (.type "NoneType")
 |bl (x:Bool):jv K H (.bl x) (.type "bool")
 |int (i:Int):jv K H (.int i) (.type "int")
 |str (x:Str):jv K H (.str x) (.type "str")
 |Dx (x:UInt64):jv K H (.Dx x) (.type "float")
 |lst {a:Addr} {xs:List V} (e:H a=some (.lst xs)):jv K H (.ref a) (.type "list")
 |qA {a:Addr} {o:Obj} {xs:List V} (e:H a=some (.qA o (.lst xs))):jv K H (.ref a) (.type "list")
 |tup {a:Addr} {xs:List V} (e:H a=some (.tup xs)):jv K H (.ref a) (.type "tuple")
 |dK {a:Addr} {eE:List (Key×V)} (e:H a=some (.dK eE)):jv K H (.ref a) (.type "dict")
 |dT {a:Addr} {eE:List (List Key×V)} (e:H a=some (.dT eE)):jv K H (.ref a) (.type "dict")
 |ins {a C dx:Addr} {fs:List (Str×V)} (e:H a=some (.ins C dx fs)) (cl:wO K C) (ha:PySem.W.findIn K (.ref C) "__class__"=some (some (.builtin "object.__class__")))
   (hn:PySem.W.specialIn K (.builtin "object.__class__") "__get__"=some (some (.builtin "getset_descriptor.__get__"))) (TC:PySem.W.takesIn K (.builtin "object.__class__")=some true)
   (hm:PySem.W.mroIn K C (.type "object")=some true):jv K H (.ref a) (.ref C)
theorem D7{x:V}{u t:Value}(I:Inv X pins σ H s)(rx:RelV x u)(ty:jv X.K H x t)(e:PySem.W.kitOne X.K t c=some b)(h:∀tk,Q (.bool b) {s with toks:=tk}):
  wpAny (model X.prog X.w) A (call (.builtin "isinstance") [u,c]) Q E s:=by
 cases ty with
 |bo=>cases (show u=Value.none from rx);exact PySem.W.kia_one PySem.W.kitx_none I.iL True.intro e (λz=>nomatch z) h
 |bl y=>cases (show u=Value.bool y from rx);exact PySem.W.kia_one PySem.W.kitx_bool I.iL True.intro e (λz=>nomatch z) h
 |int i=>obtain ⟨t,q⟩:=(show ∃t,u=Value.int i t from rx);cases q;exact PySem.W.kia_one PySem.W.kitx_int I.iL True.intro e (λz=>nomatch z) h
 |str y=>obtain ⟨t,q⟩:=(show ∃t,u=Value.str y t from rx);cases q;exact PySem.W.kia_one PySem.W.kitx_str I.iL True.intro e (λz=>nomatch z) h
 |Dx y=>obtain ⟨t,q⟩:=(show ∃t,u=Value.float y t from rx);cases q;exact PySem.W.kia_one PySem.W.kitx_float I.iL True.intro e (λz=>nomatch z) h
 | @lst a xs ea=>
  cases (show u=Value.ref a from rx);obtain ⟨_,_,n,_,h1⟩:=(show dF X.prog X.w H s.heap a (.lst xs) from I.hok a _ ea);exact PySem.W.kia_one PySem.W.kitx_list I.iL ⟨_,h1,rfl⟩ e (λz=>nomatch z) h
 | @qA a ob xs ea=>
  cases (show u=Value.ref a from rx);obtain ⟨_,_,_,n,_,h1⟩:=(show dF X.prog X.w H s.heap a (.qA ob (.lst xs)) from I.hok a _ ea);exact PySem.W.kia_one PySem.W.kitx_list I.iL ⟨_,h1,rfl⟩ e (λz=>nomatch z) h
 | @tup a xs ea=>
  cases (show u=Value.ref a from rx);obtain ⟨_,_,_,p⟩:=(show dF X.prog X.w H s.heap a (.tup xs) from I.hok a _ ea);obtain ⟨o,h1,h2,_⟩:=p;exact PySem.W.kia_one PySem.W.kitx_tuple I.iL ⟨o,h1,h2⟩ e (λz=>nomatch z) h
 | @dK a eE ea=>
  cases (show u=Value.ref a from rx);obtain ⟨_,_,vs,_,p⟩:=(show dF X.prog X.w H s.heap a (.dK eE) from I.hok a _ ea);obtain ⟨o,es,ep,h1,h2,_⟩:=p;exact PySem.W.kia_one PySem.W.kitx_dict I.iL ⟨o,h1,h2.1⟩ e (λz=>nomatch z) h
 | @dT a eE ea=>
  cases (show u=Value.ref a from rx);obtain ⟨_,_,xs,_,o,es,ep,h1,h2,_⟩:=(show dF X.prog X.w H s.heap a (.dT eE) from I.hok a _ ea);exact PySem.W.kia_one PySem.W.kitx_dict I.iL ⟨o,h1,h2.1⟩ e (λz=>nomatch z) h
 | @ins a C dx fs ea cl ha hn TC hm=>
  cases (show u=Value.ref a from rx);obtain ⟨mA,O,_⟩:=qH I.hok ea;obtain ⟨od,J,_⟩:=O.look;exact PySem.W.kia_one (PySem.W.kitx_own (cl.get _) cl.hd ha hn TC hm) I.iL J e (λz=>nomatch z) h
end
structure dr (k:Nat) (A:Around):Prop where
 hd:A.handled=none
 dp:A.depth+3*k+5<recursionLimit
 un:A.units+16*k+200<cLine
theorem dr.mono{j k:Nat}{A:Around}(r:dr k A)(h:j≤k):dr j A:=⟨r.hd,by have:=r.dp;omega,by have:=r.un;omega⟩
theorem dr.deeper{k:Nat}{A:Around}(r:dr (k+1) A)(env:Env):dr k (A.deeper env):=
 ⟨r.hd,by have:=r.dp;show A.depth+1+3*k+5<_;omega,by have:=r.un;show A.units+3+16*k+200<_;omega⟩
theorem B7{A:Around}{C:Addr}{us:List Value}{kw:List (Str×Value)}:(A.under (.builtin "type.__call__" ⟨.ref C::us,kw⟩)).depth=A.depth+1:=by
 first|rfl|simp [Around.under,Code.weight,Code.isCreation,Code.isGuard,Code.isCaller,Code.frames,Code.isFrame,guardIds]
theorem B8{A:Around}{C:Addr}{us:List Value}{kw:List (Str×Value)}:(A.under (.builtin "type.__call__" ⟨.ref C::us,kw⟩)).units=A.units+1:=by
 first|rfl|simp [Around.under,Code.cUnits,Code.frames,Code.isFrame]
theorem dr.make{k:Nat}{A:Around}(r:dr (k+1) A)(C:Addr)(us:List Value)(kw:List (Str×Value)):dr k (A.under (.builtin "type.__call__" ⟨.ref C::us,kw⟩)):=
 ⟨r.hd,by have:=r.dp;rw [B7];omega,by have:=r.un;rw [B8];omega⟩
theorem dr.depth{k:Nat}{A:Around}(r:dr k A):A.depth<recursionLimit:=by have:=r.dp;omega
theorem dr.units{k:Nat}{A:Around}(r:dr k A):A.units+64<cLine:=by have:=r.un;omega
def NZ:TA:=λ_ H Q=>Q [] H
def Qy(ta:TE)(tr:TA):TA:=λσ H Q=>ta σ H λx H1=>tr σ H1 λxs H2=>Q (x::xs) H2
section
variable {X:Cx} {e:Expr} {es:List Expr} {te:TE} {t:TA} {pos:Pos}
theorem lu:PA X [] NZ:=λ_ _ _ _ H Q I h=>Calls.spliced_nil ⟨[],H,I, .nil,h⟩
theorem gE(ha:PE X e te)(hr:PA X es t)(hs:starEach (e::es) X.env=(false,eval e X.env)::starEach es X.env:=by rfl):PA X (e::es) (Qy te t):=by
 intro pos pins s σ H Q I h;rw [hs];show wpAny _ _ (spliced ((false,eval e X.env)::backTo pos (starEach es X.env))) _ _ s;refine Calls.spliced_cons (thn (ha pins s σ H _ I h) λu s1 ⟨x,H1,I1,r1,q1⟩=>?_);exact thn (hr pos pins s1 σ H1 _ I1 q1) λus s2 ⟨xs,H2,I2,r2,q2⟩=>⟨x::xs,H2,I2, .cons r1 r2,q2⟩
def Wr(t:TA):TE:=λσ H Q=>t σ H λxs H1=>xs.length≤sizeLine∧∀p,H1 p=none→Q (.ref p) (upd H1 p (.tup xs))
def Wm(t:TA):TE:=λσ H Q=>t σ H λxs H1=>xs.length≤sizeLine∧∀p,H1 p=none→Q (.ref p) (upd H1 p (.lst xs))
theorem Mw{x1}(h:PA X es t):PE X (.Tuple es x1 pos) (Wr t):=by
 intro pins s σ H Q I hq;refine wpAny_Tuple_spliced (thn (h pos pins s σ H _ I hq) λus s1 ⟨xs,H1,I1,r,z,q⟩=>⟨by rw [←r.length];exact z,?_⟩)
 have hf:H1 s1.heap.objs.size=none:=I1.hok.fresh (bC _);refine ⟨.ref s1.heap.objs.size,upd H1 s1.heap.objs.size (.tup xs),I1.laid (t':=s1.toks) (λb u e=>Heap.get?_push_of_some _ e) (bC _) ?_,rfl,q _ hf⟩;exact ⟨z,us,r,⟨_,Heap.get?_push_size _ rfl,rfl,_,rfl⟩⟩
theorem FL(h:PA X es t):PE X (.List es pos) (Wm t):=by
 intro pins s σ H Q I hq;refine wpAny_List_spliced (thn (h pos pins s σ H _ I hq) λus s1 ⟨xs,H1,I1,r,z,q⟩=>⟨by rw [←r.length];exact z,?_⟩)
 have hf:H1 s1.heap.objs.size=none:=I1.hok.fresh (bC _);refine ⟨.ref s1.heap.objs.size,upd H1 s1.heap.objs.size (.lst xs),I1.laid (t':=s1.toks) (λb u e=>Heap.get?_push_of_some _ e) (bC _) ?_,rfl,q _ hf⟩;exact ⟨z,us,0,r,Heap.get?_push_size _ rfl⟩
end
abbrev Sp:=List V→Hp→VK→XK→Prop
abbrev rJ:=List Env→Hp→Shared→XK→Value→Shared→Prop
structure Env0 (P:Program) (w:World) (K:PySem.W.Frag) (mg:Str→Option Value) (base:Heap) (A:Around) (outer:List Env) (s:Shared) (H:Hp):Prop where
 frames:A.frames=some outer
 mod:Mod K mg base
 bs:∀b o,base.get? b=some o→s.heap.get? b=some o∧H b=none
 bsz:base.objs.size≤s.heap.objs.size
 funs:s.heap.FunFrames base outer
 frf:∀b∈uX outer,H b=none
 hok:iI P w H s.heap
 bare:AllBare s.gens
def CE(outer:List Env)(P:Program)(w:World)(H:Hp)(s:Shared)(Q:VK)(u:Value)(s':Shared):Prop:=
 ∃v H',s'.os=s.os∧AllBare s'.gens∧Un (uX outer) [] H H' s.heap s'.heap∧iI P w H' s'.heap∧RelV v u∧Q v H'
def CR(CX:rJ)(outer:List Env)(P:Program)(w:World)(H:Hp)(s:Shared)(Q:VK)(E:XK)(r:Result)(s':Shared):Prop:=
 match r with
 | .ok (.ret u)=>CE outer P w H s Q u s'
 | .ok _=>False
 | .error e=>CX outer H s E e s'
structure FnOk (P:Program) (w:World) (K:PySem.W.Frag) (mg:Str→Option Value) (base:Heap) (CX:rJ) (k:Nat) (f:Addr) (fd:FuncData) (ps:List Str) (sp:Sp):Prop where
 len:∀vs H Q E,sp vs H Q E→vs.length=ps.length
 run:∀(A:Around)(outer:List Env)(s:Shared)(H:Hp)(args:Args)(us:List Value)(vs:List V)(Q:VK)(E:XK),dr k A→Env0 P w K mg base A outer s H→BindsTo s fd args (ps.zip us)→Vals vs us→sp vs H Q E→
  codeAny (model P w) A (.call (.ref f) args) (CR CX outer P w H s Q E) s
theorem FnOk.mono{P:Program}{w:World}{K:PySem.W.Frag}{mg:Str→Option Value}{base:Heap}{CX:rJ}{j k:Nat}{f:Addr}{fd:FuncData}{ps:List Str}{sp:Sp}(F:FnOk P w K mg base CX j f fd ps sp)(h:j≤k):
  FnOk P w K mg base CX k f fd ps sp:=⟨F.len,λA outer s H args us vs Q E hr=>F.run A outer s H args us vs Q E (hr.mono h)⟩
theorem FnOk.imp{P:Program}{w:World}{K:PySem.W.Frag}{mg:Str→Option Value}{base:Heap}{CX:rJ}{k:Nat}{f:Addr}{fd:FuncData}{ps:List Str}{sp V6:Sp}(F:FnOk P w K mg base CX k f fd ps sp)
  (h:∀vs H Q E,V6 vs H Q E→sp vs H Q E):FnOk P w K mg base CX k f fd ps V6:=
 ⟨λvs H Q E q=>F.len vs H Q E (h _ _ _ _ q),λA outer s H args us vs Q E hr he hb hv hs=>F.run A outer s H args us vs Q E hr he hb hv (h _ _ _ _ hs)⟩
theorem Env0.make{P:Program}{w:World}{K:PySem.W.Frag}{mg:Str→Option Value}{base:Heap}{A:Around}{outer:List Env}{s:Shared}{H:Hp}(e:Env0 P w K mg base A outer s H)(C:Addr)(us:List Value)(kw:List (Str×Value)):
  Env0 P w K mg base (A.under (.builtin "type.__call__" ⟨.ref C::us,kw⟩)) outer s H:=⟨by first|exact e.frames| (simpa [Around.under,Code.envs,Code.isFrame,pushEnvs] using e.frames),e.mod,e.bs,e.bsz,e.funs,e.frf,e.hok,e.bare⟩
section
variable {X:Cx} {pins:List (Addr×Obj)} {σ:St} {H:Hp} {s s':Shared}
theorem Inv.Ny(I:Inv X pins σ H s):Env0 X.prog X.w X.K X.mg X.base X.A X.stack s H:=
 ⟨I.ok.frames,I.ok.mod,I.bs,kM I.ok.bsz I.sz,I.stack,I.CK,I.hok,I.bare⟩
theorem Inv.after{Q:VK}{u:Value}(I:Inv X pins σ H s)(h:CE X.stack X.prog X.w H s Q u s'):EP X pins σ Q u s':=by
 obtain ⟨v,H',os,bare,un,hok,r,q⟩:=h;obtain ⟨hh,g,d,t,Qa⟩:=s';obtain rfl:Qa=s.os:=os;exact ⟨v,H',I.call (h':=hh) (g':=g) (d':=d) (t':=t) (ch:= []) un hok bare (λb z=>absurd z (by simp)),r,q⟩
end
def Qx(sp:Sp)(bB:List V)(E:XK)(t:TA):TE:=λσ H Q=>t σ H λvs H1=>sp (vs++bB) H1 Q E
def KO(C:Addr)(m:Str)(sp:Sp)(bB:List V)(E:XK)(ta:TE)(t:TA):TE:=λσ H Q=>ta σ H λx H1=>∃a dx fs,x= .ref a∧H1 a=some (.ins C dx fs)∧fs.lookup m=none∧
 t σ H1 λvs H2=>sp (x::(vs++bB)) H2 Q E
def QA(C:Addr)(sp:Sp)(bB:List V)(E:XK)(t:TA):TE:=λσ H Q=>t σ H λvs H1=>∀x dx,H1 x=none→H1 dx=none→dx≠x→
 sp (.ref x::(vs++bB)) (upd (upd H1 dx (.own x)) x (.ins C dx [])) (λv H2=>v= .bo∧Q (.ref x) H2) E
def Binds(K:PySem.W.Frag)(fd:FuncData)(ps:List Str)(ds:List Value):Prop:=
 ∀(s:Shared)(us:List Value),K.In s.heap→(us++ds).length=ps.length→BindsTo s fd ⟨us,[]⟩ (ps.zip (us++ds))
theorem Binds.all{K:PySem.W.Frag}{fd:FuncData}{ps:List Str}(h:∀us:List Value,us.length=ps.length→bindArgs fd ⟨us,[]⟩=pure (ps.zip us)):Binds K fd ps []:=λs us _ hl=>by
 rw [jO] at hl ⊢;exact .of_eq (h us hl)
def Passes(CX:rJ)(X:Cx)(E:XK):Prop:=∀(pins:List (Addr×Obj))(σ:St)(H:Hp)(s:Shared)(e:Value)(s':Shared),Inv X pins σ H s→CX X.stack H s E e s'→X.xe e s'
section
variable {X:Cx} {CX:rJ} {k:Nat} {f C:Addr} {fd:FuncData} {ps:List Str} {sp:Sp} {bB:List V} {ds:List Value} {E:XK} {x m:Str} {p pos apos:Pos} {e o:Expr} {es:List Expr} {ta:TE} {t:TA}
theorem FZ{pins:List (Addr×Obj)}{σ:St}{H:Hp}{s:Shared}{Q:VK}{us:List Value}{vs:List V}(F:FnOk X.prog X.w X.K X.mg X.base CX k f fd ps sp)(hr:dr k X.A)(hb:Binds X.K fd ps ds)(hd:Vals bB ds)(hx:Passes CX X E)
  (I:Inv X pins σ H s) (r:Vals vs us) (h:sp (vs++bB) H Q E):wpAny (model X.prog X.w) X.A (call (.ref f) us) (EP X pins σ Q) X.xe s:=by
 have r2:Vals (vs++bB) (us++ds):=r.append hd;have hl:(us++ds).length=ps.length:=by rw [←r2.length];exact F.len _ _ _ _ h
 refine wpAny_call (codeAny_mono (F.run X.A X.stack s H ⟨us,[]⟩ (us++ds) (vs++bB) Q E hr I.Ny (hb s us I.iL hl) r2 h) λr s' hq=>?_);cases r with
 |error e=>exact hx pins σ H s e s' I hq
 |ok fl=>
  cases fl with
  |ret u=>exact I.after hq
  |next=>exact False.elim hq
  |brk=>exact False.elim hq
  |cont=>exact False.elim hq
theorem JX(F:FnOk X.prog X.w X.K X.mg X.base CX k f fd ps sp)(hr:dr k X.A)(hg:Gl X x)(hm:X.mg x=some (.ref f))(hk:PySem.W.keepIn X.K (.ref f)=true)(hb:Binds X.K fd ps ds)(hd:Vals bB ds)(hx:Passes CX X E)
  (ha:PA X (e::es) t) (m6:(x==("__debug__":Str))=false:=by decide) (he:starEach (e::es) X.env=(false,eval e X.env)::starEach es X.env:=by rfl) (gn:(backTo pos (starEach es X.env)).any (·.1)=false:=by rfl):
  PE X (.Call (.Name x p) (e::es) [] pos) (Qx sp bB E t):=by
 intro pins s σ H Q I h;refine wpAny_Call_Name_kw (vg I hg hm ?_ m6);refine PySem.W.callWith_K (h₀:=X.base) I.ok.mod.kin hk (thn (ha pos pins s σ H _ I h) λus s1 ⟨vs,H1,I1,r,q⟩=>⟨I1.iL,?_⟩) he gn;exact FZ F hr hb hd hx I1 r q
theorem Hf{pl:Sem Bool}(he:PE X o ta)(c:wO X.K C)(hm:Meth X.K C m f)(F:FnOk X.prog X.w X.K X.mg X.base CX k f fd ps sp)(hr:dr k X.A)(hb:Binds X.K fd ps ds)(hd:Vals bB ds)(hx:Passes CX X E)
  (ht:eval (.Call (.Attribute o m apos) [] [] pos) X.env=(do
   let ov ←eval o X.env
   standAt apos.atName
   let (f,first) ←holding [ov] (getMethod ov m pl)
   callWith pos f first (backTo pos (starEach [] X.env)) (backToKw pos (keywordEach [] X.env))):=by rfl):
  PE X (.Call (.Attribute o m apos) [] [] pos) (KO C m sp bB E ta NZ):=by
 intro pins s σ H Q I h;refine PySem.W.methodCall_KW (pl:=pl) (thn (he pins s σ H _ I h) λu s1 ⟨x,H1,I1,rx,a,dx,fs,ex,ea,l,q⟩=>?_) ht;subst ex;obtain rfl:u=Value.ref a:=rx;refine BM I1 ea c hm l ?_;exact PySem.W.callWith_K0 (first:= [.ref a]) I1.iL hm.kp (FZ (us:= [.ref a]) (vs:= [.ref a]) F hr hb hd hx I1 (.cons rfl .nil) q)
structure Mk (K:PySem.W.Frag) (C f:Addr):Prop where
 makes:PySem.W.makesIn K C=true
 init:PySem.W.findIn K (.ref C) "__init__"=some (some (.ref f))
 fn:PySem.W.isFn K (.ref f)=true
 kp:PySem.W.keepIn K (.ref C)=true
theorem Hm{pins:List (Addr×Obj)}{σ:St}{H:Hp}{s:Shared}{Q:VK}{us:List Value}{vs:List V}(M:Mk X.K C f)(F:FnOk X.prog X.w X.K X.mg X.base CX k f fd ps sp)(hr:dr (k+1) X.A)(hb:Binds X.K fd ps ds)(hd:Vals bB ds)
  (hx:Passes CX X E) (I:Inv X pins σ H s) (r:Vals vs us)
  (h:∀x dx,H x=none→H dx=none→dx≠x→sp (.ref x::(vs++bB)) (upd (upd H dx (.own x)) x (.ins C dx [])) (λv H2=>v= .bo∧Q (.ref x) H2) E):
  wpAny (model X.prog X.w) X.A (call (.ref C) us) (EP X pins σ Q) X.xe s:=by
 have hq:=h (s.heap.objs.size+1) s.heap.objs.size (I.hok.fresh (nU _)) (I.hok.fresh (bC _)) (bV (wy _));have I2:=Inv.made (C:=C) I;have r2:Vals (V.ref (s.heap.objs.size+1)::(vs++bB)) (Value.ref (s.heap.objs.size+1)::(us++ds)):= .cons rfl (r.append hd)
 have hl:(Value.ref (s.heap.objs.size+1)::us++ds).length=ps.length:=by
  have e:=r2.length;rw [F.len _ _ _ _ hq] at e;exact e.symm
 refine wpAny_call (GZ (f:=f) I.iL M.makes M.init (beq_iff_eq.mp M.fn) (codeAny_mono (F.run _ X.stack _ _ ⟨Value.ref (s.heap.objs.size+1)::us,[]⟩ (Value.ref (s.heap.objs.size+1)::(us++ds)) _ _ E (hr.make C us [])
  (I2.Ny.make C us []) (hb _ (Value.ref (s.heap.objs.size+1)::us) I2.iL hl) r2 hq) λr s' Jl=>?_))
 cases r with
 |error e=>exact hx pins σ _ _ e s' I2 Jl
 |ok fl=>
  cases fl with
  |ret u=>
   obtain ⟨v,H',I3,rv,ev,q3⟩:=I2.after Jl;subst ev;exact ⟨rv,⟨V.ref (s.heap.objs.size+1),H',I3,rfl,q3⟩⟩
  |next=>exact False.elim Jl
  |brk=>exact False.elim Jl
  |cont=>exact False.elim Jl
theorem J2(M:Mk X.K C f)(F:FnOk X.prog X.w X.K X.mg X.base CX k f fd ps sp)(hr:dr (k+1) X.A)(hg:Gl X x)(hm:X.mg x=some (.ref C))(hb:Binds X.K fd ps ds)(hd:Vals bB ds)(hx:Passes CX X E)
  (ha:PA X (e::es) t) (m6:(x==("__debug__":Str))=false:=by decide) (he:starEach (e::es) X.env=(false,eval e X.env)::starEach es X.env:=by rfl) (gn:(backTo pos (starEach es X.env)).any (·.1)=false:=by rfl):
  PE X (.Call (.Name x p) (e::es) [] pos) (QA C sp bB E t):=by
 intro pins s σ H Q I h;refine wpAny_Call_Name_kw (vg I hg hm ?_ m6);refine PySem.W.callWith_K (h₀:=X.base) I.ok.mod.kin M.kp (thn (ha pos pins s σ H _ I h) λus s1 ⟨vs,H1,I1,r,q⟩=>⟨I1.iL,?_⟩) he gn;exact Hm M F hr hb hd hx I1 r q
end
section
variable {X:Cx} {CX:rJ} {k:Nat} {f C:Addr} {fd:FuncData} {ps ks:List Str} {sp:Sp} {E:XK} {x m:Str} {p pos apos aaj:Pos} {e o:Expr} {es:List Expr} {kws:List Keyword} {te ta:TE} {t tk:TA} {nm:Option Str}
variable {g:List Value→List Value→List Value} {gV:List V→List V→List V}
end
structure aJ (N P:List Str) (sc:Scope):Prop where
 kind:sc.kind= .function
 co:sc.isCoroutine=false
 gen:sc.isGenerator=false
 nd:N.Nodup
 pre:N.take P.length=P
 par:∀x∈P,sc.names.lookup x=some .local∨sc.names.lookup x=some .cell
 nofree:∀y∈sc.names,y.2≠ .free
theorem uJ{kindOf:Str→Option NameKind}{x:Str}:∀{binds:List (Str×Value)}{m:Str→Option Value},(∀v,(x,v)∉binds)→bindL kindOf binds m x=m x
 | [],_,_=>rfl
 | (n,v)::r,m,h=>by
  unfold bindL;rw [uJ λw hw=>h w (cM _ hw)]
  split
  ·have:x≠n:=by rintro rfl;exact h v cD
   simp [this]
  ·rfl
theorem uH{kindOf:Str→Option NameKind}{x:Str}:∀{binds:List (Str×Value)}{m:Str→Option Value},(∀v,(x,v)∉binds)→bindC kindOf binds m x=m x
 | [],_,_=>rfl
 | (n,v)::r,m,h=>by
  unfold bindC;rw [uH λw hw=>h w (cM _ hw)]
  split
  ·rfl
  ·have:x≠n:=by rintro rfl;exact h v cD
   simp [this]
theorem uI{kindOf:Str→Option NameKind}{x:Str}{v:Value}:∀{P:List Str}{vs:List Value}{i:Nat}{m:Str→Option Value},P.Nodup→P[i]? =some x→vs[i]? =some v→kindOf x=some .local→
  bindL kindOf (P.zip vs) m x=some v
 | [],_,_,_,_,h,_,_=>by simp at h
 |_::_,[],_,_,_,_,h,_=>by simp at h
 |p::P,w::vs,0,m,nd,h1,h2,hk=>by
  simp at h1 h2;subst h1;subst h2;show bindL kindOf ((p,w)::P.zip vs) m p=_;unfold bindL;rw [uJ λv hv=>(gS.mp nd).1 (List.of_mem_zip hv).1,if_pos hk];simp
 |p::P,w::vs,i+1,m,nd,h1,h2,hk=>by
  show bindL kindOf ((p,w)::P.zip vs) m x=_;unfold bindL;exact uI (i:=i) (gS.mp nd).2 (by simpa using h1) (by simpa using h2) hk
theorem uG{kindOf:Str→Option NameKind}{x:Str}{v:Value}:∀{P:List Str}{vs:List Value}{i:Nat}{m:Str→Option Value},P.Nodup→P[i]? =some x→vs[i]? =some v→kindOf x≠some .local→
  bindC kindOf (P.zip vs) m x=some v
 | [],_,_,_,_,h,_,_=>by simp at h
 |_::_,[],_,_,_,_,h,_=>by simp at h
 |p::P,w::vs,0,m,nd,h1,h2,hk=>by
  simp at h1 h2;subst h1;subst h2;show bindC kindOf ((p,w)::P.zip vs) m p=_;unfold bindC;rw [uH λv hv=>(gS.mp nd).1 (List.of_mem_zip hv).1,if_neg hk];simp
 |p::P,w::vs,i+1,m,nd,h1,h2,hk=>by
  show bindC kindOf ((p,w)::P.zip vs) m x=_;unfold bindC;exact uG (i:=i) (gS.mp nd).2 (by simpa using h1) (by simpa using h2) hk
def start(N:List Str)(vs:List V):St:=vs.map some++List.replicate (N.length-vs.length) none
def tw(CX:rJ)(P:Program)(w:World)(K:PySem.W.Frag)(mg:Str→Option Value)(base:Heap)(N:List Str)(qual:Str)(scope:Scope)(f:Addr)(cd:Value)(A:Around)(outer:List Env)(s:Shared)(H:Hp)(E:XK):Cx where
 prog:=P
 w:=w
 K:=K
 mg:=mg
 base:=base
 A:=A.deeper (envOfC qual scope s.heap.objs.size f cd)
 N:=N
 s₀:=s
 H₀:=H
 env:=envOfC qual scope s.heap.objs.size f cd
 outer:=outer
 stack:=envOfC qual scope s.heap.objs.size f cd::outer
 ex:= []
 calm:=true
 fn:=λ_=>true
 pn:= []
 xe:=λe s'=>wpAny (model P w) (A.deeper (envOfC qual scope s.heap.objs.size f cd)) (leaving (envOfC qual scope s.heap.objs.size f cd) e) (λ_ Qq=>CX outer H s E e Qq) (λe' Qq=>CX outer H s E e' Qq) s'
theorem xp{sc:Scope}{n:Nat}{x:Str}(h:sc.names.lookup x=some .cell):∃c,(cellsFrom n sc.names []).lookup x=some c:=by
 have q:=PySem.W.cellsFrom_some sc.names n [] (.inl h);exact Option.isSome_iff_exists.mp q
theorem D5{CX:rJ}{P:Program}{w:World}{K:PySem.W.Frag}{mg:Str→Option Value}{base:Heap}{N ps:List Str}{qual:Str}{scope:Scope}{f:Addr}{cd:Value}{A:Around}{outer:List Env}{s s1:Shared}{H:Hp}{E:XK}{us:List Value}{vs:List V}
  (S:aJ N ps scope) (hd:A.handled=none) (e0:Env0 P w K mg base A outer s H) (hl:vs.length=ps.length) (r:Vals vs us)
  (x:InCallC s s.heap.objs.size (bindL (envOfC qual scope s.heap.objs.size f cd).kindOf (ps.zip us) λ_=>none) (cellsFrom (s.heap.objs.size+1) scope.names []) (bindC (envOfC qual scope s.heap.objs.size f cd).kindOf (ps.zip us) λ_=>none) s1):
  Inv (tw CX P w K mg base N qual scope f cd A outer s H E) [] (start N vs) H s1:=by
 have gn:ps.length≤N.length:=by have:=congrArg List.length S.pre;rw [b8] at this;omega
 obtain ⟨h1,tk,rfl,hk⟩:=x.done;have JM:∀b:Addr,b∉(tw CX P w K mg base N qual scope f cd A outer s H E).ex:=λb z=>absurd (show b∈([]:List Addr) from z) (by simp)
 refine ⟨⟨e0.mod,S.kind,rfl,rfl,bC _,λy z c h1 h2=>?_,λy hy=>?_,λy c _ h=>?_,λ_=>hd,Around.frames_deeper e0.frames, .inr ⟨rfl,rfl⟩,λb z=>absurd z (JM b),e0.bs,e0.bsz,λb _ _=>JM b,λb z=>absurd z (JM b),e0.funs,e0.frf⟩,
  rfl,e0.bare,Un.kept hk,⟨_,x.toInCall.ns,λi y v h1 h2 h3=>?_⟩,λy c h=>⟨_,x.cell y c h⟩,e0.hok.fresh (bC _),λy c h=>?_,λp hp=>absurd (show p∈([]:List (Addr×Obj)) from hp) (by simp),e0.hok.kept hk,?_⟩
 ·exact name_of_addr x.apart (PySem.mem_of_lookup h1) (PySem.mem_of_lookup h2)
 ·have hy:scope.names.lookup y=some .cell∨scope.names.lookup y=some .free:=hy
  rcases hy with hy|hy
  ·exact xp hy
  ·exact absurd rfl (S.nofree _ (PySem.mem_of_lookup hy))
 ·exact nT (x.above y c (PySem.mem_of_lookup h))
 ·have hi:i<vs.length:=by
   unfold start at h2
   by_cases hi:i<vs.length
   ·exact hi
   ·rw [f7 (by simpa using hi)] at h2
    rw [A6] at h2
    split at h2<;>cases h2
  have ha:vs[i]? =some v:=by
   unfold start at h2;rw [eI (by simpa using hi),e7] at h2
   cases e:vs[i]? with
   |none=>rw [e] at h2;cases h2
   |some a=>rw [e] at h2;cases h2;rfl
  obtain ⟨u,hu,rv⟩:=r.get ha
  have hp:ps[i]? =some y:=by
   rw [←S.pre,pk (by omega)];exact h1
  have Us:ps.Nodup:=by rw [←S.pre];exact S.nd.sublist (List.take_sublist _ _)
  refine ⟨u,rv,?_⟩
  rcases S.par y (f9 hp) with k|k
  ·exact .inl ⟨k,uI Us hp hu k⟩
  ·obtain ⟨c,e⟩:=xp (n:=s.heap.objs.size+1) k
   refine .inr ⟨.inl k,c,e,?_⟩;have q:=x.cell y c e;rw [uG Us hp hu (by show scope.names.lookup y≠_;rw [k];decide)] at q
   exact q
 ·exact e0.hok.fresh (nT (x.above y c (PySem.mem_of_lookup h)))
 ·unfold start
  show _=N.length;rw [cy,aI,y4];omega
theorem O0{CX:rJ}{P:Program}{w:World}{K:PySem.W.Frag}{mg:Str→Option Value}{base:Heap}{k:Nat}{f:Addr}{name qual:Str}{params:Arguments}{body:List Stmt}{scope:Scope}{dV kV doc pm bQ ct oc:Value}{an od:Option Addr}
  {Ce:Array (Option Value)} {N ps:List Str} {sp:Sp} (lk:K.lookup f=some ⟨oc,od, .func (PySem.W.fnOf name qual params body scope dV kV doc pm an bQ ct),Ce⟩) (gY:PySem.W.codeIn K bQ qual=true) (S:aJ N ps scope)
  (len:∀vs H Q E,sp vs H Q E→vs.length=ps.length)
  (pP:∀(A:Around)(outer:List Env)(s:Shared)(H:Hp)(vs:List V)(Q:VK)(E:XK),dr k (A.deeper (envOfC qual scope s.heap.objs.size f bQ))→sp vs H Q E→
   ∃t,mK (tw CX P w K mg base N qual scope f bQ A outer s H E) body t∧t {nx:=λ_ H'=>Q .bo H',rt:=Q} (start N vs) H):
  FnOk P w K mg base CX (k+1) f (PySem.W.fnOf name qual params body scope dV kV doc pm an bQ ct) ps sp:=by
 refine ⟨len,λA outer s H args us vs Q E hr e0 hb r BU=>?_⟩;have hl:=len _ _ _ _ BU;have KX:K.In s.heap:=e0.mod.kin.keeps λb o e=>(e0.bs b o e).1;have lim:s.heap.NoLimit:=e0.mod.nolimit.keeps λb o e=>(e0.bs b o e).1
 have Pw:∀y∈ps.zip us,scope.names.lookup y.1=some .local∨(scope.names.lookup y.1=some .cell∧((cellsFrom (s.heap.objs.size+1) scope.names []).lookup y.1).isSome=true):=λ⟨n,v⟩ hy=>by
  rcases S.par n (List.of_mem_zip hy).1 with q|q
  ·exact .inl q
  ·exact .inr ⟨q,PySem.W.cellsFrom_some _ _ _ (.inl q)⟩
 refine codeAny_call_function hr.depth (KX _ _ lk) rfl S.co S.gen rfl (PySem.W.codeRec_of KX gY) (hb _ _ _ _ ?_);refine wpAny_newFunctionEnv_cells S.kind Pw λenv he s1 x=>?_;subst he;refine ⟨lim.keeps x.toInCall.keep,codeAny_func ?_⟩;obtain ⟨t,ht,hq⟩:=pP A outer s H vs Q E (hr.deeper _) BU;have I:Inv (tw CX P w K mg base N qual scope f bQ A outer s H E) [] (start N vs) H s1:=D5 S hr.hd e0 hl r x;refine wpAny_mono (ht [] s1 (start N vs) H _ I hq) (λfl s' hs=>?_) λe s' hs=>hs
 have fin:∀{ay:St}{H':Hp}{v:V}{u:Value},Inv (tw CX P w K mg base N qual scope f bQ A outer s H E) [] ay H' s'→RelV v u→Q v H'→CE outer P w H s Q u s':=
  λ {ay H' v u} J rv q=>⟨v,H',J.os,J.bare,J.base,J.hok,rv,q⟩
 cases fl with
 |ret u=>
  obtain ⟨v,ay,H',J,rv,q⟩:=hs;exact fin J rv q
 |next=>
  obtain ⟨ay,H',J,q⟩:=hs;exact fin (v:=V.bo) (u:=Value.none) J rfl q
 |brk=>
  obtain ⟨_,_,_,q⟩:=hs;exact False.elim q
 |cont=>
  obtain ⟨_,_,_,q⟩:=hs;exact False.elim q
section
variable {X:Cx} {x:Str} {p pos:Pos} {e:Expr} {es:List Expr} {t:TA} {id T:String} {r:List V→Hp→VK→Prop}
def Wi(r:List V→Hp→VK→Prop)(t:TA):TE:=λσ H Q=>t σ H λvs H1=>r vs H1 Q
theorem yc(hc:cP X (.builtin id) r)(hg:Gl X x)(hm:X.mg x=none)(hv:bootBuiltins x=some (.builtin id))(ha:PA X (e::es) t)(hn:x≠"__name__":=by decide)(m6:(x==("__debug__":Str))=false:=by decide)
  (he:starEach (e::es) X.env=(false,eval e X.env)::starEach es X.env:=by rfl) (gn:(backTo pos (starEach es X.env)).any (·.1)=false:=by rfl):PE X (.Call (.Name x p) (e::es) [] pos) (Wi r t):=by
 intro pins s σ H Q I h;refine wpAny_Call_Name_kw (iM I hg hm hv ?_ hn m6);exact PyProof.Rows.callWith_builtin1 (thn (ha pos pins s σ H _ I h) λus s1 ⟨vs,H1,I1,r1,q1⟩=>hc pins s1 σ H1 vs us Q I1 r1 q1) he gn
theorem Ex(hc:cP X (.type T) r)(hg:Gl X x)(hm:X.mg x=none)(hv:bootBuiltins x=some (.type T))(ha:PA X (e::es) t)(hn:x≠"__name__":=by decide)(m6:(x==("__debug__":Str))=false:=by decide)
  (he:starEach (e::es) X.env=(false,eval e X.env)::starEach es X.env:=by rfl) (gn:(backTo pos (starEach es X.env)).any (·.1)=false:=by rfl):PE X (.Call (.Name x p) (e::es) [] pos) (Wi r t):=by
 intro pins s σ H Q I h;refine wpAny_Call_Name_kw (iM I hg hm hv ?_ hn m6);exact PyProof.Rows.callWith_type1 (thn (ha pos pins s σ H _ I h) λus s1 ⟨vs,H1,I1,r1,q1⟩=>hc pins s1 σ H1 vs us Q I1 r1 q1) he gn
end
end L2
namespace HT
open PySem PyProof.Rows
section
open PySem.SeqAt
open PySem.AutoSeq1 (wpAny_loadPart')
open PySem.MeetsSeq PySem.MeetsSeq2 PySem.MeetsSeq3
end
section
variable {prog:Program} {w:World} {A:Around} {E:Value→Shared→Prop} {s:Shared}
theorem Ic{t b:Addr}{vs ws:List Value}{Q:Value→Shared→Prop}(ht:IsTup s.heap t vs.toArray)(hb:IsTup s.heap b ws.toArray)(hv:vs≠ [])
  (h1:ws= []→Q (.ref t) s) (h2:ws≠ []→Q (.ref s.heap.objs.size) {s with heap:=s.heap.push {cls:= .type "tuple",data:= .seq (vs++ws).toArray}})
  (fb:vs.length+ws.length≤sizeLine):wpAny (model prog w) A (binaryOp .Add (.ref t) (.ref b)) Q E s:=by
 obtain ⟨⟨cls,dd,data,sl⟩,ho,hc,n,hd⟩:=id ht;obtain ⟨⟨aab,Ss,data2,ME⟩,BR,zD,n2,hd2⟩:=id hb;simp only at hc hd zD hd2;subst hc hd zD hd2;have e:vs.toArray++ws.toArray=(vs++ws).toArray:=by simp
 by_cases hw:ws= []
 ·exact concat_meets ⟨_,ho,rfl⟩ ⟨_,BR,rfl⟩ noFill_tuple_add seq_tuple_add PySem.F.slot_tuple_add PySem.F.entry_tuple_add (PySem.F.args_tuple_add_2 _ _)
   (tuple_addW1 t b vs.toArray ws.toArray n n2 dd Ss sl ME (by simpa using hv) (by simp [hw])) ⟨ho,BR,h1 hw⟩
 ·refine concat_meets ⟨_,ho,rfl⟩ ⟨_,BR,rfl⟩ noFill_tuple_add seq_tuple_add PySem.F.slot_tuple_add PySem.F.entry_tuple_add (PySem.F.args_tuple_add_2 _ _)
   (tuple_addW2 t b vs.toArray ws.toArray n n2 dd Ss sl ME (by simpa using hv) (by simpa using hw) (by rw [cJ,cJ];exact fb)) ⟨ho,BR,?_⟩
  rw [e];exact h2 hw
def bP(n d:Nat):Option Int→Nat
 |none=>d
 |some v=>if v<0 then (v+(n:Int)).toNat else min v.toNat n
theorem MD(n d:Nat)(hd:d≤n)(o:Option Int):bP n d o≤n:=by
 cases o with
 |none=>exact hd
 |some v=>
  show (if v<0 then (v+(n:Int)).toNat else min v.toNat n)≤n
  by_cases hv:v<0
  ·rw [if_pos hv];omega
  ·rw [if_neg hv];exact Nat.min_le_right _ _
theorem By(v:Int)(n d:Nat):(if v<0 then max (v+(n:Int)) 0 else min v (n:Int))=((bP n d (some v):Nat):Int):=by
 show (if v<0 then max (v+(n:Int)) 0 else min v (n:Int))=(((if v<0 then (v+(n:Int)).toNat else min v.toNat n):Nat):Int)
 by_cases hv:v<0
 ·simp only [if_pos hv];omega
 ·simp only [if_neg hv];omega
theorem Bm(lo hi:Option Int)(n:Nat):Builtin.Slice.sliceAdjust lo hi 1 (n:Int)=(((bP n 0 lo:Nat):Int),((bP n n hi:Nat):Int)):=by
 have h1:¬((1:Int)<0):=by omega
 unfold Builtin.Slice.sliceAdjust;simp only [h1,if_false];refine Prod.ext ?_ ?_
 ·cases lo with
  |none=>rfl
  |some v=>exact By v n 0
 ·cases hi with
  |none=>rfl
  |some v=>exact By v n n
theorem Cm(i j:Nat):Builtin.Slice.slicePlaces (i:Int) (j:Int) 1=j-i:=by
 unfold Builtin.Slice.slicePlaces;have h1:(1:Int)>0:=by omega
 simp only [h1,if_true,Int.ediv_one]
 split<;>omega
theorem tM{v:Value}{o:Option Int}{Q:Option Int→Shared→Prop}(p:IsPart v o)(h:Q o s):wpAny (model prog w) A (Builtin.Slice.slicePartIndex v) Q E s:=by
 cases p with
 |none=>exact slicePart_none h
 |int i t=>exact slicePart_int h
theorem rh{sl:Addr}{vl vu:Value}{lo hi:Option Int}{n:Nat}{Q:Int×Int×Nat→Shared→Prop}(hs:s.heap.IsSliceOf sl vl vu .none)(pl:IsPart vl lo)(pu:IsPart vu hi)
  (h:Q (((bP n 0 lo:Nat):Int),1,bP n n hi-bP n 0 lo) s):wpAny (model prog w) A (Builtin.Slice.sliceApplied (.ref sl) (pure (n:Int))) Q E s:=by
 obtain ⟨os,zM,SY,GB⟩:=id hs;unfold Builtin.Slice.sliceApplied Builtin.Slice.sliceFields;refine wpAny_bind (wpAny_bind (wpAny_field zM GB (x:=vl) rfl (wpAny_bind (wpAny_field zM GB (x:=vu) rfl (wpAny_bind (wpAny_field zM GB (x:= .none) rfl (wpAny_pure ?_)))))));refine wpAny_bind (slicePart_none ?_);show wpAny _ _ (if ((1:Int)==0)=true then _ else _) _ _ s;rw [if_neg (by decide)]
 refine wpAny_bind (tM pl (wpAny_bind (tM pu (wpAny_bind (wpAny_pure ?_)))));show wpAny _ _ (match Builtin.Slice.sliceAdjust lo hi 1 (n:Int) with| (lo,hi)=>pure (lo,(1:Int),Builtin.Slice.slicePlaces lo hi 1)) _ _ s
 rw [Bm lo hi n];show wpAny _ _ (pure (((bP n 0 lo:Nat):Int),(1:Int),Builtin.Slice.slicePlaces ((bP n 0 lo:Nat):Int) ((bP n n hi:Nat):Int) 1)) _ _ s;rw [Cm];exact wpAny_pure h
theorem Hg(xs:Array Value)(i k:Nat):((List.range k).filterMap λ(m:Nat)=>xs[((i:Int)+(m:Int)*1).toNat]?).toArray=((xs.toList.drop i).take k).toArray:=by
 have e:(λ(m:Nat)=>xs[((i:Int)+(m:Int)*1).toNat]?)=λm=>xs[i+m]? :=by
  funext m
  have:((i:Int)+(m:Int)*1).toNat=i+m:=by omega
  rw [this]
 rw [e]
 have:=pick_run xs i k
 rw [List.filterMap_map] at this;have e2:((λx=>xs[x]?)∘λx=>i+x)=λm=>xs[i+m]? :=rfl;rw [e2] at this;rw [this]
theorem pO{t sl:Addr}{items:Array Value}{vl vu:Value}{lo hi:Option Int}{Q:Value→Shared→Prop}(ht:IsTup s.heap t items)(hs:s.heap.IsSliceOf sl vl vu .none)(pl:IsPart vl lo)(pu:IsPart vu hi)
  (hw:¬(bP items.size 0 lo=0∧bP items.size items.size hi=items.size))
  (h:Q (.ref s.heap.objs.size) {s with heap:=s.heap.push {cls:= .type "tuple",data:= .seq ((items.toList.drop (bP items.size 0 lo)).take (bP items.size items.size hi-bP items.size 0 lo)).toArray}})
  (fb:items.size≤sizeLine):wpAny (model prog w) A (getItem (.ref t) (.ref sl)) Q E s:=by
 have zN:sizeOk (.seq ((items.toList.drop (bP items.size 0 lo)).take (bP items.size items.size hi-bP items.size 0 lo)).toArray):=by
  show ((items.toList.drop (bP items.size 0 lo)).take (bP items.size items.size hi-bP items.size 0 lo)).toArray.size≤sizeLine;rw [cJ,b8,dY,dZ];omega
 have hj:bP items.size items.size hi≤items.size:=MD _ _ (bC _) hi;obtain ⟨os,zM,SY,GB⟩:=id hs;have Yo:s.TypeIs (.ref sl) "slice":=⟨os,zM,SY⟩;unfold getItem
 try with_reducible refine wpAny_holding ?_
 first|refine wpAny_bind (wpAny_pure ?_) |skip
 refine wpAny_bind (wpAny_sequenceKey ht.typeIs (by decide) ?_)
 refine wpAny_bind (wpAny_callSpecial?_slot (name:=Str.ofString "__getitem__") ht.typeIs PyProof.Rows.slot_tuple_getitem
  (wpAny_call_entry PyProof.Rows.slot_tuple_getitem ht.typeIs entry_tuple_getitem ?_ (args_tuple_getitem _ _)))
 show wpAny _ _ (Builtin.Tuple.tupleItemsOf (.ref t)>>=_) _ _ s;refine wpAny_bind (tupleItemsOf_ ht ?_);refine wpAny_bind (wpAny_typeOf Yo ?_);rw [if_pos (by decide)]
 refine wpAny_bind (rh hs pl pu ?_)
 have PB:¬((((bP items.size 0 lo:Nat):Int)==0&&(1:Int)==1&&(bP items.size items.size hi-bP items.size 0 lo)==items.size)=true):=by
  intro q;rw [tW,tW] at q;have q1:((bP items.size 0 lo:Nat):Int)=0:=eq_of_beq q.1.1;have q2:bP items.size items.size hi-bP items.size 0 lo=items.size:=eq_of_beq q.2;exact hw ⟨by omega,by omega⟩
 show wpAny _ _ (if (((bP items.size 0 lo:Nat):Int)==0&&(1:Int)==1&&(bP items.size items.size hi-bP items.size 0 lo)==items.size)=true then _ else _) _ _ s;rw [if_neg PB,Hg]
 first
  |exact wpAny_bind (m:=Builtin.Tuple.tupleExact _) (wpAny_newObj_type (wpAny_pure ⟨_,rfl,wpAny_pure h⟩) zN)
  |exact wpAny_bind (m:=Builtin.Tuple.tupleExact _) (wpAny_newObj_type (wpAny_bind (wpAny_pure (wpAny_pure ⟨_,rfl,wpAny_pure h⟩))) zN)
  |exact wpAny_bind (wpAny_bind (m:=Builtin.Tuple.tupleExact _) (wpAny_newObj_type (wpAny_pure (wpAny_pure ⟨_,rfl,wpAny_pure h⟩)) zN))
  |exact wpAny_bind (wpAny_bind (m:=Builtin.Tuple.tupleExact _) (wpAny_newObj_type (wpAny_pure ⟨_,rfl,wpAny_pure h⟩) zN))
end
end HT
namespace L2
open PySem PySem.Spec PyProof.Rows
abbrev TO:=St→Hp→(Option Int→Hp→Prop)→Prop
def PO(X:Cx)(e:Option Expr)(t:TO):Prop:=
 ∀(pins:List (Addr×Obj))(s:Shared)(σ:St)(H:Hp)(Q:Option Int→Hp→Prop),Inv X pins σ H s→t σ H Q→
  wpAny (model X.prog X.w) X.A (evalPart e X.env) (λu s'=>∃o H',Inv X pins σ H' s'∧IsPart u o∧Q o H') X.xe s
def KP:TO:=λ_ H Q=>Q none H
def QD(t:TE):TO:=λσ H Q=>t σ H λx H1=>∃i,x= .int i∧Q (some i) H1
theorem intsAre_of{ns:List Int}:∀{us:List Value},Vals (ns.map V.int) us→IntsAre us ns:=by
 induction ns with
 |nil=>intro us r;rw [List.map_nil] at r;cases r;exact .nil
 |cons n ns ih=>
  intro us r;rw [gL] at r;cases r with
  |cons r1 r2=>
   obtain ⟨t,e⟩:=r1;subst e;exact .cons n t (ih r2)
section
variable {X:Cx} {e:Expr} {te:TE} {lo hi:Option Expr} {tl th:TO} {pos p2:Pos}
theorem Ka:PO X none KP:=by
 intro pins s σ H Q I h;rw [evalPart_none];exact wpAny_pure ⟨none,H,I, .none,h⟩
theorem Kb(h:PE X e te):PO X (some e) (QD te):=by
 intro pins s σ H Q I hw;rw [evalPart_some];refine thn (h pins s σ H _ I hw) λu s1 ⟨x,H1,I1,r1,q1⟩=>?_;obtain ⟨i,rfl,q⟩:=q1;obtain ⟨t,rfl⟩:=r1;exact ⟨some i,H1,I1, .int i t,q⟩
def C6(X:Cx)(r:V→Option Int→Option Int→Hp→VK→Prop):Prop:=
 ∀(pins:List (Addr×Obj))(s:Shared)(σ:St)(H:Hp)(x:V)(v vl vu:Value)(lo hi:Option Int)(sl:Addr)(Q:VK),Inv X pins σ H s→RelV x v→s.heap.IsSliceOf sl vl vu .none→IsPart vl lo→IsPart vu hi→r x lo hi H Q→
  ∃T id,typeLookup (.type T) "__getitem__"=pure (some (.builtin id))∧s.TypeIs v T∧wpAny (model X.prog X.w) X.A (getItem v (.ref sl)) (EP X pins σ Q) X.xe s
theorem C6.or{r r':V→Option Int→Option Int→Hp→VK→Prop}(h:C6 X r)(h':C6 X r'):C6 X (λx lo hi H Q=>r x lo hi H Q∨r' x lo hi H Q):=by
 intro pins s σ H x v vl vu lo hi sl Q I rx hs pl pu q
 rcases q with q|q
 ·exact h pins s σ H x v vl vu lo hi sl Q I rx hs pl pu q
 ·exact h' pins s σ H x v vl vu lo hi sl Q I rx hs pl pu q
def tSl(r:V→Option Int→Option Int→Hp→VK→Prop)(te:TE)(tl th:TO):TE:=λσ H Q=>te σ H λx H1=>tl σ H1 λl H2=>th σ H2 λu H3=>r x l u H3 Q
theorem yd{r:V→Option Int→Option Int→Hp→VK→Prop}(hr:C6 X r)(he:PE X e te)(hl:PO X lo tl)(hu:PO X hi th):PE X (.Subscript e (.Slice lo hi none p2) pos) (tSl r te tl th):=by
 intro pins s σ H Q I h;refine Subscript_ (thn (he pins s σ H _ I h) λv s1 ⟨x,H1,I1,r1,q1⟩=>?_);refine wpAny_Slice (thn (hl pins s1 σ H1 _ I1 q1) λvl s2 ⟨l,H2,I2,pl,q2⟩=>thn (hu pins s2 σ H2 _ I2 q2) λvu s3 ⟨u,H3,I3,pu,q3⟩=>?_);rw [evalPart_none];refine wpAny_pure ?_;have I4:Inv X pins σ H3 {s3 with heap:=s3.heap.push {cls:= .type "slice",data:= .fields #[vl,vu, .none]}}:=I3.kept (t':=s3.toks) λb ob q=>Heap.get?_push_of_some _ q
 obtain ⟨T,id,hT,ht,hg⟩:=hr pins {s3 with heap:=s3.heap.push {cls:= .type "slice",data:= .fields #[vl,vu, .none]}} σ H3 x v vl vu l u s3.heap.objs.size Q I4 r1 (Heap.IsSliceOf.new ..) pl pu q3
 show wpAny (model X.prog X.w) X.A (subscriptTail e (.Slice lo hi none p2) v (.ref s3.heap.objs.size)) (EP X pins σ Q) X.xe {s3 with heap:=s3.heap.push {cls:= .type "slice",data:= .fields #[vl,vu, .none]}}
 exact tail_any (ops:= [.ref s3.heap.objs.size,v]) ht hT hg (by with_unfolding_all rfl)
def tu(xs:List V)(lo hi:Option Int):List V:=(xs.drop (HT.bP xs.length 0 lo)).take (HT.bP xs.length xs.length hi-HT.bP xs.length 0 lo)
theorem qo(xs:List V)(lo hi:Option Int):(tu xs lo hi).length≤xs.length:=by
 unfold tu;rw [b8,dY];omega
def VG(K:PySem.W.Frag):V→Option Int→Option Int→Hp→VK→Prop:=λx lo hi H Q=>∃a xs,x= .ref a∧gr K H a xs∧
 ¬(HT.bP xs.length 0 lo=0∧HT.bP xs.length xs.length hi=xs.length)∧∀p,H p=none→Q (.ref p) (upd H p (.tup (tu xs lo hi)))
theorem MF:C6 X (VG X.K):=by
 intro pins s σ H x v vl vu lo hi sl Q I rx hs pl pu h;obtain ⟨a,xs,rfl,hx,hw,q⟩:=h;cases rx;obtain ⟨its,r,ht,hz⟩:=I.tuple hx;have hlen:its.toArray.size=xs.length:=by rw [cJ];exact r.length.symm
 refine ⟨"tuple",_,PyProof.Rows.slot_tuple_getitem.lookup,ht.typeIs,?_⟩;refine HT.pO ht hs pl pu (by rw [hlen];exact hw) ?_ (by rw [hlen];exact hz)
 rw [hlen];refine ⟨.ref s.heap.objs.size,_,I.laid (t':=s.toks) (o:= .tup (tu xs lo hi)) (λb ob q=>Heap.get?_push_of_some _ q) (bC _) ?_,rfl,q _ (I.hok.fresh (bC _))⟩;exact ⟨kM (qo xs lo hi) hz,_,(r.drop (HT.bP xs.length 0 lo)).take (HT.bP xs.length xs.length hi-HT.bP xs.length 0 lo),IsTup.new _ _⟩
def Ql(K:PySem.W.Frag):R2:=λx y H Q=>∃a b xs ys,x= .ref a∧y= .ref b∧gr K H a xs∧gr K H b ys∧xs≠ []∧xs.length+ys.length≤sizeLine∧
 (ys= []→Q (.ref a) H)∧(ys≠ []→∀p,H p=none→Q (.ref p) (upd H p (.tup (xs++ys))))
theorem Vals.vw{xs:List V}{us:List Value}(r:Vals xs us):us= []↔xs= []:=by
 cases r with
 |nil=>simp
 |cons _ _=>simp
theorem JT:OpR X (binaryOp .Add) (Ql X.K):=by
 intro pins s σ H x y v u Q I rx ry h;obtain ⟨a,b,xs,ys,rfl,rfl,ha,hb,hx,hz,q1,q2⟩:=h;cases rx;cases ry;obtain ⟨its,r1,p1,_⟩:=I.tuple ha;obtain ⟨tF,r2,p2,_⟩:=I.tuple hb;refine HT.Ic p1 p2 (λz=>hx (r1.vw.mp z)) (λz=>⟨.ref a,H,I,rfl,q1 (r2.vw.mp z)⟩) (λz=>?_) (by rw [←r1.length,←r2.length];exact hz)
 refine ⟨.ref s.heap.objs.size,_,I.laid (t':=s.toks) (o:= .tup (xs++ys)) (λb ob q=>Heap.get?_push_of_some _ q) (bC _) ?_,rfl,q2 (λw=>z (r2.vw.mpr w)) _ (I.hok.fresh (bC _))⟩;exact ⟨by rw [cy];exact hz,_,r1.append r2,IsTup.new _ _⟩
end
def pQ(n:Nat)(i:Int):Option Nat:=if 0≤i then (if i<n then some i.toNat else none) else if-(n:Int)≤i then some (i+n).toNat else none
def gu{α:Type}(xs:List α)(i:Int):Option α:=(pQ xs.length i).bind λj=>xs[j]?
theorem B0{n:Nat}{i:Int}{j:Nat}(h:pQ n i=some j):seqIndex? i n=some j∧j<n∧-(n:Int)≤i∧i<n:=by
 unfold pQ at h
 by_cases h0:0≤i
 ·rw [if_pos h0] at h
  by_cases h1:i<n
  ·rw [if_pos h1] at h
   have e:i.toNat=j:=Option.some.inj h;exact ⟨by rw [seqIndex_of h0 h1,e],by omega,by omega,h1⟩
  ·rw [if_neg h1] at h;cases h
 ·rw [if_neg h0] at h
  by_cases h1: -(n:Int)≤i
  ·rw [if_pos h1] at h
   have e:(i+n).toNat=j:=Option.some.inj h;exact ⟨by rw [seqIndex_neg (by omega) h1,e],by omega,h1,by omega⟩
  ·rw [if_neg h1] at h;cases h
theorem Bo{α:Type}{xs:List α}{i:Int}{v:α}(h:gu xs i=some v):∃j,seqIndex? i xs.length=some j∧xs[j]? =some v∧j<xs.length∧-(xs.length:Int)≤i∧i<xs.length:=by
 unfold gu at h;cases e:pQ xs.length i with
 |none=>rw [e] at h;cases h
 |some j=>
  rw [e] at h;obtain ⟨h1,h2,h3,h4⟩:=B0 e;exact ⟨j,h1,h,h2,h3,h4⟩
theorem Bp{α:Type}{xs:List α}{j:Nat}{v:α}(h:xs[j]? =some v):gu xs (j:Int)=some v:=by
 have hj:j<xs.length:=(eU.mp h).1
 have e:pQ xs.length (j:Int)=some j:=by
  unfold pQ;rw [if_pos (by omega),if_pos (by omega)];simp
 unfold gu;rw [e];exact h
def Bk(b:Expr):Prop:=∀o i,subscripted b false o i=operate [o,i] (getItem o i)
def C3(X:Cx)(r:R2):Prop:=
 ∀(value slice:Expr)(pins:List (Addr×Obj))(s:Shared)(σ:St)(H:Hp)(x y:V)(v u:Value)(Q:VK),Inv X pins σ H s→RelV x v→RelV y u→r x y H Q→
  subscripted slice false v u=operate [v,u] (getItem v u)→wpAny (model X.prog X.w) X.A (subscriptTail value slice v u) (EP X pins σ Q) X.xe s
def K6(X:Cx)(id:String)(r:V→List V→Hp→VK→Prop):Prop:=
 ∀(pins:List (Addr×Obj))(s:Shared)(σ:St)(H:Hp)(x:V)(xs:List V)(v:Value)(us:List Value)(Q:VK),Inv X pins σ H s→RelV x v→Vals xs us→r x xs H Q→
  wpAny (model X.prog X.w) X.A (call (.builtin id) (v::us)) (EP X pins σ Q) X.xe s
section
variable {X:Cx} {a b:Expr} {ta tb:TE} {pos:Pos}
theorem C3.or{r r':R2}(h:C3 X r)(h':C3 X r'):C3 X (λx y H Q=>r x y H Q∨r' x y H Q):=by
 intro value slice pins s σ H x y v u Q I rx ry q hs
 rcases q with q|q
 ·exact h value slice pins s σ H x y v u Q I rx ry q hs
 ·exact h' value slice pins s σ H x y v u Q I rx ry q hs
theorem Qc{r:R2}(hr:C3 X r)(ha:PE X a ta)(hb:PE X b tb)(hs:Bk b):PE X (.Subscript a b pos) (KQ r ta tb):=by
 intro pins s σ H Q I h;exact Subscript_ (H0 ha hb I h λv u s2 x y H2 I2 rx ry q=>hr a b pins s2 σ H2 x y v u Q I2 rx ry q (hs _ _))
def VA(K:PySem.W.Frag):R2:=λx y H Q=>∃p xs i v,x= .ref p∧y= .int i∧cQ K H p xs∧gu xs i=some v∧Q v H
def VB(K:PySem.W.Frag):R2:=λx y H Q=>∃p xs i v,x= .ref p∧y= .int i∧gr K H p xs∧gu xs i=some v∧Q v H
theorem Ju:C3 X (VA X.K):=by
 intro value slice pins s σ H x y v u Q I rx ry h hs;obtain ⟨p,xs,i,z,rfl,rfl,hq,he,q⟩:=h;cases rx;obtain ⟨t,rfl⟩:=ry;obtain ⟨its,r,pl,hz⟩:=I.list hq;obtain ⟨j,h1,h2,h3,h4,h5⟩:=Bo he;obtain ⟨w,ew,EH⟩:=r.get h2;have hl:=r.length;have hn:=kY;have fin:EP X pins σ Q w s:=⟨z,H,I,EH,q⟩
 by_cases h0:0≤i
 ·have hj:i.toNat=j:=by
   rw [seqIndex_of h0 h5] at h1;exact Option.some.inj h1
  exact item_listR pl.isList h0 (by omega) (by rw [hj];simpa using ew) fin hs
 ·have hj:(i+(its.toArray.size:Int)).toNat=j:=by
   rw [seqIndex_neg (by omega) h4] at h1
   rw [cJ,←hl];exact Option.some.inj h1
  exact subscriptTail_builtinR (x:=w) pl.isList.typeIs slot_list_getitem.lookup
   (wpAny_getItem_list_neg (Q:=λr s'=>r=w∧EP X pins σ Q r s') pl.isList (by omega) (by rw [cJ]<;>omega) (by omega) (by rw [hj];simpa using ew) ⟨rfl,fin⟩) hs
theorem LN:C3 X (VB X.K):=by
 intro value slice pins s σ H x y v u Q I rx ry h hs;obtain ⟨p,xs,i,z,rfl,rfl,hq,he,q⟩:=h;cases rx;obtain ⟨t,rfl⟩:=ry;obtain ⟨its,r,pl,hz⟩:=I.tuple hq;obtain ⟨j,h1,h2,h3,h4,h5⟩:=Bo he;obtain ⟨w,ew,EH⟩:=r.get h2;have hl:=r.length;have hn:=kY;have fin:EP X pins σ Q w s:=⟨z,H,I,EH,q⟩
 exact subscriptTail_builtinR (x:=w) pl.typeIs slot_tuple_getitem.lookup
  (getItem_tuple (j:=j) (Q:=λr s'=>r=w∧EP X pins σ Q r s') pl (by omega) (by omega) (by rw [cJ,←hl];exact h1) (by simpa using ew) ⟨rfl,fin⟩) hs
theorem B9(its:List Value)(n j:Nat)(u:Value):Obj.mapSeq (·.setIfInBounds j u) {cls:= .type "list",data:= .seq its.toArray n}={cls:= .type "list",data:= .seq (its.set j u).toArray n}:=by
 simp [Obj.mapSeq]
theorem Inv.lst{pins:List (Addr×Obj)}{σ:St}{H:Hp}{s:Shared}{p:Addr}{xs:List V}(I:Inv X pins σ H s)(h:H p=some (.lst xs)):
  ∃(its:List Value)(n:Nat),Vals xs its∧s.heap.get? p=some {cls:= .type "list",data:= .seq its.toArray n}∧xs.length≤sizeLine:=by
 obtain ⟨z,its,n,r,e⟩:=I.hok p _ h;exact ⟨its,n,r,e,z⟩
theorem Inv.L1{pins:List (Addr×Obj)}{σ:St}{H:Hp}{s:Shared}{p:Addr}{xs ys:List V}{its its':List Value}{n n':Nat}{f:Obj→Obj}(I:Inv X pins σ H s)(h:H p=some (.lst xs))
  (ho:s.heap.get? p=some {cls:= .type "list",data:= .seq its.toArray n}) (hf:f {cls:= .type "list",data:= .seq its.toArray n}={cls:= .type "list",data:= .seq its'.toArray n'}) (r:Vals ys its') (hz:ys.length≤sizeLine) (t:Nat):
  Inv X pins σ (upd H p (.lst ys)) {s with heap:=s.heap.update p f,toks:=t}:=by
 have e:(s.heap.update p f).get? p=some {cls:= .type "list",data:= .seq its'.toArray n'}:=by
  rw [Heap.get?_update_self f ho (by rw [hf]<;>rfl),hf]
 refine I.write (x:=p) (e:=p) (by rw [h];trivial) (.inl rfl) (λb u hb q=>(Heap.get?_update_other _ _ (Ne.symm hb)).trans q) ⟨_,e⟩ ?_
 exact ⟨hz,its',n',r,e⟩
def Qn:V→V→V→Hp→(Hp→Prop)→Prop:=λo i v H Q=>∃p xs k j,o= .ref p∧i= .int k∧H p=some (.lst xs)∧pQ xs.length k=some j∧Q (upd H p (.lst (xs.set j v)))
theorem set_list:MZ X Qn:=by
 intro pins s σ H o i v ov iv u Q I ro ri rv h;obtain ⟨p,xs,k,j,rfl,rfl,hp,hj,q⟩:=h;cases ro;obtain ⟨t,rfl⟩:=ri;obtain ⟨its,n,r,ho,hz⟩:=I.lst hp;obtain ⟨h1,h2,h3,h4⟩:=B0 hj;have hl:=r.length;have hn:=kY
 have I':Inv X pins σ (upd H p (.lst (xs.set j v))) {s with heap:=s.heap.update p (Obj.mapSeq (·.setIfInBounds j u))}:=
  I.L1 hp ho (B9 its n j u) (r.set rv j) (by rw [mn];exact hz) s.toks
 by_cases h0:0≤k
 ·have hk:k.toNat=j:=by
   rw [seqIndex_of h0 h4] at h1;exact Option.some.inj h1
  exact PySem.W.ki_setAt ho h0 (by omega) (by rw [cJ,←hl];exact h4) (by rw [hk];exact ⟨_,I',q⟩)
 ·have hk:(k+(its.toArray.size:Int)).toNat=j:=by
   rw [seqIndex_neg (by omega) h3] at h1
   rw [cJ,←hl];exact Option.some.inj h1
  exact PySem.W.ki_setBack ho (by omega) (by rw [cJ,←hl];exact h3) (by omega) (by rw [hk];exact ⟨_,I',q⟩)
theorem xk(lo hi:Option Int)(n:Nat):(sliceBounds lo hi none n).1=((HT.bP n 0 lo:Nat):Int)∧(sliceBounds lo hi none n).2.1=((HT.bP n n hi:Nat):Int)∧(sliceBounds lo hi none n).2.2=1:=by
 refine ⟨?_,?_,rfl⟩
 ·cases lo with
  |none=>simp [sliceBounds,HT.bP]
  |some i=>
   simp only [sliceBounds,HT.bP,Option.getD_none,show (1:Int)>0 by decide,if_true]
   by_cases h:i<0
   ·simp only [h,if_true]<;>omega
   ·simp only [h,if_false]<;>omega
 ·cases hi with
  |none=>simp [sliceBounds,HT.bP]
  |some i=>
   simp only [sliceBounds,HT.bP,Option.getD_none,show (1:Int)>0 by decide,if_true]
   by_cases h:i<0
   ·simp only [h,if_true]<;>omega
   ·simp only [h,if_false]<;>omega
theorem vT(its:List Value)(lo hi:Option Int):slicePick its.toArray lo hi none=((its.drop (HT.bP its.length 0 lo)).take (HT.bP its.length its.length hi-HT.bP its.length 0 lo)).toArray:=by
 obtain ⟨h1,h2,h3⟩:=xk lo hi its.toArray.size;unfold slicePick;rw [h1,h2,h3];simp only [sliceRange_one,pick_run,cJ]<;>rfl
def VF(K:PySem.W.Frag):V→Option Int→Option Int→Hp→VK→Prop:=λx lo hi H Q=>∃a xs,x= .ref a∧cQ K H a xs∧∀p,H p=none→Q (.ref p) (upd H p (.lst (tu xs lo hi)))
theorem Cz:C6 X (VF X.K):=by
 intro pins s σ H x v vl vu lo hi sl Q I rx hs pl pu h;obtain ⟨a,xs,rfl,hx,q⟩:=h;cases rx;obtain ⟨its,r,ht,hz⟩:=I.list hx;have hlen:=r.length;refine ⟨"list",_,slot_list_getitem.lookup,ht.isList.typeIs,?_⟩;refine wpAny_getItem_list_slice ht.isList hs pl pu .none (by simp) ?_ (by rw [cJ]<;>omega)
 rw [vT,←hlen];refine ⟨.ref s.heap.objs.size,_,I.laid (t':=s.toks) (o:= .lst (tu xs lo hi)) (λb ob q=>Heap.get?_push_of_some _ q) (bC _) ?_,rfl,q _ (I.hok.fresh (bC _))⟩;exact ⟨kM (qo xs lo hi) hz,_,0,(r.drop (HT.bP xs.length 0 lo)).take (HT.bP xs.length xs.length hi-HT.bP xs.length 0 lo),Heap.get?_push_size _ rfl⟩
def gX:V→Bool
 | .bo=>true
 | .bl _=>true
 | .int _=>true
 | .str _=>true
 |_=>false
def uV:V→V→Bool
 | .bo, .bo=>true
 | .bl a, .bl b=>a==b
 | .bl a, .int b=>(if a then 1 else 0)==b
 | .int a, .bl b=>a==(if b then 1 else 0)
 | .int a, .int b=>a==b
 | .str a, .str b=>a==b
 |_,_=>false
theorem Lw{A:Around}{s:Shared}{y x:V}{u v:Value}(ry:RelV y u)(rx:RelV x v)(fy:gX y=true)(fx:gX x=true):SeqAt.EqAt A s u v (uV y x):=by
 cases y with
 |bo=>
  cases ry;cases x with
  |bo=>cases rx;exact SeqAt.EqAt.same _
  |bl b=>cases rx;exact SeqAt.EqAt.none_bool b
  |int b=>obtain ⟨t,rfl⟩:=rx;exact SeqAt.EqAt.none_int b t
  |str b=>obtain ⟨t,rfl⟩:=rx;exact SeqAt.EqAt.none_str b t
  |_=>exact absurd (show false=true from fx) cW
 |bl a=>
  cases ry;cases x with
  |bo=>cases rx;exact SeqAt.EqAt.bool_none a
  |bl b=>cases rx;exact SeqAt.EqAt.bool_bool a b
  |int b=>obtain ⟨t,rfl⟩:=rx;exact SeqAt.EqAt.bool_int a b t
  |str b=>obtain ⟨t,rfl⟩:=rx;exact SeqAt.EqAt.bool_str a b t
  |_=>exact absurd (show false=true from fx) cW
 |int a=>
  obtain ⟨t',rfl⟩:=ry;cases x with
  |bo=>cases rx;exact SeqAt.EqAt.int_none a t'
  |bl b=>cases rx;exact SeqAt.EqAt.int_bool a t' b
  |int b=>obtain ⟨t,rfl⟩:=rx;exact SeqAt.EqAt.int_int a t' b t
  |str b=>obtain ⟨t,rfl⟩:=rx;exact SeqAt.EqAt.int_str a t' b t
  |_=>exact absurd (show false=true from fx) cW
 |str a=>
  obtain ⟨t',rfl⟩:=ry;cases x with
  |bo=>cases rx;exact SeqAt.EqAt.str_none a t'
  |bl b=>cases rx;exact SeqAt.EqAt.str_bool a t' b
  |int b=>obtain ⟨t,rfl⟩:=rx;exact SeqAt.EqAt.str_int a t' b t
  |str b=>obtain ⟨t,rfl⟩:=rx;exact SeqAt.EqAt.str_str a t' b t
  |_=>exact absurd (show false=true from fx) cW
 |_=>exact absurd (show false=true from fy) cW
def oI(x:V)(u:Value):Bool:=match u with
 | .none=>uV .bo x
 | .bool b=>uV (.bl b) x
 | .int i _=>uV (.int i) x
 | .str z _=>uV (.str z) x
 |_=>false
theorem ur{x y:V}{u:Value}(r:RelV y u)(f:gX y=true):oI x u=uV y x:=by
 cases y with
 |bo=>cases r;rfl
 |bl b=>cases r;rfl
 |int i=>obtain ⟨t,rfl⟩:=r;rfl
 |str z=>obtain ⟨t,rfl⟩:=r;rfl
 |_=>exact absurd (show false=true from f) cW
theorem mN{x:V}:∀{xs:List V}{us:List Value},Vals xs us→xs.all gX=true→us.any (oI x)=xs.any λy=>uV y x
 |_,_, .nil,_=>rfl
 |y::xs,u::us, .cons r t,f=>by
  rw [List.all_cons,tW] at f;rw [List.any_cons,List.any_cons,ur r f.1,mN t f.2]
theorem iU{A:Around}{s:Shared}{x:V}{v:Value}(rx:RelV x v)(fx:gX x=true):∀{xs:List V}{us:List Value},Vals xs us→xs.all gX=true→∀u∈us,SeqAt.EqAt A s u v (oI x u)
 |_,_, .nil,_=>λu hu=>by cases hu
 |y::xs,u::us, .cons r t,f=>λu' hu=>by
  rw [List.all_cons,tW] at f
  rcases cv.mp hu with rfl|hu
  ·rw [ur r f.1];exact Lw r rx f.1 fx
  ·exact iU rx fx t f.2 u' hu
def LM(x:V)(xs:List V):Bool:=xs.any λy=>uV y x
def Qm(K:PySem.W.Frag)(neg:Bool):R2:=λx y H Q=>∃p xs,y= .ref p∧(cQ K H p xs∨gr K H p xs)∧gX x=true∧xs.all gX=true∧Q (.bl (if neg then !LM x xs else LM x xs)) H
theorem Es:OpR X (compareOp .In) (Qm X.K false):=by
 intro pins s σ H x y v u Q I rx ry h;obtain ⟨p,xs,rfl,hq,fx,fs,q⟩:=h;cases ry
 rcases hq with hq|hq
 ·obtain ⟨its,r,pl,hz⟩:=I.list hq
  refine SeqAt.in_listAt (oI x) pl.isList (λw hw=>iU rx fx r fs w (by simpa using hw)) ⟨.bl _,H,I,rfl,?_⟩
  rw [show its.toArray.any (oI x)=its.any (oI x) by simp,mN r fs]
  exact q
 ·obtain ⟨its,r,pl,hz⟩:=I.tuple hq
  refine SeqAt.in_tupleAt (oI x) pl (λw hw=>iU rx fx r fs w (by simpa using hw)) ⟨.bl _,H,I,rfl,?_⟩
  rw [show its.toArray.any (oI x)=its.any (oI x) by simp,mN r fs]
  exact q
theorem xg:OpR X (compareOp .NotIn) (Qm X.K true):=by
 intro pins s σ H x y v u Q I rx ry h;obtain ⟨p,xs,rfl,hq,fx,fs,q⟩:=h;cases ry
 rcases hq with hq|hq
 ·obtain ⟨its,r,pl,hz⟩:=I.list hq
  refine SeqAt.notIn_listAt (oI x) pl.isList (λw hw=>iU rx fx r fs w (by simpa using hw)) ⟨.bl _,H,I,rfl,?_⟩
  rw [show its.toArray.any (oI x)=its.any (oI x) by simp,mN r fs]
  exact q
 ·obtain ⟨its,r,pl,hz⟩:=I.tuple hq
  refine SeqAt.notIn_tupleAt (oI x) pl (λw hw=>iU rx fx r fs w (by simpa using hw)) ⟨.bl _,H,I,rfl,?_⟩
  rw [show its.toArray.any (oI x)=its.any (oI x) by simp,mN r fs]
  exact q
theorem wU:cP X (.builtin "len") (λxs H Q=>∃p ys,xs= [.ref p]∧(cQ X.K H p ys∨gr X.K H p ys)∧Q (.int ys.length) H):=by
 intro pins s σ H xs us Q I r h;obtain ⟨p,ys,rfl,hq,q⟩:=h;obtain ⟨u,rfl,rx⟩:=vals1 r;cases rx;have hn:=kY
 rcases hq with hq|hq
 ·obtain ⟨its,r',pl,hz⟩:=I.list hq
  have hlen:=r'.length;exact Calls.call_len_list pl.isList (by simp only [cJ]<;>omega) ⟨.int ys.length,H,I.tok _,⟨s.toks+1,by rw [cJ,hlen]⟩,q⟩
 ·obtain ⟨its,r',pl,hz⟩:=I.tuple hq
  have hlen:=r'.length;exact len_tuple pl (by simp only [cJ]<;>omega) ⟨.int ys.length,H,I.tok _,⟨s.toks+1,by rw [cJ,hlen]⟩,q⟩
theorem wV:cP X (.type "list") (λxs H Q=>∃p ys,xs= [.ref p]∧(cQ X.K H p ys∨gr X.K H p ys)∧∀l,H l=none→Q (.ref l) (upd H l (.lst ys))):=by
 intro pins s σ H xs us Q I r h;obtain ⟨p,ys,rfl,hq,q⟩:=h;obtain ⟨u,rfl,rx⟩:=vals1 r;cases rx
 have fin:∀(its:List Value),Vals ys its→ys.length≤sizeLine→∀(h':Heap)(c':Nat),(∀b o',s.heap.get? b=some o'→h'.get? b=some o')→
   h'.get? s.heap.objs.size=some {cls:= .type "list",dict:=none,data:= .seq its.toArray c',slots:= #[]}→EP X pins σ Q (.ref s.heap.objs.size) {s with heap:=h'}:=λits r' hz h' c' kp e=>
  ⟨.ref s.heap.objs.size,_,I.laid (t':=s.toks) kp (bC _) (show dF X.prog X.w _ h' _ (.lst ys) from ⟨hz,its,c',r',e⟩),rfl,q _ (I.hok.fresh (bC _))⟩
 rcases hq with hq|hq
 ·obtain ⟨its,r',pl,hz⟩:=I.list hq
  have hlen:=r'.length;obtain ⟨o,ho,hc,n,hd⟩:=pl.isList;exact call_list_seq p (.inl rfl) ho hc hd (λh' c' kp e=>fin its r' hz h' c' kp e) (by simp only [cJ]<;>omega)
 ·obtain ⟨its,r',pl,hz⟩:=I.tuple hq
  have hlen:=r'.length;obtain ⟨o,ho,hc,n,hd⟩:=pl;exact call_list_seq p (.inr rfl) ho hc hd (λh' c' kp e=>fin its r' hz h' c' kp e) (by simp only [cJ]<;>omega)
def MT(K:PySem.W.Frag)(T:String)(x:V)(H:Hp):Prop:=match x with
 | .str _=>T="str"
 | .int _=>T="int"
 | .ref p=>(T="list"∧∃xs,cQ K H p xs)∨(T="tuple"∧∃o,K.lookup p=some o∧o.cls= .type "tuple"∧o.dict=none)∨
   (T="dict"∧((∃eE,H p=some (.dK eE))∨∃eE,H p=some (.dT eE)))∨(T="set"∧∃S n,H p=some (.set S n))
 |_=>False
theorem F9{pins:List (Addr×Obj)}{σ:St}{H:Hp}{s:Shared}{T:String}{x:V}{v:Value}(I:Inv X pins σ H s)(r:RelV x v)(ty:MT X.K T x H):
  s.TypeIs v T∧∀a,v= .ref a→∃ob,s.heap.get? a=some ob∧ob.dict=none:=by
 cases x with
 |str z=>
  obtain ⟨t,rfl⟩:=r;cases (show T="str" from ty);exact ⟨typeIs_str s z t,λ_ e=>nomatch e⟩
 |int i=>
  obtain ⟨t,rfl⟩:=r;cases (show T="int" from ty);exact ⟨typeIs_int s i t,λ_ e=>nomatch e⟩
 |ref p=>
  cases r
  rcases ty with ⟨rfl,xs,hq⟩ | ⟨rfl,o,hk,hc,hd⟩ | ⟨rfl,hk⟩ | ⟨rfl,S,n,hk⟩
  ·obtain ⟨its,_,pl,_⟩:=I.list hq
   refine ⟨pl.isList.typeIs,λa e=>?_⟩;cases e;obtain ⟨o,n,e,c,hd,_⟩:=pl;exact ⟨o,e,hd⟩
  ·refine ⟨⟨o,I.iL p o hk,hc⟩,λa e=>?_⟩
   cases e;exact ⟨o,I.iL _ o hk,hd⟩
  ·have z:∃o,s.heap.get? p=some o∧o.ExactDict:=by
    rcases hk with ⟨eE,hk⟩ | ⟨eE,hk⟩
    ·obtain ⟨_,_,_,_,o,_,_,e,ex,_⟩:=I.hok p _ hk
     exact ⟨o,e,ex⟩
    ·obtain ⟨_,_,_,_,o,_,_,e,ex,_⟩:=I.hok p _ hk
     exact ⟨o,e,ex⟩
   obtain ⟨o,e,ex⟩:=z;refine ⟨⟨o,e,ex.1⟩,λa e2=>?_⟩;cases e2;exact ⟨o,e,ex.2.1⟩
  ·obtain ⟨o,_,_,_,e,ex,_⟩:=I.hok p _ hk
   refine ⟨⟨o,e,ex.1⟩,λa e2=>?_⟩;cases e2;exact ⟨o,e,ex.2.1⟩
 |_=>exact False.elim ty
def Wg(K:PySem.W.Frag)(T:String)(r:V→List V→Hp→VK→Prop)(to:TE):TE:=λσ H Q=>to σ H λx H1=>MT K T x H1∧r x [] H1 Q
def tBM(K:PySem.W.Frag)(T:String)(r:V→List V→Hp→VK→Prop)(to:TE)(t:TA):TE:=λσ H Q=>to σ H λx H1=>MT K T x H1∧t σ H1 λxs H2=>r x xs H2 Q
variable {o e:Expr} {es:List Expr} {to:TE} {t:TA} {name:Str} {apos bu:Pos} {T id:String} {r:V→List V→Hp→VK→Prop}
theorem Mn(pa:PlainAttrs T)(slot:Slot T name id)(Jo:typeOf (.builtin id)=pure (.type "method_descriptor"))(hm:K6 X id r)(ho:PE X o to)
  (fh:attributeBase o name X.env (eval o X.env)=eval o X.env:=by rfl) (dj:(apos.endLine==bu.line)=true:=by rfl):PE X (.Call (.Attribute o name apos) [] [] bu) (Wg X.K T r to):=by
 intro pins s σ H Q I h;refine wpAny_Call_method0_late fh dj (thn (ho pins s σ H _ I h) λv s1 ⟨x,H1,I1,r1,ty,q1⟩=>?_);obtain ⟨h1,h2⟩:=F9 I1 r1 ty;exact ⟨T,id,pa,slot,Jo,h1,h2,Calls.callWith_builtin rfl (PySem.evalArgs_none (hm pins s1 σ H1 x [] v [] Q I1 r1 .nil q1))⟩
theorem z8(pa:PlainAttrs T)(slot:Slot T name id)(Jo:typeOf (.builtin id)=pure (.type "method_descriptor"))(hm:K6 X id r)(ho:PE X o to)(ha:PA X (e::es) t)
  (fh:attributeBase o name X.env (eval o X.env)=eval o X.env:=by rfl)
  (ke:((backTo bu (starEach (e::es) X.env)).all (λx=>!x.1)&&(backToKw bu (keywordEach [] X.env)).all (λx=>x.1.isSome)
   &&decide ((e::es).length+([]:List Keyword).length+(if ([]:List Keyword).isEmpty then 0 else 1)<30))=true:=by rfl)
  (dj:(apos.endLine==bu.line)=true:=by rfl) (hs:starEach (e::es) X.env=(false,eval e X.env)::starEach es X.env:=by rfl) (fA:(backTo bu (starEach es X.env)).any (·.1)=false:=by rfl):
  PE X (.Call (.Attribute o name apos) (e::es) [] bu) (tBM X.K T r to t):=by
 intro pins s σ H Q I h;refine wpAny_Call_method_late fh ke dj rfl (thn (ho pins s σ H _ I h) λv s1 ⟨x,H1,I1,r1,ty,q1⟩=>?_);obtain ⟨h1,h2⟩:=F9 I1 r1 ty;refine ⟨T,id,pa,slot,Jo,h1,h2,?_⟩;have hA:=ha bu pins s1 σ H1 _ I1 q1;rw [hs] at hA ⊢;refine Calls.callWith_builtin (by show (false|| (backTo bu (starEach es X.env)).any (·.1))=false;rw [fA]<;>rfl) (Calls.evalArgs_plain ?_)
 exact thn hA λus s2 ⟨vs,H2,I2,r2,q2⟩=>hm pins s2 σ H2 x vs v us Q I2 r1 r2 q2
end
def HN(X:Cx)(id:String)(r:V→List V→Hp→VK→Prop):Prop:=
 ∀(pins:List (Addr×Obj))(s:Shared)(σ:St)(H:Hp)(x:V)(xs:List V)(v:Value)(us:List Value)(Q:VK),Inv X pins σ H s→RelV x v→Vals xs us→r x xs H Q→
  wpAny (model X.prog X.w) X.A (call (.builtin id) (v::us)) (EP X pins σ Q) X.xe s
theorem Vals.one:∀{x:V}{us:List Value},Vals [x] us→∃u,us= [u]∧RelV x u
 |_,_, .cons r .nil=>⟨_,rfl,r⟩
theorem Vals.two:∀{x y:V}{us:List Value},Vals [x,y] us→∃u v,us= [u,v]∧RelV x u∧RelV y v
 |_,_,_, .cons r (.cons q .nil)=>⟨_,_,rfl,r,q⟩
theorem Vals.zero:∀{us:List Value},Vals [] us→us= []
 |_, .nil=>rfl
theorem Vals.dropLast{xs:List V}{us:List Value}(h:Vals xs us):Vals xs.dropLast us.dropLast:=by
 induction h with
 |nil=>exact .nil
 |cons r t ih=>
  cases t with
  |nil=>exact .nil
  |cons q t'=>exact .cons r ih
theorem Vals.rep{xs:List V}{us:List Value}(h:Vals xs us):∀k:Nat,Vals (List.replicate k xs).flatten (List.replicate k us).flatten
 |0=> .nil
 |k+1=>by
  rw [wG,wG,sQ,sQ];exact Vals.append h (Vals.rep h k)
theorem BG{α:Type}(l:List α):l.eraseIdx (l.length-1)=l.dropLast:=by
 induction l with
 |nil=>rfl
 |cons a r ih=>
  cases r with
  |nil=>rfl
  |cons b r=>
   have e:(a::b::r).length-1=((b::r).length-1)+1:=by
    have h1:(a::b::r).length=r.length+2:=rfl;have h2:(b::r).length=r.length+1:=rfl;omega
   rw [e,List.eraseIdx_cons_succ,ih]
   all_goals rfl
theorem foldl_rep(its:List Value):∀(k:Nat)(acc:List Value),
  List.foldl (λx1 x2=>x1++x2) acc.toArray (List.replicate k its.toArray)=(acc++(List.replicate k its).flatten).toArray
 |0,acc=>by simp
 |k+1,acc=>by
  have e:acc.toArray++its.toArray=(acc++its).toArray:=by simp
  have e2:(acc++its)++(List.replicate k its).flatten=acc++(List.replicate (k+1) its).flatten:=by
   rw [wG,sQ,rF]
  rw [←e2,←foldl_rep its k (acc++its),←e,wG,List.foldl_cons]
section
variable {X:Cx} {pins:List (Addr×Obj)} {σ:St} {H:Hp} {s:Shared} {l b:Addr} {xs ys zs:List V}
theorem Inv.FC{its its':List Value}{n:Nat}{f:Array Value→Array Value}{t':Nat}(I:Inv X pins σ H s)(hH:H l=some (.lst xs))
  (e:s.heap.get? l=some {cls:= .type "list",data:= .seq its.toArray n}) (hf:f its.toArray=its'.toArray) (hv:Vals ys its') (hz:ys.length≤sizeLine):
  Inv X pins σ (upd H l (.lst ys)) {s with heap:=s.heap.update l (Obj.mapSeq f),toks:=t'}:=by
 have q:=PySem.IsL.update e f;rw [hf] at q;refine I.write (x:=l) (e:=l) (by rw [hH];exact trivial) (.inl rfl) (λb' u hb hu=>(Heap.get?_update_other s.heap (Obj.mapSeq f) (Ne.symm hb)).trans hu) ⟨_,q⟩ ?_
 exact ⟨hz,its',_,hv,q⟩
theorem Inv.B5{its:List Value}{t':Nat}(I:Inv X pins σ H s)(hv:Vals ys its)(hz:ys.length≤sizeLine):
  Inv X pins σ (upd H s.heap.objs.size (.lst ys)) {s with heap:=s.heap.push {cls:= .type "list",data:= .seq its.toArray},toks:=t'}:=
 I.laid (λ_ _ q=>Heap.get?_push_of_some _ q) (bC _) ⟨hz,its,0,hv,Heap.get?_push_size _ rfl⟩
theorem Inv.fresh(I:Inv X pins σ H s):H s.heap.objs.size=none:=I.hok.fresh (bC _)
theorem Inv.oX(I:Inv X pins σ H s)(hH:H l=some (.lst xs)):xs.length≤sizeLine∧∃(its:List Value)(n:Nat),Vals xs its∧xs.length=its.length∧s.heap.get? l=some {cls:= .type "list",data:= .seq its.toArray n}:=by
 obtain ⟨z,its,n,r,e⟩:=I.hok l _ hH;exact ⟨z,its,n,r,r.length,e⟩
theorem xZ{n:Nat}(h:n≤sizeLine):Builtin.List.listTooLong n=false:=by
 unfold Builtin.List.listTooLong;exact decide_eq_false (by omega)
end
section
variable {X:Cx}
def Kk:V→List V→Hp→VK→Prop:=λx vs H Q=>∃l xs y,x= .ref l∧vs= [y]∧H l=some (.lst xs)∧xs.length<sizeLine∧Q .bo (upd H l (.lst (xs++ [y])))
theorem pW:HN X "list.append" Kk:=by
 intro pins s σ H x vs v us Q I rx rv h;obtain ⟨l,xs,y,rfl,rfl,hH,hz,q⟩:=h;cases rx;obtain ⟨u,rfl,ru⟩:=rv.one;obtain ⟨z,its,n,r,hl,e⟩:=I.oX hH;refine call_meets F.slot_list_append ⟨_,e,rfl⟩ F.entry_list_append (F.args_list_append_2 _ _) (PySem.list_append l its.toArray n u (by rw [cJ];omega)) ⟨e,?_⟩
 refine ⟨.bo,_,I.FC (its':=its++ [u]) hH e (by simp) (r.append (.cons ru .nil)) ?_,rfl,q⟩
 rw [cy,wD];omega
def Kl:V→List V→Hp→VK→Prop:=λx vs H Q=>∃l b xs zs,x= .ref l∧vs= [.ref b]∧H l=some (.lst xs)∧H b=some (.lst zs)∧xs.length+zs.length≤sizeLine∧Q .bo (upd H l (.lst (xs++zs)))
theorem Eh:HN X "list.extend" Kl:=by
 intro pins s σ H x vs v us Q I rx rv h;obtain ⟨l,b,xs,zs,rfl,rfl,hH,hB,hz,q⟩:=h;cases rx;obtain ⟨u,rfl,ru⟩:=rv.one;cases ru;obtain ⟨z,its,n,r,hl,e⟩:=I.oX hH;obtain ⟨z2,tF,n2,r2,YF,e2⟩:=I.oX hB;have fb:its.toArray.size+tF.toArray.size≤sizeLine:=by rw [cJ,cJ];omega
 have DS:¬(!its.toArray.isEmpty&&Builtin.List.listTooLong (its.toArray.size+tF.toArray.size))=true:=by
  rw [xZ fb,Bool.and_false];exact cW
 refine call_meets F.slot_list_extend ⟨_,e,rfl⟩ F.entry_list_extend (F.args_list_extend_2 _ _)
  (AutoSeq1.list_extend_list_list_0 l its.toArray n b tF.toArray n2 DS (by rw [cJ];omega) (by omega)) ⟨e,e2,?_⟩
 refine ⟨.bo,_,I.FC (its':=its++tF) hH e (by simp) (r.append r2) ?_,rfl,q⟩
 rw [cy];omega
def VD:V→List V→Hp→VK→Prop:=λx vs H Q=>∃l xs y,x= .ref l∧vs= []∧H l=some (.lst xs)∧xs[xs.length-1]? =some y∧Q y (upd H l (.lst xs.dropLast))
theorem L3:HN X "list.pop" VD:=by
 intro pins s σ H x vs v us Q I rx rv h;obtain ⟨l,xs,y,rfl,rfl,hH,hy,q⟩:=h;cases rx;have YX:=rv.zero;subst YX;obtain ⟨z,its,n,r,hl,e⟩:=I.oX hH;obtain ⟨u,hu,ru⟩:=r.get hy
 have GL:its.toArray[its.toArray.size-1]? =some u:=by
  show its.toArray[its.length-1]? =some u;rw [←gJ,←hl];exact hu
 refine call_meets F.slot_list_pop ⟨_,e,rfl⟩ F.entry_list_pop (F.args_list_pop_1 _) (MeetsSeq.list_pop_last l its.toArray n u GL (by rw [cJ];omega)) ⟨e,?_⟩
 refine ⟨y,_,I.FC (its':=its.dropLast) hH e ?_ r.dropLast ?_,ru,q⟩
 ·show its.toArray.eraseIdxIfInBounds (its.toArray.size-1)=its.dropLast.toArray
  rw [cJ,List.eraseIdxIfInBounds_toArray,BG]
 ·rw [List.length_dropLast]
  omega
def Vy:R2:=λx y H Q=>∃l b xs zs,x= .ref l∧y= .ref b∧H l=some (.lst xs)∧H b=some (.lst zs)∧xs.length+zs.length≤sizeLine∧∀p,H p=none→Q (.ref p) (upd H p (.lst (xs++zs)))
theorem FK:OpR X (binaryOp .Add) Vy:=by
 intro pins s σ H x y v u Q I rx ry h;obtain ⟨l,b,xs,zs,rfl,rfl,hH,hB,hz,q⟩:=h;cases rx;cases ry;obtain ⟨z,its,n,r,hl,e⟩:=I.oX hH;obtain ⟨z2,tF,n2,r2,YF,e2⟩:=I.oX hB;refine PySem.P.add_list e e2 ?_ (by rw [cJ,cJ];omega)
 have ea:its.toArray++tF.toArray=(its++tF).toArray:=by simp
 rw [ea];exact ⟨.ref _,_,I.B5 (t':=s.toks) (r.append r2) (by rw [cy];omega),rfl,q _ I.fresh⟩
def VE:R2:=λx y H Q=>∃l k xs,x= .ref l∧y= .int k∧H l=some (.lst xs)∧-(2^63)≤k∧k<2^63∧xs.length*k.toNat≤sizeLine∧
 ∀p,H p=none→Q (.ref p) (upd H p (.lst (List.replicate k.toNat xs).flatten))
theorem len_rep{α:Type}(xs:List α)(k:Nat):(List.replicate k xs).flatten.length=k*xs.length:=by
 induction k with
 |zero=>simp
 |succ k ih=>rw [wG,sQ,cy,ih,Nat.succ_mul,Nat.add_comm]
theorem Mj:OpR X (binaryOp .Mult) VE:=by
 intro pins s σ H x y v u Q I rx ry h;obtain ⟨l,k,xs,rfl,rfl,hH,h1,h2,hz,q⟩:=h;cases rx;obtain ⟨t,rfl⟩:=ry;obtain ⟨z,its,n,r,hl,e⟩:=I.oX hH;have hlen:its.toArray.size*k.toNat≤sizeLine:=by rw [cJ,←hl];exact hz
 have SU:¬its.toArray.size*k.toNat>(2^63-1) / 8:=by
  have:(sizeLine:Nat)≤(2^63-1) / 8:=by decide
  omega
 have Jb:¬(!Builtin.List.listFitsIndex k)=true:=by
  rw [fitsIndex_both h1 h2];exact cW
 have DS:¬Builtin.List.listTooLong (its.toArray.size*k.toNat)=true:=by
  rw [xZ hlen];exact cW
 have Tn:List.foldl (λx1 x2=>x1++x2) #[] (List.replicate (if its.toArray.isEmpty=true then 0 else k.toNat) its.toArray)=(List.replicate k.toNat its).flatten.toArray:=by
  have f0:∀m:Nat,List.foldl (λx1 x2=>x1++x2) #[] (List.replicate m its.toArray)=(List.replicate m its).flatten.toArray:=λm=>by
   have:=foldl_rep its m []
   rw [kJ] at this;exact this
  rw [f0];cases its with
  |nil=>simp
  |cons a r'=>rw [if_neg (by simp)]
 refine wpAny_binaryOp_repeat_ref (T:="list") (U:="int") (by decide) ⟨_,e,rfl⟩ (λs'=>typeIs_int s' k t) noFill_list_mul F.fills_int_mul F.slot_int_rmul repeat_list F.slot_int_index.lookup
  (call_meets F.slot_int_rmul (typeIs_int s k t) F.entry_int_rmul (F.args_int_rmul_2 _ _) (int___rmul___int_list k t l its.toArray n)
   ⟨e,rfl,⟨_,e,rfl⟩,call_meets F.slot_list_mul ⟨_,e,rfl⟩ F.entry_list_mul (F.args_list_mul_2 _ _) (AutoListH.list___mul___list_int_3 l its.toArray n k t Jb SU DS) ⟨e,?_⟩⟩)
 rw [Tn];exact ⟨.ref _,_,I.B5 (t':=s.toks) (r.rep k.toNat) (by rw [len_rep,Nat.mul_comm];exact hz),rfl,q _ I.fresh⟩
end
section
variable {prog:Program} {w:World} {A:Around} {E:Value→Shared→Prop} {s:Shared}
end
section
variable {X:Cx}
end
end L2
namespace QM
open PySem PySem.W PySem.Calls PyProof.Rows
theorem rY{P:Params}{h:Heap}:∀(ns:List Int)(vs:List Value),WellAll P h vs (ns.map WData.int)→IntsAre vs ns:=by
 intro ns
 induction ns with
 |nil=>
  intro vs w;rw [List.map_nil] at w;cases w;exact .nil
 |cons n ns ih=>
  intro vs w;rw [gL] at w;cases w with
  |cons a b=>
   cases a;exact .cons _ _ (ih _ b)
theorem EL{l:OpenLaw}{n:Nat}(hn:l.most=some n){P:Params}{h:Heap}{args:List WData}{vals:List Value}
  (Fy:l.row.toRowW.claim.pre args=true) (PH:WellAll P h vals args):
  ∃a vs ns,vals= [Value.ref a]∧args= [WData.list (ns.map WData.int)]∧h.get? a=some {cls:= .type "list",data:= .seq vs.toArray}∧IntsAre vs ns∧ns.length≤n:=by
 have YU:WShape.hasAll [] args [.list .int]=true:=(pre_splitW Fy).1;have hc:l.pre.holds [] {args:=args}=true:=(pre_splitW Fy).2;obtain ⟨d,r,rfl,h1,h2⟩:=hasAllW_cons YU;obtain rfl:=hasAllW_nil h2;obtain ⟨xs,rfl,h3⟩:=hasW_list h1;obtain ⟨ns,rfl⟩:=items_int h3
 have hlen:ns.length≤n:=by
  unfold OpenLaw.pre at hc
  have h4:(WTm.not (.lt (.lit (.int (n:Int))) (.len (.arg 0)))).holds [] {args:= [.list (ns.map .int)]}=true:=by
   have h4:=(holds_andW hc).1;rw [hn] at h4;exact h4
  have h5:=condW_of h4 (w_not (w_lt w_lit (w_len_list (w_arg rfl))));rw [aI] at h5;refine pA λq=>?_;have q':(n:Int)<((ns.length:Nat):Int):=by omega
  first
   | (rw [decide_eq_true q'] at h5;exact absurd h5 (by decide))
   | (simp at h5;omega)
 cases PH with
 |cons w1 w2=>
  cases w2;cases w1 with
  |list ho uZ=>exact ⟨_,_,ns,rfl,rfl,ho,rY ns _ uZ,hlen⟩
theorem Ez(l:OpenLaw)(args:List WData):l.row.toRowW.claim.post args (.bool true) args=true:=
 postW_of (r:=l.row.toRowW) (X:=(true==true))
  (show WShape.has [] (.bool true) .bool=true by first|rfl|decide|simp [WShape.has,WShape.arms,WShape.armsAll])
  (show (WTm.eq .res (.lit (.bool true))).value [] {args:=args,res:=some (.bool true),after:=args}=some (.bool (true==true)) from w_eq_bool (w_res rfl) w_lit) rfl
theorem ze{l:OpenLaw}{n:Nat}{q:Program}{loose:List Str}{XP:(Str→Option Value)→Heap→Prop}{YP:World→Heap→Prop}{d:DefRec}
  (hn:l.most=some n) (DQ:d.params.defaults= [])
  (call:∀(w:World)(s₀ s₁:Shared)(mg mb:Str→Option Value)(fa:Addr)(o:Obj)(pm cd doc:Value)(a:Addr)(vs:List Value)(ns:List Int),
   Ground q loose [] XP w s₀ mg mb s₁.heap→YP w s₁.heap→
   s₁.heap.get? fa=some o→o.data= .func (docDef d.name d.params d.body d.scope pm cd doc)→s₁.heap.CodeRec cd d.name→mg d.name=some (.ref fa)→
   s₁.heap.get? a=some {cls:= .type "list",data:= .seq vs.toArray}→IntsAre vs ns→ns.length≤n→s₁.gens= #[]→
   codeAny (model l.prog w) callerA (.call (.ref fa) ⟨[.ref a],[]⟩) (λr s'=>r= .ok (.ret (.bool true))∧OldK s₁.heap s'.heap∧s'.os=s₁.os∧AllBare s'.gens) s₁):
  WalkO q loose XP YP l.row.toRowW d [] (λf vs=>PySem.call f vs):=by
 intro w s₀ s₁ mg mb G Y fa o pm cd doc dV kV ho hd gY hD DU hg args vals as Fy aaf hrd PH BP;obtain rfl:dV= .none:=Dflts.none hD DQ;obtain rfl:kV= .none:=Dflts.noKw hD;obtain ⟨a,vs,ns,rfl,rfl,Jj,hints,hlen⟩:=EL hn Fy PH;refine enter_call (codeAny_mono (call w s₀ s₁ mg mb fa o pm cd doc a vs ns G Y ho (fd_plain hd) gY DU Jj hints hlen hg) λr s' hq=>?_);obtain ⟨rfl,h2,h3,h4⟩:=hq;exact ⟨.inl ⟨.bool true, .bool true,[],rfl,λ_=>rfl, .bool true,Ez l _,λ_=>⟨List.Pairwise.nil,λ_ hm=>(nomatch hm)⟩⟩,h2,h3,h4⟩
section
variable {prog:Program} {w:World} {A:Around} {E:Value→Shared→Prop} {s:Shared} {K:Frag}
end
end QM
namespace L2
open PySem PySem.Spec PyProof.Rows
theorem lJ:∀{vs:List Value}{ns:List Int},IntsAre vs ns→Vals (ns.map V.int) vs
 |_,_, .nil=> .nil
 |_,_, .cons n t h=> .cons ⟨t,rfl⟩ (lJ h)
def HP(H:Hp):Prop:=∀b,H b=none∨∃o xs,H b=some (.qA o (.lst xs))
theorem GR{P:Program}{w:World}{K:PySem.W.Frag}{mg mb:Str→Option Value}{CX:rJ}{k:Nat}{fa a:Addr}{fd:FuncData}{x:Str}{sp:Sp}{s₁:Shared}{vs:List Value}{ns:List Int}
  (KX:K.In s₁.heap) (u5:s₁.heap.Ns mainGlobals mg) (hb:s₁.heap.Ns builtinsNs mb) (Yq:∀x:Str,x≠"__name__"→mb x=bootBuiltins x) (Te:s₁.heap.NoLimit) (hg:s₁.gens= #[])
  (ha:s₁.heap.get? a=some {cls:= .type "list",data:= .seq vs.toArray}) (hi:IntsAre vs ns) (hl:ns.length≤sizeLine) (hr:dr k callerA)
  (F:∀base:Heap,K.In base→base.Ns mainGlobals mg→FnOk P w K mg base CX k fa fd [x] sp) (Pk:∀(s:Shared)(u:Value),BindsTo s fd ⟨[u],[]⟩ [(x,u)])
  (BU:∀H:Hp,HP H→cQ K H a (ns.map V.int)→sp [.ref a] H (λv _=>v= .bl true) λ_ _ _=>False)
  (O9:∀H e s',CX [] H s₁ (λ_ _ _=>False) e s'→False):
  codeAny (model P w) callerA (.call (.ref fa) ⟨[.ref a],[]⟩) (λr s'=>r= .ok (.ret (.bool true))∧OldK s₁.heap s'.heap∧s'.os=s₁.os∧AllBare s'.gens) s₁:=by
 have rv:=lJ hi;have Uq:=hi.length
 have core:∀H:Hp,HP H→cQ K H a (ns.map V.int)→iI P w H s₁.heap→(∀b,H b≠none→b=a)→(H a≠none→K.lookup a=none)→
   codeAny (model P w) callerA (.call (.ref fa) ⟨[.ref a],[]⟩) (λr s'=>r= .ok (.ret (.bool true))∧OldK s₁.heap s'.heap∧s'.os=s₁.os∧AllBare s'.gens) s₁:=by
  intro H hO hS hok hA hK;have Br:∀{b:Addr}{o:Obj},s₁.heap.get? b=some o→H b=none→(qE s₁.heap H).get? b=some o:=λe n=>GG e n
  have JM:∀{b:Addr}{o:Obj}{es:Array DictEntry}{ep:Nat},s₁.heap.get? b=some o→o.data= .dict es ep→H b=none:=λ {b o es ep} e d=>by
   cases q:H b with
   |none=>rfl
   |some u=>
    have e':b=a:=hA b (by rw [q];simp)
    subst e';rw [ha] at e;cases e;have d':Data.seq vs.toArray _=Data.dict es ep:=d;cases d'
  have L8:∀{b:Addr}{m:Str→Option Value},s₁.heap.Ns b m→(qE s₁.heap H).Ns b m:=λ {b m} ⟨o,es,ep,e,d,r⟩=>⟨o,es,ep,Br e (JM e d),d,r⟩
  have SO:K.In (qE s₁.heap H):=λb o e=>Br (KX b o e) (by
   cases q:H b with
   |none=>rfl
   |some u=>
    have e':b=a:=hA b (by rw [q];simp)
    subst e';rw [hK (by rw [q];simp)] at e;cases e)
  have hM:Mod K mg (qE s₁.heap H):=⟨SO,L8 u5,⟨mb,L8 hb,Yq⟩,let ⟨mc,h1,h2⟩:=Te;⟨mc,L8 h1,h2⟩⟩;have e0:Env0 P w K mg (qE s₁.heap H) callerA [] s₁ H:=⟨rfl,hM,λb o e=>JS e,Nat.le_of_eq (DR _ _),trivial,λb hb=>absurd (show b∈([]:List Addr) from hb) (by simp),hok, .of_eq hg⟩
  refine codeAny_mono ((F _ SO (L8 u5)).run callerA [] s₁ H ⟨[.ref a],[]⟩ [.ref a] [.ref a] _ _ hr e0 (Pk s₁ (.ref a)) (.cons rfl .nil) (BU H hO hS)) λr s' h=>?_;cases r with
  |error e=>exact (O9 H e s' h).elim
  |ok fl=>
   cases fl with
   |next=>exact False.elim h
   |brk=>exact False.elim h
   |cont=>exact False.elim h
   |ret u=>
    obtain ⟨v,H',os,bare,un,Tq,r',q⟩:=h;have q':v= .bl true:=q;subst q';obtain rfl:u=Value.bool true:=r';refine ⟨rfl,OldK.of_keep λb o e=>?_,os,bare⟩;cases q:H b with
    |none=>exact un.keep b o e q (by intro z;exact absurd (show b∈([]:List Addr) from z) (by simp)) (by simp)
    |some u=>
     rcases hO b with z| ⟨ob,xs,z⟩
     ·rw [q] at z;cases z
     ·have z2:=un.frzs b ob _ z
      obtain ⟨e1,_⟩:=hok b _ z;obtain ⟨e2,_⟩:=Tq b _ z2;rw [e] at e1;cases e1;exact e2
 cases hk:K.lookup a with
 |some o=>
  have e:=KX a o hk;rw [ha] at e;cases e;refine core (λ_=>none) (λ_=> .inl rfl) (.inr ⟨_,vs.toArray,_,hk,rfl,rfl,rfl,by rw [cJ,Uq];exact hl,by simpa using rv⟩) (λb u z=>by have z':(none:Option HO)=some u:=z;cases z') (λb z=>absurd rfl z) λz=>absurd rfl z
 |none=>
  refine core (λb=>if b=a then some (.qA {cls:= .type "list",data:= .seq vs.toArray} (.lst (ns.map V.int))) else none) (λb=>?_) (.inl (.inr ⟨{cls:= .type "list",data:= .seq vs.toArray},if_pos rfl⟩)) (λb u z=>?_) (λb z=>?_) λ_=>hk
  ·by_cases hb:b=a
   ·exact .inr ⟨_,_,if_pos hb⟩
   ·exact .inl (if_neg hb)
  ·by_cases hb:b=a
   ·have z':=(if_pos hb).symm.trans z
    cases z';subst hb;exact ⟨ha,by rw [aI];exact hl,vs,_,rv,ha⟩
   ·have z':=(if_neg hb).symm.trans z
    cases z'
  ·by_cases hb:b=a
   ·exact hb
   ·exact absurd (if_neg hb) z
theorem KY{l:PySem.W.OpenLaw}{n k:Nat}{q:Program}{loose:List Str}{XP:(Str→Option Value)→Heap→Prop}{YP:World→Heap→Prop}{d:DefRec}{K:Params→PySem.W.Frag}{CX:World→rJ}{sp:World→Sp}{x:Str}
  (hn:l.most=some n) (xa:n≤sizeLine) (DQ:d.params.defaults= []) (hr:dr k callerA)
  (hY:∀(w:World)(h:Heap),YP w h→(K w.params).In h)
  (F:∀(w:World)(mg:Str→Option Value)(fa:Addr)(h:Heap),(K w.params).In h→h.Ns mainGlobals mg→mg d.name=some (.ref fa)→
   ∃fd:FuncData,(∀(s:Shared)(u:Value),BindsTo s fd ⟨[u],[]⟩ [(x,u)])∧
    ∀base:Heap,(K w.params).In base→base.Ns mainGlobals mg→FnOk l.prog w (K w.params) mg base (CX w) k fa fd [x] (sp w))
  (BU:∀(w:World)(H:Hp)(a:Addr)(ns:List Int),ns.length≤n→HP H→cQ (K w.params) H a (ns.map V.int)→sp w [.ref a] H (λv _=>v= .bl true) λ_ _ _=>False)
  (O9:∀(w:World)(H:Hp)(s:Shared)(e:Value)(s':Shared),CX w [] H s (λ_ _ _=>False) e s'→False):
  PySem.W.WalkO q loose XP YP l.row.toRowW d [] (λf vs=>PySem.call f vs):=by
 refine QM.ze hn DQ λw s₀ s₁ mg mb fa o pm cd doc a vs ns G Y ho hd gY DU Jj hints hlen hg=>?_;have KX:=hY w _ Y;obtain ⟨fd,hb,hF⟩:=F w mg fa _ KX G.T.g DU;exact GR KX G.T.g G.T.b G.T.builtins G.T.nolimit hg Jj hints (kM hlen xa) hr hF hb (λH hO hS=>BU w H a ns hlen hO hS) λH e s'=>O9 w H s₁ e s'
def inClass(s:Stmt)(j:Nat):Stmt:=match s with
 | .ClassDef _ _ _ body _ _ _ _ _ _ _=>body.getD j (.Pass ⟨0,0,0,0⟩)
 |_=> .Pass ⟨0,0,0,0⟩
def i8(s:Stmt):Arguments:=match s with
 | .FunctionDef _ a _ _ _ _ _ _ _ _=>a
 |_=>{posonlyargs:= [],args:= [],vararg:=none,kwonlyargs:= [],kw_defaults:= [],kwarg:=none,defaults:= []}
def fI(s:Stmt):List Stmt:=match s with
 | .FunctionDef _ _ b _ _ _ _ _ _ _=>b
 |_=> []
def ar(s:Stmt):Scope:=match s with
 | .FunctionDef _ _ _ _ _ _ sc _ _ _=>sc
 |_=>{kind:= .function,names:= [],isGenerator:=false,isCoroutine:=false}
abbrev di:rJ:=λ_ _ _ _ _ _=>False
abbrev E0:XK:=λ_ _ _=>False
theorem Ew{X:Cx}:Passes di X E0:=λ_ _ _ _ _ _ _ h=>h.elim
structure wQ (K:PySem.W.Frag) (x qual:Str) (st:Stmt) (f:Addr) (fd:FuncData):Prop where
 ex:∃(oc:Value)(od:Option Addr)(kV doc pm:Value)(an:Option Addr)(bQ ct:Value)(Ce:Array (Option Value)),
  fd=PySem.W.fnOf x qual (i8 st) (fI st) (ar st) .none kV doc pm an bQ ct∧K.lookup f=some ⟨oc,od, .func fd,Ce⟩∧PySem.W.codeIn K bQ qual=true
 kp:PySem.W.keepIn K (.ref f)=true
section
variable {P:Program} {w:World} {K:PySem.W.Frag} {mg:Str→Option Value} {base:Heap}
theorem wQ.ok{x qual:Str}{st:Stmt}{f:Addr}{fd:FuncData}{N ps:List Str}{k:Nat}{sp:Sp}(F:wQ K x qual st f fd)(S:aJ N ps (ar st))(len:∀vs H Q E,sp vs H Q E→vs.length=ps.length)
  (pP:∀(bQ:Value)(A:Around)(outer:List Env)(s:Shared)(H:Hp)(vs:List V)(Q:VK)(E:XK),dr k (A.deeper (envOfC qual (ar st) s.heap.objs.size f bQ))→sp vs H Q E→
   ∃t,mK (tw di P w K mg base N qual (ar st) f bQ A outer s H E).ie (fI st) t∧t {nx:=λ_ H'=>Q .bo H',rt:=Q} (start N vs) H):FnOk P w K mg base di (k+1) f fd ps sp:=by
 obtain ⟨oc,od,kV,doc,pm,an,bQ,ct,Ce,rfl,lk,gY⟩:=F.ex;refine O0 lk gY S len λA outer s H vs Q E hr BU=>?_;obtain ⟨t,h,q⟩:=pP bQ A outer s H vs Q E hr BU;exact ⟨t,h.ie,q⟩
theorem wQ.binds{x qual:Str}{st:Stmt}{f:Addr}{fd:FuncData}{ps:List Str}(F:wQ K x qual st f fd)
  (h:∀(kV doc pm:Value)(an:Option Addr)(bQ ct:Value)(us:List Value),us.length=ps.length→bindArgs (PySem.W.fnOf x qual (i8 st) (fI st) (ar st) .none kV doc pm an bQ ct) ⟨us,[]⟩=pure (ps.zip us)):Binds K fd ps []:=by
 obtain ⟨oc,od,kV,doc,pm,an,bQ,ct,Ce,rfl,lk,gY⟩:=F.ex;exact .all (h kV doc pm an bQ ct)
theorem qB{x qual:Str}{st:Stmt}{f:Addr}{oc:Value}{od an:Option Addr}{Ce:Array (Option Value)}{kV doc pm bQ ct:Value}(l:K.lookup f=some ⟨oc,od, .func (PySem.W.fnOf x qual (i8 st) (fI st) (ar st) .none kV doc pm an bQ ct),Ce⟩)
  (c:PySem.W.codeIn K bQ qual=true) (k:PySem.W.keepIn K (.ref f)=true):wQ K x qual st f (PySem.W.fnOf x qual (i8 st) (fI st) (ar st) .none kV doc pm an bQ ct):=⟨⟨oc,od,kV,doc,pm,an,bQ,ct,Ce,rfl,l,c⟩,k⟩
end
theorem g8{n:Nat}(h:n≤1000):n<sizeLine:=Nat.lt_of_le_of_lt h (by decide)
section
variable {X:Cx}
theorem pv(i:Nat){x:Str}{pos:Pos}(hN:X.N[i]? =some x:=by rfl)(hv:uE X.env.scope x:=by first|exact Or.inl rfl|exact Or.inr (Or.inl rfl) |exact Or.inr (Or.inr rfl))(hd:(x==("__debug__":Str))=false:=by decide)
  (gY:(x==("__classdict__":Str))=false:=by decide):PE X (.Name x pos) (N2 i):=FN hN hv hd gY
end
theorem dg{A B:Prop}(h:B):if false=true then A else B:=by
 rw [if_neg cW];exact h
theorem eY{A B:Prop}(h:A):if true=true then A else B:=by
 rw [if_pos rfl];exact h
def aK(H H':Hp):Prop:=∀b o,H b=some o→H' b=some o
theorem aK.refl(H:Hp):aK H H:=λ_ _ h=>h
theorem aK.trans{H H1 H2:Hp}(a:aK H H1)(b:aK H1 H2):aK H H2:=λc o h=>b c o (a c o h)
theorem aK.free{H H':Hp}(e:aK H H'){l:Addr}(h:H' l=Option.none):H l=Option.none:=by
 cases q:H l with
 |none=>rfl
 |some o=>
  rw [e l o q] at h;cases h
def h7(env:Env):List (Str×NameKind)→List (Str×Addr)→List (Str×Addr)
 | [],cs=>cs
 | (n,k)::r,cs=>if k==NameKind.free then h7 env r ((n,(env.cells.lookup n).getD 0)::cs) else h7 env r cs
theorem fw{scope:Scope}{env:Env}(h:∀x∈scope.names,x.2= .free→∃c,env.cells.lookup x.1=some c):closureFor scope env=pure (h7 env scope.names []):=by
 simp only [closureFor]
 have go:∀(names:List (Str×NameKind))(cs:List (Str×Addr)),(∀x∈names,x.2= .free→∃c,env.cells.lookup x.1=some c)→
   (forIn names cs λx __s=>if (x.snd==NameKind.free)=true then (do let a ←cellOf env x.fst;pure (ForInStep.yield ((x.fst,a)::__s))) else pure (ForInStep.yield __s))=(pure (h7 env names cs):Sem _):=by
  intro names
  induction names with
  |nil=>intro cs _;rfl
  |cons x r ih=>
   intro cs h;obtain ⟨n,k⟩:=x;rw [List.forIn_cons,h7];have hr:=λcs=>ih cs λy hy=>h y (cM _ hy);cases hk:k==NameKind.free with
   |false=>
    simp only [hk,mm,if_false];exact hr cs
   |true=>
    have kg:k= .free:=by simpa using hk
    obtain ⟨c,hc⟩:=h (n,k) cD kg;simp only at hc;simp only [if_true,cellOf,hc];exact hr _
 rw [go _ _ h];rfl
theorem fv{env:Env}:∀(names:List (Str×NameKind))(cs:List (Str×Addr)),(∀x∈names,x.2= .free→∃c,env.cells.lookup x.1=some c)→(∀x c,cs.lookup x=some c→env.cells.lookup x=some c)→
  ∀x c,(h7 env names cs).lookup x=some c→env.cells.lookup x=some c
 | [],cs,_,hc=>hc
 | (n,k)::r,cs,h,hc=>by
  rw [h7]
  split
  ·rename_i hk
   refine fv r _ (λy hy=>h y (cM _ hy)) λx c e=>?_;obtain ⟨c',rV⟩:=h (n,k) cD (by simpa using hk)
   rw [rG] at e
   split at e
   ·rename_i hx
    have PJ:x=n:=by simpa using hx
    subst PJ;simp only at rV;rw [rV] at e ⊢;exact e
   ·exact hc x c e
  ·exact fv r cs (λy hy=>h y (cM _ hy)) hc
theorem nW{env:Env}:∀(names:List (Str×NameKind))(cs:List (Str×Addr))(x:Str),((x,NameKind.free)∈names∨∃c,cs.lookup x=some c)→∃c,(h7 env names cs).lookup x=some c
 | [],cs,x,h=>by
  rcases h with h|h
  ·cases h
  ·exact h
 | (n,k)::r,cs,x,h=>by
  rw [h7]
  split
  ·rename_i hk
   refine nW r _ x ?_
   by_cases e:x=n
   ·subst e;exact .inr ⟨(env.cells.lookup x).getD 0,by simp [rG]⟩
   ·have ne:(x==n)=false:=by simpa using e
    rcases h with h| ⟨c,h⟩
    ·rcases cv.mp h with z|z
     ·cases z;exact absurd rfl e
     ·exact .inl z
    ·exact .inr ⟨c,by rw [rG,ne];exact h⟩
  ·rename_i hk
   refine nW r cs x ?_
   rcases h with h|h
   ·rcases cv.mp h with z|z
    ·cases z;exact absurd rfl hk
    ·exact .inl z
   ·exact .inr h
def me(src:List (Option Nat))(σ:St):St:=src.map λo=>o.bind λi=>(σ[i]?).bind id
def cR(scope:Scope)(XN:List Str):List (Option Nat)→List Str→Prop
 | [],[]=>True
 |none::r,_::n=>cR scope XN r n
 |some i::r,x::n=>XN[i]? =some x∧scope.names.lookup x=some .free∧cR scope XN r n
 |_,_=>False
theorem cR.len{scope:Scope}{XN:List Str}:∀{src:List (Option Nat)}{NC:List Str},cR scope XN src NC→src.length=NC.length
 | [],[],_=>rfl
 |none::r,_::n,h=>by have:=cR.len (src:=r) (NC:=n) h;simp [this]
 |some i::r,_::n,h=>by have:=cR.len (src:=r) (NC:=n) h.2.2;simp [this]
 | [],_::_,h=>h.elim
 |none::_,[],h=>h.elim
 |some _::_,[],h=>h.elim
theorem cR.at{scope:Scope}{XN:List Str}:∀{src:List (Option Nat)}{NC:List Str}{j i:Nat}{x:Str},cR scope XN src NC→src[j]? =some (some i)→NC[j]? =some x→XN[i]? =some x∧scope.names.lookup x=some .free
 | [],[],_,_,_,_,h,_=>by simp at h
 |none::r,_::n,0,_,_,_,h,_=>by simp at h
 |none::r,_::n,j+1,i,x,h,h1,h2=>cR.at (src:=r) (NC:=n) (j:=j) h (by simpa using h1) (by simpa using h2)
 |some k::r,y::n,0,i,x,h,h1,h2=>by
  have e1:k=i:=by simpa using h1
  have e2:y=x:=by simpa using h2
  subst e1 e2;exact ⟨h.1,h.2.1⟩
 |some k::r,_::n,j+1,i,x,h,h1,h2=>cR.at (src:=r) (NC:=n) (j:=j) h.2.2 (by simpa using h1) (by simpa using h2)
 | [],_::_,_,_,_,h,_,_=>h.elim
 |none::_,[],_,_,_,h,_,_=>h.elim
 |some _::_,[],_,_,_,h,_,_=>h.elim
structure b9 (X:Cx) (scope:Scope):Prop where
 kind:scope.kind= .function
 names:∀x∈scope.names,x.2= .local→scope.names.lookup x.1=some .local
 nocell:∀x∈scope.names,x.2≠ .cell
 free:∀x∈scope.names,x.2= .free→X.env.kindOf x.1=some .cell∨X.env.kindOf x.1=some .free
theorem iA{env:Env}:∀(names:List (Str×NameKind))(x:Str),
  (names.map λ(n,k)=>if (k==NameKind.free&&env.scope.kind== .function&&env.kindOf n==some .cell) then (n,NameKind.cell) else (n,k)).lookup x=
   (names.lookup x).map λk=>if (k==NameKind.free&&env.scope.kind== .function&&env.kindOf x==some .cell) then NameKind.cell else k
 | [],_=>rfl
 | (n,k)::r,x=>by
  have ih:=iA (env:=env) r x;show List.lookup x ((if (k==NameKind.free&&env.scope.kind== .function&&env.kindOf n==some .cell)=true then (n,NameKind.cell) else (n,k))::_)=_;cases hx:x==n with
  |true=>
   have e:x=n:=by simpa using hx
   subst e
   by_cases hc:(k==NameKind.free&&env.scope.kind== .function&&env.kindOf x==some .cell)=true
   ·rw [if_pos hc,rG,rG]
    simp only [hx];show some NameKind.cell=some (if _ then _ else _);rw [if_pos hc]
   ·rw [if_neg hc,rG,rG]
    simp only [hx];show some k=some (if _ then _ else _);rw [if_neg hc]
  |false=>
   by_cases hc:(k==NameKind.free&&env.scope.kind== .function&&env.kindOf n==some .cell)=true
   ·rw [if_pos hc];simp only [rG,hx];exact ih
   ·rw [if_neg hc];simp only [rG,hx];exact ih
theorem mem_lookup{names:List (Str×NameKind)}{x:Str}{k:NameKind}(h:names.lookup x=some k):(x,k)∈names:=PySem.mem_of_lookup h
def bT(X:Cx)(scope:Scope)(NC:List Str)(ex:List Addr)(s:Shared)(H:Hp):Cx:=
 {X with N:=NC,s₀:=s,H₀:=H,env:=compEnvC scope (h7 X.env scope.names []) s.heap.objs.size X.env,outer:=X.stack,stack:=X.stack,ex:=ex,fn:=λ_=>false,pn:= [],xe:=λ_ _=>False}
section
variable {X:Cx} {pins:List (Addr×Obj)} {σ:St} {H:Hp} {s:Shared} {scope:Scope} {NC:List Str} {ex:List Addr} {src:List (Option Nat)}
theorem b9.cells(c:b9 X scope)(ok:X.Ok):∀x∈scope.names,x.2= .free→∃c,X.env.cells.lookup x.1=some c:=λx hx e=>ok.has x.1 (c.free x hx e)
theorem b9.PV(c:b9 X scope){C:Addr}{x:Str}{k:NameKind}(h:(compEnvC scope (h7 X.env scope.names []) C X.env).kindOf x=some k)(hk:k= .cell∨k= .free):scope.names.lookup x=some .free:=by
 have h':(relabel scope X.env).names.lookup x=some k:=h;unfold relabel at h';rw [iA] at h';cases e:scope.names.lookup x with
 |none=>rw [e] at h';cases h'
 |some k'=>
  have nc:=c.nocell _ (mem_lookup e);rw [e] at h';have h2:(if (k'==NameKind.free&&X.env.scope.kind== .function&&X.env.kindOf x==some .cell) then NameKind.cell else k')=k:=Option.some.inj h'
  by_cases hf:k'= .free
  ·rw [hf]
  ·have hb:(k'==NameKind.free)=false:=by simpa using hf
   rw [hb,wz,wz,if_neg cW] at h2
   rcases hk with z|z
   ·rw [h2] at nc;exact absurd z nc
   ·rw [h2] at hf;exact absurd z hf
theorem Ih(I:Inv X pins σ H s)(c:b9 X scope)(hf:∀b∈ex,eW X pins H b)(bN:∀b∈ex,b<s.heap.objs.size):(bT X scope NC ex s H).Ok where
 mod:=I.ok.mod
 kind:=c.kind
 glob:=I.ok.glob
 blt:=I.ok.blt
 above:=bC _
 inj:=λx y d h1 h2=>I.ok.inj x y d (fv _ _ (c.cells I.ok) (λ_ _ z=>by cases z) x d h1) (fv _ _ (c.cells I.ok) (λ_ _ z=>by cases z) y d h2)
 has:=λx hx=>nW _ _ x (.inl (mem_lookup (by rcases hx with h|h<;>exact c.PV h (by simp))))
 cab:=λ_ _ z=>by cases z
 hd:=I.ok.hd
 frames:=I.ok.frames
 stk:= .inl rfl
 exf:=λb hb=>⟨bV (bN b hb),λx d e=>(hf b hb).2.2.2.2.1 x d (fv _ _ (c.cells I.ok) (λ_ _ z=>by cases z) x d e)⟩
 bs:=I.bs
 bsz:=kM I.ok.bsz I.sz
 noex:=λb o e hb=>by
  rcases (hf b hb).2.2.2.1 with z|z
  ·exact I.ok.noex b o e z
  ·exact absurd (gP (Heap.lt_size e) (kM I.ok.bsz z)) (iw _)
 exfs:=λb hb z=>(cv.mp (I.Ah b z)).elim (hf b hb).2.1 (hf b hb).2.2.1
 funs:=I.stack
 frf:=I.CK
theorem rN{h1:Heap}{tk:Nat}{ob:Obj}(I:Inv X pins σ H s)(c:b9 X scope)(dO:cR scope X.N src NC)(hf:∀b∈ex,eW X pins H b)(bN:∀b∈ex,b<s.heap.objs.size)
  (u5:h1.Ns s.heap.objs.size (λ_=>none)) (t8:Heap.SameBut s.heap.objs.size (s.heap.push ob) h1):
  Inv (bT X scope NC ex s H) [] (me src σ) H {s with heap:=h1,toks:=tk}:=by
 have old:∀b o,s.heap.get? b=some o→h1.get? b=some o:=λb o e=>t8.extBut b o (bV (Heap.lt_size e)) (Heap.get?_push_of_some _ e);have cl:∀x d,(h7 X.env scope.names []).lookup x=some d→X.env.cells.lookup x=some d:=λx d=>fv _ _ (c.cells I.ok) (λ_ _ z=>by cases z) x d
 have cellK:∀d v,s.heap.IsCell d v→h1.IsCell d v:=λd v ⟨o,ho,hd⟩=>⟨o,old d o ho,hd⟩;refine ⟨Ih I c hf bN,rfl,I.bare,Un.kept old,⟨_,u5,λj x v e1 e2 e3=>?_⟩,λx d e=>?_,I.hok.fresh (bC _),λx d e=>I.freeC x d (cl x d e),λp hp=>absurd (show p∈([]:List (Addr×Obj)) from hp) (by simp),I.hok.kept old,?_⟩
 ·have jt:(me src σ)[j]? =some (some v):=e2
  unfold me at jt;rw [e7] at jt;cases ej:src[j]? with
  |none=>rw [ej] at jt;cases jt
  |some o=>
   rw [ej] at jt;cases o with
   |none=>cases jt
   |some i=>
    have e4:(σ[i]?).bind id=some v:=Option.some.inj jt
    have e5:σ[i]? =some (some v):=by
     cases q:σ[i]? with
     |none=>rw [q] at e4;cases e4
     |some z=>rw [q] at e4;exact congrArg some e4
    obtain ⟨hN,Pq⟩:=dO.at ej e1;have hk:=c.free _ (mem_lookup Pq) rfl;obtain ⟨m,hn,hl⟩:=I.loc;obtain ⟨u,r,l⟩:=hl i x v hN e5 (hk.elim (λz=> .inr (.inl z)) (λz=> .inr (.inr z)));refine ⟨u,r, .inr ⟨?_,?_⟩⟩
    ·show (relabel scope X.env).names.lookup x=_∨(relabel scope X.env).names.lookup x=_
     unfold relabel;rw [iA,Pq]
     by_cases z:(NameKind.free==NameKind.free&&X.env.scope.kind== .function&&X.env.kindOf x==some .cell)=true
     ·left;simp only [Option.map_some,z,if_true]
     ·right;simp only [Option.map_some,z];rfl
    ·obtain ⟨d,hd⟩:=nW (env:=X.env) scope.names [] x (.inl (mem_lookup Pq))
     refine ⟨d,hd,?_⟩
     rcases l with ⟨l,_⟩ | ⟨_,d',e,z⟩
     ·exfalso;rcases hk with z|z<;>(rw [l] at z;cases z)
     ·rw [cl x d hd] at e;cases e;exact cellK d _ z
 ·obtain ⟨v,z⟩:=I.cell x d (cl x d e)
  exact ⟨v,cellK d v z⟩
 ·show (me src σ).length=NC.length
  unfold me;rw [aI];exact dO.len
theorem comp_back{H':Hp}{ay:St}{s':Shared}{h2:Heap}{z9:List (Addr×Obj)}(I:Inv X pins σ H s)(hf:∀b∈ex,eW X pins H b)(J:Inv (bT X scope NC ex s H) z9 ay H' s')
  (t8:Heap.SameBut s.heap.objs.size s'.heap h2):Inv X pins σ H' {s' with heap:=h2}:=by
 have up:∀b o,b≠s.heap.objs.size→s'.heap.get? b=some o→h2.get? b=some o:=λb o hb e=>t8.extBut b o hb e;have ne:∀b o,s.heap.get? b=some o→b≠s.heap.objs.size:=λb o e=>bV (Heap.lt_size e);have u:=J.base;refine I.Od (ch:=ex) (show s'.os=s.os from J.os) ⟨λb o e n hb hx=>up b o (ne b o e) (u.keep b o e n hb hx),λb o e n hb hx=>?_,u.free,λb o e hx=>?_,u.tups,u.frzs,u.tbls⟩ ?_ J.bare λb hb=>?_
 ·obtain ⟨sl,q⟩:=u.slot b o e n hb hx
  exact ⟨sl,up b _ (ne b o e) q⟩
 ·obtain ⟨o',q⟩:=u.there b o e hx
  exact ⟨o',up b o' (ne b o e) q⟩
 ·intro b o e
  have nC:∀b o,H' b=some o→b≠s.heap.objs.size:=λb o e z=>by
   have:=J.free
   rw [z] at e;have e':H' s.heap.objs.size=none:=this;rw [e'] at e;cases e
  refine (J.hok b o e).tN (λd v hd q=>up d v ?_ q) (λ_ q=>q) λ_ _ q=>q
  rcases hd with z|z
  ·rw [z];exact nC b o e
  ·exact nC d _ z
 ·obtain ⟨_,f1,_,f3,f4,f5⟩:=hf b hb
  exact ⟨f3,f1,f4,f5⟩
end
def jS(X:Cx)(ifs:List Expr)(t:TT):Prop:=
 ∀(pins:List (Addr×Obj))(s:Shared)(σ:St)(H:Hp)(Q:Bool→Hp→Prop),Inv X pins σ H s→t σ H Q→
  wpAny (model X.prog X.w) X.A (forIn ifs true λc r=>if r=true then do let ok ←isTrue c X.env (eval c X.env);pure (ForInStep.yield ok) else pure (ForInStep.yield r)) (TP X pins σ Q) X.xe s
def Ws:TT:=λ_ H Q=>Q true H
theorem Kf{X:Cx}:jS X [] Ws:=λ_ _ _ H _ I h=>wpAny_tests_nil ⟨H,I,h⟩
theorem Kg{X:Cx}{c:Expr}{t:TT}(h:PT X c t):jS X [c] t:=λpins s σ H Q I q=>wpAny_tests_one (h pins s σ H Q I q)
def WH(J:It)(g:TG)(tt:TT)(te:TE)(D:Addr)(Q:VK)(σ:St)(H:Hp):Prop:=
 ∃W:Nat→Nat→St→Hp→Prop,(∃m,W 0 m σ H)∧∀i m eV H2,W i m eV H2→
  (J.stop i H2∧Q (.ref D) H2)∨
  (J.go i H2∧∃N:St→Hp→Prop,(∀ay H',N ay H'→∃m',m'<m∧W (i+1) m' ay H')∧∀x H3,J.yld i H2 x H3→g x eV H3 λfc H4=>tt fc H4 λb H5=>
   if b=true then te fc H5 λv H6=>∃ys,H6 D=some (.lst ys)∧ys.length<sizeLine∧N fc (upd H6 D (.lst (ys++ [v]))) else N fc H5)
def MO(wi:TI)(g:TG)(tt:TT)(te:TE)(src:List (Option Nat)):TE:=λσ H Q=>wi σ H λJ H1=>∀D,H1 D=none→WH J g tt te D Q (me src σ) (upd H1 D (.lst []))
section
variable {X:Cx} {elt iter tg:Expr} {ifs:List Expr} {scope:Scope} {pos:Pos} {wi:TI} {g:TG} {tt:TT} {te:TE} {src:List (Option Nat)} {NC:List Str}
theorem tm{pins:List (Addr×Obj)}{σ:St}{s2:Shared}{H2:Hp}{it:Addr}{fp:List Addr}{tn:Nat→Heap→Prop}{J:It}{RR:Value→Addr→Result→Shared→Prop}{E:Value→Shared→Prop}{Q:VK}
  (hc:X.calm=true) (c:b9 X scope) (dO:cR scope X.N src NC) (I2:Inv X pins σ H2 s2) (T:Turn X.prog X.w X.K tg J fp it tn) (iO:tn 0 s2.heap) (f2:∀b∈fp,eW X pins H2 b)
  (hg:∀s H,PG (bT X scope NC fp s H) tg g) (ht:∀s H,jS (bT X scope NC fp s H) ifs tt) (he:∀s H,PE (bT X scope NC fp s H) elt te)
  (hW:∀D,H2 D=none→∃W:Nat→Nat→St→Hp→Prop,(∃m,W 0 m (me src σ) (upd H2 D (.lst [])))∧∀i m eV H2,W i m eV H2→
   (J.stop i H2∧Q (.ref D) H2)∨
   (J.go i H2∧∃N:St→Hp→Prop,(∀ay H',N ay H'→∃m',m'<m∧W (i+1) m' ay H')∧∀x H3,J.yld i H2 x H3→g x eV H3 λfc H4=>tt fc H4 λb H5=>
    if b=true then te fc H5 λv H6=>∃ys,H6 D=some (.lst ys)∧ys.length<sizeLine∧N fc (upd H6 D (.lst (ys++ [v]))) else N fc H5))
  (Pc:∀D s3 H3 ay H' s',Inv X pins σ H3 s3→(∀b∈fp,eW X pins H3 b)→Inv (bT X scope NC fp s3 H3) [] ay H' s'→Q (.ref D) H'→RR (.ref D) s3.heap.objs.size (.ok .next) s'):
  wpAny (model X.prog X.w) X.A (newList []) (λacc KL=>wpAny (model X.prog X.w) X.A (newFunctionEnv scope X.env.globals (h7 X.env scope.names []) [] X.env.qual none .none (some X.env)) (λjx rm=>
   codeAny (model X.prog X.w) X.A (.compStart (.ListComp elt [⟨tg,iter,ifs,0⟩] scope pos) 0 (.ref it) acc {jx with scope:=relabel scope X.env}) (RR acc jx.locals) rm) E KL) E s2:=by
 obtain ⟨W,⟨m0,w0⟩,turn⟩:=hW s2.heap.objs.size I2.fresh;have I3:Inv X pins σ (upd H2 s2.heap.objs.size (.lst [])) {s2 with heap:=s2.heap.push {cls:= .type "list",data:= .seq ([]:List Value).toArray}}:=I2.B5 (its:= []) (t':=s2.toks) .nil (cH _)
 have B6:∀b∈fp,b<s2.heap.objs.size:=λb hb=>by
  obtain ⟨o,e,_⟩:=T.obj _ _ iO b hb;exact Heap.lt_size e
 have f3:∀b∈fp,eW X pins (upd H2 s2.heap.objs.size (.lst [])) b:=λb hb=>⟨by rw [aG (bV (B6 b hb))];exact (f2 b hb).1,(f2 b hb).2⟩
 refine wpAny_newObj_type ?_
 suffices key:∀s3:Shared,Inv X pins σ (upd H2 s2.heap.objs.size (.lst [])) s3→(∀b o,s2.heap.get? b=some o→s3.heap.get? b=some o)→
   wpAny (model X.prog X.w) X.A (newFunctionEnv scope X.env.globals (h7 X.env scope.names []) [] X.env.qual none .none (some X.env)) (λjx rm=>
    codeAny (model X.prog X.w) X.A (.compStart (.ListComp elt [⟨tg,iter,ifs,0⟩] scope pos) 0 (.ref it) (.ref s2.heap.objs.size) {jx with scope:=relabel scope X.env}) (RR (.ref s2.heap.objs.size) jx.locals) rm) E s3 from
  key _ I3 λb o e=>Heap.get?_push_of_some _ e
 intro s3 I3 KU;have qa:tn 0 s3.heap:=T.keep _ _ _ iO λb _ o e=>KU b o e
 have vq:∀b∈fp,b<s3.heap.objs.size:=λb hb=>by
  obtain ⟨o,e,_⟩:=T.obj _ _ qa b hb;exact Heap.lt_size e
 generalize SN:upd H2 s2.heap.objs.size (.lst [])=H3 at I3 f3 w0;refine wpAny_newFunctionEnv c.nocell (by intro y hy;simp at hy) (λh1 u5 t8=>?_) c.kind
 have I4:=rN (src:=src) (NC:=NC) (ex:=fp) (tk:=s3.toks+([]:List (Str×Value)).length) I3 c dO f3 vq u5 t8;have CI:tn 0 h1:=T.keep _ _ _ qa λb hb o e=>t8.extBut b o (bV (vq b hb)) (Heap.get?_push_of_some _ e);generalize hX:bT X scope NC fp s3 H3=XC at I4
 have stat:∀{H':Hp},(∀b∈fp,H' b=none)→∀b∈fp,eW XC [] H' b:=λ {H'} hn b hb=>by
  subst hX;refine ⟨hn b hb,bV (vq b hb),λz=>?_, .inl hb,λx d e=>?_,λp hp=>absurd (show p∈([]:List (Addr×Obj)) from hp) (by simp)⟩
  ·exact (I4.ok.exfs b hb) z
  ·exact (I4.ok.exf b hb).2 x d e
 have loop:codeAny (model X.prog X.w) X.A (.compLoop (.ListComp elt [⟨tg,iter,ifs,0⟩] scope pos) 0 (.ref it) (.ref s2.heap.objs.size) XC.env) (RR (.ref s2.heap.objs.size) s3.heap.objs.size)
   {s3 with heap:=h1,toks:=s3.toks+([]:List (Str×Value)).length}:=by
  refine codeAny_loop rfl (λn s'=>∃i ay H',Inv XC [] ay H' s'∧tn i s'.heap∧(∀b∈fp,H' b=none)∧W i n ay H') (λn s' hI=>?_) m0 ⟨0,_,_,I4,CI,λb hb=>(f3 b hb).1,w0⟩;obtain ⟨i,ay,H',I5,qb,rT,w5⟩:=hI;show wpAny _ X.A ((compTurn (.ListComp elt [⟨tg,iter,ifs,0⟩] scope pos) 0 (.ref it) (.ref s2.heap.objs.size) XC.env).onRaise (λx=>do noteFrame x XC.env;theTreesLotGoes x)) _ _ s'
  refine wpAny_noted ?_;rw [compTurn_list]
  have ie:∀{α:Type}{t:Sem α}{Q:α→Shared→Prop}{E:Value→Shared→Prop}{s:Shared},wpAny (model XC.prog XC.w) XC.A t Q XC.xe s→wpAny (model X.prog X.w) X.A t Q E s:=λ {α t Q E s} h=>by
   subst hX;exact wpAny_mono h (λ_ _ q=>q) λ_ _ f=>f.elim
  have w4:XC.calm=true:=by subst hX;exact hc
  have eP:XC.prog=X.prog:=by subst hX;rfl
  have ew:XC.w=X.w:=by subst hX;rfl
  have eK:XC.K=X.K:=by subst hX;rfl
  have eA:XC.A=X.A:=by subst hX;rfl
  have Je:PG XC tg g:=by subst hX;exact hg _ _
  have Jn:jS XC ifs tt:=by subst hX;exact ht _ _
  have Ja:PE XC elt te:=by subst hX;exact he _ _
  refine wpAny_bind (wpAny_standAt (wpAny_bind ?_))
  rcases turn i n ay H' w5 with ⟨stop,qn⟩ | ⟨go,N,hN,step⟩
  ·have hd:=T.done XC eP ew eK w4 i [] s' ay H' (notedBy (model X.prog X.w) X.A XC.env λe s'=>RR (.ref s2.heap.objs.size) s3.heap.objs.size (.error e) s') I5 (stat rT) qb stop
   rw [eA] at hd;refine thn hd λr s6 ⟨hr,I6⟩=>?_;subst hr;refine wpAny_pure ?_;subst hX;exact Pc _ s3 H3 ay H' s6 I3 f3 I6 qn
  ·have hd:=T.item XC eP ew eK w4 i [] s' ay H' (notedBy (model X.prog X.w) X.A XC.env λe s'=>RR (.ref s2.heap.objs.size) s3.heap.objs.size (.error e) s') I5 (stat rT) qb go
   rw [eA] at hd;refine thn hd λr s6 ⟨u,hr,h6⟩=>?_;subst hr;refine wpAny_bind (thn h6 λ_ s7 ⟨x,H7,I7,r7,y7,qc,DB⟩=>?_);have C2:=I7.pinned (stat DB) (T.obj _ _ qc)
   have again:∀{eu:St}{H8:Hp}{s8:Shared},Inv XC ([]++jF fp s7.heap) eu H8 s8→N eu H8→∃m,m<n∧∃i ay H',Inv XC [] ay H' s8∧tn i s8.heap∧(∀b∈fp,H' b=none)∧W i m ay H':=λ {eu H8 s8} I8 n8=>by
    obtain ⟨m',hm,w8⟩:=hN eu H8 n8;refine ⟨m',hm,i+1,eu,H8,I8.g9,T.keep _ _ _ qc λb hb o e=>(I8.pin (b,o) (cG _ (cG _ (cU hb e)))).1,λb hb=>?_,w8⟩;obtain ⟨o,e,d⟩:=T.obj _ _ qc b hb;exact (I8.pin (b,o) (cG _ (cG _ (cU hb e)))).2.1
   refine wpAny_bind (ie (thn (Je _ s7 ay H7 x u _ C2 r7 (step x H7 y7)) λ_ s8 ⟨eu,H8,I8,q8⟩=>?_));refine wpAny_bind (ie (thn (Jn _ s8 eu H8 _ I8 q8) λb s9 ⟨H9,I9,q9⟩=>?_));cases b with
   |false=>
    rw [if_neg cW] at q9;exact wpAny_pure ⟨by subst hX;rfl,again I9 q9⟩
   |true=>
    rw [if_pos rfl] at q9;refine wpAny_bind (wpAny_bind (ie (thn (Ja _ s9 eu H9 _ I9 q9) λy Kt ⟨v,HI,N6,Qj,ys,hD,hz,Qh⟩=>?_)));refine wpAny_bind (ie (thn (pW _ Kt eu HI (.ref s2.heap.objs.size) [v] _ [y] (λ_ H'=>N eu H') N6 rfl (.cons Qj .nil) ⟨_,ys,v,rfl,rfl,hD,hz,Qh⟩) λ_ EI ⟨_,HJ,C1,_,Qi⟩=>?_));exact wpAny_pure (wpAny_pure ⟨by subst hX;rfl,again C1 Qi⟩)
 subst hX;exact codeAny_compStart_list loop (T.self _ 0 _ _ _ CI loop)
theorem J0(hc:X.calm=true)(c:b9 X scope)(dO:cR scope X.N src NC)(hi:PI X tg iter wi)
  (hg:∀ex s H,PG (bT X scope NC ex s H) tg g) (ht:∀ex s H,jS (bT X scope NC ex s H) ifs tt) (he:∀ex s H,PE (bT X scope NC ex s H) elt te)
  (hs:∀x,foldedSetIterable iter X.env x=pure x:=by intro _;rfl):PE X (.ListComp elt [⟨tg,iter,ifs,0⟩] scope pos) (MO wi g tt te src):=by
 intro pins s σ H Q I h;rw [eval_ListComp];refine wpAny_comprehension_free (use:=none) rfl hs (fw (c.cells I.ok)) c.kind c.names (thn (hi pins s σ H _ I h) λv s1 h1=>thn h1 λBZ s2 h2=>?_);obtain ⟨it,fp,tn,J,H2,rfl,I2,T,iO,f2,hW⟩:=h2;refine tm (RR:=λacc C=>compPost (model X.prog X.w) X.A X.xe none (EP X pins σ Q) acc C) (Q:=Q) hc c dO I2 T iO f2 (hg fp) (ht fp) (he fp) hW ?_;intro D s3 H3 ay H' s' I3 f3 J' q;obtain ⟨m,hn,_⟩:=J'.loc;exact ⟨m,hn,λh' sb=>⟨.ref D,H',comp_back I3 f3 J' sb,rfl,q⟩⟩
def MN(wi:TI)(g:TG)(tt:TT)(te:TE)(src:List (Option Nat))(i:Nat):TS:=λD σ H=>MO wi g tt te src σ H λv H'=>D.nx (σ.set i (some v)) H'
theorem yh{i:Nat}{x:Str}{px ij:Pos}(hc:X.calm=true)(hN:X.N.Nodup)(iK:X.N[i]? =some x)(hx:Loc X.env.scope x)(c:b9 X scope)(dO:cR scope X.N src NC)(hi:PI X tg iter wi)
  (hg:∀ex s H,PG (bT X scope NC ex s H) tg g) (ht:∀ex s H,jS (bT X scope NC ex s H) ifs tt) (he:∀ex s H,PE (bT X scope NC ex s H) elt te)
  (kW:swapsWith (.ListComp elt [⟨tg,iter,ifs,0⟩] scope pos) (some (.Name x px)) ij.line X.env=pure true)
  (hf:X.fn x=true∨X.env.scope.names.lookup x=some .local:=by first|exact .inl rfl|exact .inr rfl|assumption)
  (hs:∀x,foldedSetIterable iter X.env x=pure x:=by intro _;rfl):PS X (.Assign [.Name x px] (.ListComp elt [⟨tg,iter,ifs,0⟩] scope pos) ij) (MN wi g tt te src i):=by
 intro pins s σ H D I h;rw [exec_Assign_Name_used _ _ _ _ kW];refine wpAny_bind (wpAny_standAt (wpAny_bind ?_));show wpAny _ X.A (do let _ ←comprehension (.ListComp elt [⟨tg,iter,ifs,0⟩] scope pos) scope X.env _ (newList []) false (eval iter X.env) (some (assign (.Name x px) X.env))) _ _ s
 refine wpAny_bind (wpAny_mono (wpAny_comprehension_free (use:=some (assign (.Name x px) X.env)) (Q:=λ_ s'=>SP X pins D .next s') rfl hs (fw (c.cells I.ok)) c.kind c.names
  (thn (hi pins s σ H _ I h) λv s1 h1=>thn h1 λBZ s2 h2=>?_)) (λ_ s' hq=>wpAny_pure (wpAny_pure hq)) λ_ _ e=>e)
 obtain ⟨it,fp,tn,J,H2,rfl,I2,T,iO,f2,hW⟩:=h2;refine tm (RR:=λacc C=>compPost (model X.prog X.w) X.A X.xe (some (assign (.Name x px) X.env)) (λ_ s'=>SP X pins D .next s') acc C) (Q:=λv H'=>D.nx (σ.set i (some v)) H') hc c dO I2 T iO f2 (hg fp) (ht fp) (he fp) hW ?_;intro a s3 H3 ay H' s' I3 f3 J' q;obtain ⟨m,hn,_⟩:=J'.loc;have IX:Inv X pins σ H' s':=comp_back I3 f3 J' (.refl ..);show wpAny _ X.A (assign (.Name x px) X.env (.ref a)) _ _ _;have nL:s3.heap.objs.size≠X.env.locals:=Nat.ne_of_gt I3.lt
 have nc:∀y d,X.env.cells.lookup y=some d→d≠s3.heap.objs.size:=λy d e z=>by
  obtain ⟨v,hv⟩:=I3.cell y d e
  have:=hv.lt
  rw [z] at this;exact absurd this (iw _)
 have np:∀p∈X.pn++pins,p.1≠s3.heap.objs.size:=λp hp z=>by
  have:=Heap.lt_size (I3.pin p hp).1
  rw [z] at this;exact absurd this (iw _)
 obtain ⟨oC,es,ep,PC,DP,rC⟩:=id hn;have IT:H' s3.heap.objs.size=none:=J'.free
 have IP:Inv X ((s3.heap.objs.size,oC)::pins) σ H' s':=IX.kx λp hp=>by
  rcases cv.mp hp with z|z
  ·rw [z]
   exact ⟨PC,IT,nL,I3.JN (bC _),λv w=>by rw [DP] at w;cases w⟩
  ·exact IX.pin p (cG _ z)
 refine wpAny_assign_Name (ou (x:=x) IP hN iK hx (v:= .ref a) rfl (λs5 I5=>?_) hf);have O8:=(I5.pin (s3.heap.objs.size,oC) (cG _ cD)).1;refine ⟨m,⟨oC,es,ep,O8,DP,rC⟩,λh6 sb=>?_⟩;have HK:Inv X pins (σ.set i (some (.ref a))) H' s5:=I5.kx λp hp=>I5.pin p (cG _ (cM _ hp));exact ⟨_,H',HK.turned (t':=s5.toks) (it:=s3.heap.objs.size) (λb o hb e=>sb.extBut b o hb e) IT nL (.inr I3.sz) nc np,q⟩
end
section
variable {X:Cx} {pins:List (Addr×Obj)} {σ:St} {H:Hp} {s:Shared} {h':Heap} {fp:List Addr}
theorem Inv.CN{t':Nat}(I:Inv X pins σ H s)(hf:∀b∈fp,eW X pins H b)(k:∀b o,b∉fp→s.heap.get? b=some o→h'.get? b=some o):Inv X pins σ H {s with heap:=h',toks:=t'}:=by
 refine I.step (g':=s.gens) (d':=s.drawn) (ch:=fp) (λb hb=>?_) (λb o _ _ hc e _=>k b o hc e) (λb o _ _ hc e _=>⟨o.slots,k b o hc e⟩) (λ_ _ _ _ n=>n)
  (λb o hc e=>⟨o,k b o hc e⟩) (λ_ _ e=>e) (λ_ _ _ e=>e) (λb ps e=>⟨#[],by rw [e];simp⟩) (λm hm=>?_) (λb u e=>?_) I.bare
 ·obtain ⟨_,f1,_,f3,f4,f5⟩:=hf b hb
  exact ⟨f3,f1,f4,f5⟩
 ·obtain ⟨o,es,ep,ho,r⟩:=hm
  exact ⟨o,es,ep,k _ o (λz=>(hf _ z).2.1 rfl) ho,r⟩
 ·have nf:∀b u,H b=some u→b∉fp:=λb u e z=>by rw [(hf b z).1] at e;cases e
  refine (I.hok b u e).tN (λc v hc q=>k c v ?_ q) (λ_ q=>q) λ_ _ q=>q
  rcases hc with z|z
  ·rw [z];exact nf b u e
  ·exact nf c _ z
theorem Inv.KR{t':Nat}{t:Addr}{o:HO}(I:Inv X pins σ H s)(hf:∀b∈fp,eW X pins H b)(k:∀b o,b∉fp→s.heap.get? b=some o→h'.get? b=some o)(ht:s.heap.objs.size≤t)
  (new:dF X.prog X.w (upd H t o) h' t o):Inv X pins σ (upd H t o) {s with heap:=h',toks:=t'}:=by
 have nt:H t=none:=I.hok.fresh ht;have up:∀b u,H b=some u→upd H t o b=some u:=λb u e=>by rw [aG (aY e nt)];exact e
 refine I.step (g':=s.gens) (d':=s.drawn) (ch:=fp) (λb hb=>?_) (λb o _ _ hc e _=>k b o hc e) (λb o _ _ hc e _=>⟨o.slots,k b o hc e⟩) (λb o _ e n=>?_)
  (λb o hc e=>⟨o,k b o hc e⟩) (λb xs e=>up b _ e) (λb _ _ e=>up b _ e) (λb ps e=>⟨#[],by rw [up b _ e];simp⟩) (λm hm=>?_) (λb u e=>?_) I.bare
 ·obtain ⟨_,f1,_,f3,f4,f5⟩:=hf b hb
  exact ⟨f3,f1,f4,f5⟩
 ·rw [aG (bV (gP (Heap.lt_size e) ht))];exact n
 ·obtain ⟨o,es,ep,ho,r⟩:=hm
  exact ⟨o,es,ep,k _ o (λz=>(hf _ z).2.1 rfl) ho,r⟩
 ·by_cases hb:b=t
  ·subst hb
   rw [aC] at e;cases e;exact new
  ·rw [aG hb] at e
   have nf:∀b u,H b=some u→b∉fp:=λb u e z=>by rw [(hf b z).1] at e;cases e
   refine (I.hok b u e).tN (λc v hc q=>k c v ?_ q) (λb' q=>up b' _ q) λb' _ q=>up b' _ q
   rcases hc with z|z
   ·rw [z];exact nf b u e
   ·exact nf c _ z
end
def N8(K:PySem.W.Frag)(a:Addr):It:=
 ⟨λi H=>∃xs x,cQ K H a xs∧xs[i]? =some x,λi H y H'=>∃t x,y= .ref t∧H t=none∧H'=upd H t (.tup [.int i,x])∧∀xs,cQ K H a xs→xs[i]? =some x,λi H=>∃xs,cQ K H a xs∧xs.length≤i⟩
theorem BY{h:Heap}{t:Addr}{u v:Value}(e:h.get? t=some {cls:= .type "tuple",data:= .seq #[u,v]}):IsTup h t [u,v].toArray:=⟨_,e,rfl,_,rfl⟩
theorem EW{P:Program}{w:World}{K:PySem.W.Frag}{es:List Expr}{k1}{tp:Pos}(a e it:Addr)(ne:e≠it):
  Turn P w K (.Tuple es k1 tp) (N8 K a) [e,it] e (λi h=>(∃old,IsEnum h e it i old)∧h.IsListIter it a i) where
 mem:=by simp
 obj:=λi h st b hb=>by
  obtain ⟨⟨old,he⟩,o,e2,c,d⟩:=st
  rcases cv.mp hb with z|z
  ·subst z
   exact ⟨_,he,λv w=>by cases w⟩
  ·have z':b=it:=by simpa using z
   subst z';exact ⟨o,e2,λv z=>by rw [d] at z;cases z⟩
 keep:=λi h h' st k=>by
  obtain ⟨⟨old,he⟩,iO⟩:=st;exact ⟨⟨old,k e (by simp) _ he⟩,iO.at λo q=>k it (by simp) o q⟩
 item:=by
  intro X hP hw hK hc i pins s σ H E I hf st hg;subst hP hw hK;obtain ⟨xs,x,hq,hx⟩:=hg;obtain ⟨its,rv,p,hz⟩:=I.list hq;obtain ⟨u,hu,ru⟩:=rv.get hx;obtain ⟨⟨old,he⟩,hit⟩:=st;refine wpAny_pyNext_enum_item he hit p.isList (x:=u) (by simpa using hu) ne λh' Pn Jf YW aah kk=>?_
  have k2:∀b o,b∉ [e,it]→s.heap.get? b=some o→h'.get? b=some o:=λb o hb q=>kk b o (λz=>hb (by simp [z])) (λz=>hb (by simp [z])) q
  have I1:Inv X pins σ (upd H s.heap.objs.size (.tup [.int i,x])) {s with heap:=h',toks:=s.toks+1}:=
   I.KR hf k2 (bC _) ⟨by show 2≤sizeLine;decide,[.int i s.toks,u], .cons ⟨_,rfl⟩ (.cons ru .nil),BY YW⟩
  refine ⟨_,rfl,wpAny_letOwnedTupleGo_enum Pn λh2 Yv sb=>?_⟩
  have lt:∀b∈ [e,it],b<s.heap.objs.size:=λb hb=>by
   rcases cv.mp hb with z|z
   ·rw [z];exact Heap.lt_size he
   ·obtain ⟨o,e2,_⟩:=hit
    have z':b=it:=by simpa using z
    rw [z'];exact Heap.lt_size e2
  have S9:∀b∈ [e,it],eW X pins (upd H s.heap.objs.size (.tup [.int i,x])) b:=λb hb=>⟨by rw [aG (bV (lt b hb))];exact (hf b hb).1,(hf b hb).2⟩
  refine ⟨.ref s.heap.objs.size,_,I1.CN (t':=s.toks+1) S9 (λb o hb q=>sb.extBut b o (λz=>hb (by simp [z])) q),rfl,⟨_,x,rfl,I.hok.fresh (bC _),rfl,λys hy=>by rw [I.xW hy hq];exact hx⟩,⟨⟨u,?_⟩,Jf.extBut sb.extBut (Ne.symm ne)⟩,λb hb=>(S9 b hb).1⟩
  have z:((i+1:Nat):Int)=(i:Int)+1:=by omega
  rw [z];exact Yv
 done:=by
  intro X hP hw hK hc i pins s σ H E I hf st hg;subst hP hw hK;obtain ⟨xs,hq,hx⟩:=hg;obtain ⟨its,rv,p,hz⟩:=I.list hq;have hl:=rv.length;obtain ⟨⟨old,he⟩,hit⟩:=st;exact wpAny_pyNext_enum_end (I.ok.hd hc) he hit p.isList (by simp;omega) λh' eb=>⟨rfl,I.CN (t':=s.toks) hf λb o hb q=>eb b o (λz=>hb (by simp [z])) q⟩
 self:=λ_ _ _ _ _ st h=>by
  obtain ⟨⟨old,he⟩,_⟩:=st;exact wpAny_pyIter_enum he h
section
variable {X:Cx}
def PL(K:PySem.W.Frag)(ta:TA):TI:=λσ H R=>ta σ H λvs H1=>∃a,vs= [.ref a]∧(∃xs,H1 a=some (.lst xs))∧R (N8 K a) H1
theorem J6{a:Expr}{ta:TA}{p pos:Pos}{es:List Expr}{k1}{tp:Pos}(hg:Gl X "enumerate")(hm:X.mg "enumerate"=none)(ha:PA X [a] ta)(hs:starEach [a] X.env= [(false,eval a X.env)]:=by rfl):
  PI X (.Tuple es k1 tp) (.Call (.Name "enumerate" p) [a] [] pos) (PL X.K ta):=by
 intro pins s σ H R I h;refine Call_ (iM I hg hm boot_enumerate (PyProof.Rows.callWith_type1 (thn (ha pos pins s σ H _ I h) λus s1 ⟨vs,H1,I1,r1,q1⟩=>?_) hs rfl));obtain ⟨l,e,⟨xs,hl⟩,q⟩:=q1;subst e;obtain ⟨u,rfl,ru⟩:=r1.one;cases ru;obtain ⟨z,its,n,rv,hlen,e⟩:=I1.oX hl;refine call_enumerate_1 e λh' he hit fb kk=>?_;refine wpAny_pyIter_enum he ?_;have zK:s1.heap.objs.size+1≠s1.heap.objs.size:=Nat.succ_ne_self _;refine ⟨s1.heap.objs.size+1,[s1.heap.objs.size+1,s1.heap.objs.size],_,_,H1,rfl,I1.kept (t':=s1.toks) kk,EW l _ _ zK,⟨⟨_,he⟩,hit⟩,λb hb=>?_,q⟩
 have LC:s1.heap.objs.size≤b:=by
  rcases cv.mp hb with z|z
  ·rw [z];exact nU _
  ·have z':b=s1.heap.objs.size:=by simpa using z
   rw [z'];exact bC _
 exact I1.IK LC (I1.hok.fresh LC)
end
end L2
namespace Wb
abbrev W:=List (List Nat)
def row(w:W)(p:Nat):List Nat:=w.getD p []
inductive Reach (w:W):Nat→Nat→Prop
 |refl (p):Reach w p p
 |step {p q r}:Reach w p q→r∈row w q→Reach w p r
structure Good (w:W):Prop where
 rng:∀p q,q∈row w p→q<w.length
 irr:∀p,p∉row w p
 nod:∀p,(row w p).Nodup
 sym:∀p q,q∈row w p→p∈row w q
 con:∀p,p<w.length→Reach w 0 p
theorem bI{w:W}{p q:Nat}(h:q∈row w p):p<w.length:=by
 apply Classical.byContradiction;intro hn;unfold row at h;rw [aL,mh (by omega)] at h
 simp at h
theorem Ks{w:W}{p:Nat}(h:p<w.length):w[p]? =some (row w p):=by
 unfold row;rw [aL,bz h];rfl
theorem FY{w:W}{p:Nat}{r:List Nat}(h:w[p]? =some r):row w p=r:=by
 unfold row;rw [aL,h];rfl
theorem Cu{w:W}{p:Nat}(h:w.length≤p):row w p= []:=by
 unfold row;rw [aL,mh h];rfl
theorem Reach.trans{w:W}{p q r:Nat}(h:Reach w p q)(h':Reach w q r):Reach w p r:=by
 induction h' with
 |refl=>exact h
 |step _ hr ih=>exact .step ih hr
theorem Reach.symm{w:W}(hs:∀p q,q∈row w p→p∈row w q){p q:Nat}(h:Reach w p q):Reach w q p:=by
 induction h with
 |refl=>exact .refl _
 |step _ hr ih=>exact (Reach.step (.refl _) (hs _ _ hr)).trans ih
theorem Reach.mono{w w':W}(hm:∀p q,q∈row w p→q∈row w' p){p q:Nat}(h:Reach w p q):Reach w' p q:=by
 induction h with
 |refl=>exact .refl _
 |step _ hr ih=>exact .step ih (hm _ _ hr)
def ins{α:Type}(xs:List α)(i:Nat)(x:α):List α:=xs.take i++x::xs.drop i
theorem rX{α:Type}(xs:List α)(i:Nat)(x:α):(ins xs i x).Perm (x::xs):=by
 unfold ins;have h:= @List.perm_middle _ x (xs.take i) (xs.drop i);rw [iq] at h;exact h
theorem JE{α:Type}{xs:List α}{i:Nat}{x a:α}:a∈ins xs i x↔a=x∨a∈xs:=by
 rw [(rX xs i x).mem_iff,cv]
theorem El{α:Type}{xs:List α}{i:Nat}{x:α}(h:xs.Nodup)(hx:x∉xs):(ins xs i x).Nodup:=by
 rw [(rX xs i x).nodup_iff,gS];exact ⟨hx,h⟩
theorem BW{α:Type}(xs:List α)(i:Nat)(x:α):(ins xs i x).length=xs.length+1:=by
 rw [(rX xs i x).length_eq];rfl
theorem good_ren{w w':W}{ord:Nat→Nat}(g:Good w)(hl:w'.length=w.length)(into:∀p,p<w.length→ord p<w.length)
  (inj:∀p q,p<w.length→q<w.length→ord p=ord q→p=q) (HA:∀y,y<w.length→∃p,p<w.length∧ord p=y)
  (NH:∀p,p<w.length→(row w' (ord p)).Perm ((row w p).map ord)):Good w':=by
 have mem:∀p q,p<w.length→(q∈row w' (ord p)↔∃a,a∈row w p∧ord a=q):=λp q hp=>by
  rw [(NH p hp).mem_iff,bK]
 have reach:∀{p q},Reach w p q→Reach w' (ord p) (ord q):=λ {p q} h=>by
  induction h with
  |refl=>exact .refl _
  |step _ hr ih=>exact .step ih ((mem _ _ (bI hr)).mpr ⟨_,hr,rfl⟩)
 refine ⟨λy q hy=>?_,λy hy=>?_,λy=>?_,λy q hy=>?_,λy hy=>?_⟩
 ·obtain ⟨p,hp,rfl⟩:=HA y (by have:=bI hy;omega)
  obtain ⟨a,ha,rfl⟩:=(mem p q hp).mp hy;rw [hl];exact into a (g.rng _ _ ha)
 ·obtain ⟨p,hp,rfl⟩:=HA y (by have:=bI hy;omega)
  obtain ⟨a,ha,e⟩:=(mem p _ hp).mp hy
  have:=inj a p (g.rng _ _ ha) hp e
  subst this;exact g.irr _ ha
 ·by_cases hy:y<w.length
  ·obtain ⟨p,hp,rfl⟩:=HA y hy
   rw [(NH p hp).nodup_iff];unfold List.Nodup;rw [jM];refine List.Pairwise.imp_of_mem ?_ (g.nod p);intro a b ha hb ne e;exact ne (inj a b (g.rng _ _ ha) (g.rng _ _ hb) e)
  ·rw [Cu (by omega)];exact mw
 ·obtain ⟨p,hp,rfl⟩:=HA y (by have:=bI hy;omega)
  obtain ⟨a,ha,rfl⟩:=(mem p q hp).mp hy;exact (mem a _ (g.rng _ _ ha)).mpr ⟨p,g.sym _ _ ha,rfl⟩
 ·rw [hl] at hy
  obtain ⟨p,hp,rfl⟩:=HA y hy;obtain ⟨z,hz,e0⟩:=HA 0 (by omega)
  have h1:=reach (((g.con z hz).symm g.sym).trans (g.con p hp));rw [e0] at h1;exact h1
def af(l:List Nat)(x:Nat):Nat:=l.getD ((l.idxOf x+1)%l.length) 0
def aZ(w:W)(d:Nat×Nat):Nat×Nat:=(d.2,af (row w d.2) d.1)
def aQ(w:W)(d:Nat×Nat):Prop:=d.2∈row w d.1
theorem lH{l:List Nat}{x:Nat}(h:x∈l):l[(l.idxOf x+1)%l.length]? =some (af l x):=by
 have hp:0<l.length:=C0 h;unfold af;rw [aL,bz (jR _ hp)];rfl
theorem bf{l:List Nat}{x:Nat}(h:x∈l):af l x∈l:=f9 (lH h)
theorem JG{a b n:Nat}(ha:a<n)(hb:b<n)(e:(a+1)%n=(b+1)%n):a=b:=by
 by_cases h1:a+1=n
 ·by_cases h2:b+1=n
  ·omega
  ·rw [h1,qj,fu (by omega)] at e;omega
 ·by_cases h2:b+1=n
  ·rw [h2,qj,fu (by omega)] at e;omega
  ·rw [fu (by omega),fu (by omega)] at e;omega
theorem cZ{l:List Nat}{x y:Nat}(nd:l.Nodup)(hx:x∈l)(hy:y∈l)(e:af l x=af l y):x=y:=by
 have hp:0<l.length:=C0 hx;have h1:=lH hx;have h2:=lH hy;rw [e] at h1;have lx:=fq.mpr hx;have ly:=fq.mpr hy;obtain ⟨a1,b1⟩:=eU.mp h1;obtain ⟨a2,b2⟩:=eU.mp h2;have q:=(List.getElem_inj nd).mp (b1.trans b2.symm);have q2:=JG lx ly q;have e1:=gK lx;have e2:=gK ly;rw [←e1,←e2];simp only [q2]
theorem fB{w:W}{d:Nat×Nat}(g:Good w)(h:aQ w d):aQ w (aZ w d):=bf (g.sym _ _ h)
theorem kr{w:W}{d e:Nat×Nat}(g:Good w)(h:aQ w d)(h':aQ w e)(q:aZ w d=aZ w e):d=e:=by
 have e2:d.2=e.2:=congrArg Prod.fst q;have e1:af (row w d.2) d.1=af (row w e.2) e.1:=congrArg Prod.snd q;rw [←e2] at e1;have h1:d.1∈row w d.2:=g.sym _ _ h;have h2:e.1∈row w d.2:=by rw [e2];exact g.sym _ _ h'
 exact Prod.ext (cZ (g.nod _) h1 h2 e1) e2
def b7(w:W):List (Nat×Nat):=(List.range w.length).flatMap λp=>(row w p).map λq=>(p,q)
theorem cL{w:W}{d:Nat×Nat}:d∈b7 w↔aQ w d:=by
 unfold b7 aQ;rw [pE]
 constructor
 ·rintro ⟨p,_,h⟩
  obtain ⟨q,hq,rfl⟩:=bK.mp h;exact hq
 ·intro h
  exact ⟨d.1,cE.mpr (bI h),bK.mpr ⟨d.2,h,rfl⟩⟩
theorem aX{α:Type} [DecidableEq α]:∀{l m:List α},l.Nodup→(∀x∈l,x∈m)→l.length≤m.length
 | [],_,_,_=>cH _
 |a::r,m,nd,h=>by
  have ko:=gS.mp nd;have am:=h a cD;have ih:=aX (l:=r) (m:=m.erase a) ko.2 λx hx=>(List.mem_erase_of_ne (λ(e:x=a)=>ko.1 (by rw [←e];exact hx))).mpr (h x (cM _ hx))
  rw [List.length_erase_of_mem am] at ih
  have:=C0 am
  simp only [dB];omega
theorem dX{w:W}(g:Good w)(p:Nat):(row w p).length≤w.length:=by
 have:=aX (m:=List.range w.length) (g.nod p) λx hx=>cE.mpr (g.rng _ _ hx)
 simpa using this
theorem xG{α β:Type}{f:α→List β}{k:Nat}:∀{l:List α},(∀x∈l,(f x).length≤k)→(l.flatMap f).length≤l.length*k
 | [],_=>by simp
 |a::r,h=>by
  have ih:=xG (f:=f) (k:=k) (l:=r) λx hx=>h x (cM _ hx)
  have:=h a cD
  rw [jN,cy,dB,Nat.succ_mul];omega
theorem Dh{w:W}(g:Good w):(b7 w).length≤w.length*w.length:=by
 have:=xG (f:=λp=>(row w p).map λq=>(p,q)) (k:=w.length) (l:=List.range w.length) λx _=>by rw [aI];exact dX g x
 rw [iu] at this;exact this
theorem tj{w:W}(g:Good w){S:Nat→Prop}(h0:S 0)(hc:∀p q,S p→q∈row w p→S q):∀p,p<w.length→S p:=λp hp=>by
 have:∀{a b},Reach w a b→S a→S b:=λ {a b} h ha=>by
  induction h with
  |refl=>exact ha
  |step _ hr ih=>exact hc _ _ ih hr
 exact this (g.con p hp) h0
def lexLe(a b:Nat×Nat):Prop:=a.1<b.1∨(a.1=b.1∧a.2≤b.2)
theorem xU{a b:Nat×Nat}(h:lexLe a b)(h':lexLe b a):a=b:=by
 unfold lexLe at h h';exact Prod.ext (by omega) (by omega)
def gI(rows:Nat→List Nat)(n:Nat):List (Nat×Nat):=(List.range n).flatMap λp=>((rows p).filter λq=>decide (p<q)).map λq=>(p,q)
theorem nk{α β:Type}{R:β→β→Prop}{f:α→List β}:∀{l:List α},(∀x∈l,(f x).Pairwise R)→l.Pairwise (λa b=>∀x∈f a,∀y∈f b,R x y)→(l.flatMap f).Pairwise R
 | [],_,_=>List.Pairwise.nil
 |a::r,h,p=>by
  have p':=List.pairwise_cons.mp p;rw [jN,A9];refine ⟨h a cD,nk (λx hx=>h x (cM _ hx)) p'.2,λx hx y hy=>?_⟩;obtain ⟨b,hb,GL⟩:=pE.mp hy;exact p'.1 b hb x hx y GL
end Wb
namespace L2
open PySem PySem.Spec PyProof.Rows
section
variable {X:Cx}
theorem Vals.ins{x:V}{u:Value}(r:RelV x u){xs:List V}{us:List Value}(i:Nat)(h:Vals xs us):Vals (Wb.ins xs i x) (Wb.ins us i u):=(h.take i).append (.cons r (h.drop i))
def Km:V→List V→Hp→VK→Prop:=λx vs H Q=>∃l xs i y,x= .ref l∧vs= [.int i,y]∧H l=some (.lst xs)∧0≤i∧i≤xs.length∧xs.length<sizeLine∧Q .bo (upd H l (.lst (Wb.ins xs i.toNat y)))
theorem Ei:HN X "list.insert" Km:=by
 intro pins s σ H x vs v us Q I rx rv h;obtain ⟨l,xs,i,y,rfl,rfl,hH,h0,h1,hz,q⟩:=h;cases rx;obtain ⟨u1,u2,rfl,⟨t,rfl⟩,ru⟩:=rv.two;obtain ⟨z,its,n,r,hl,e⟩:=I.oX hH;have bN:=kY
 have Jb:¬(!Builtin.List.listFitsIndex i)=true:=by
  rw [fitsIndex_both (by omega) (by omega)]
  exact cW
 refine call_meets F.slot_list_insert ⟨_,e,rfl⟩ F.entry_list_insert (F.args_list_insert_3 _ _ _) (AutoSeq1.list_insert_list_int_val_1 l its.toArray n i t u2 Jb (by rw [cJ];omega)) ⟨e,?_⟩
 refine ⟨.bo,_,I.FC (its':=Wb.ins its i.toNat u2) hH e ?_ (r.ins ru i.toNat) ?_,rfl,q⟩
 ·have hi:¬i<0:=by omega
  have hm:min i.toNat its.length=i.toNat:=by omega
  simp only [hi,if_false,cJ,hm];apply Array.toList_inj.mp;unfold Wb.ins;simp;exact tT (by rw [dY];omega)
 ·rw [Wb.BW];omega
def MB(K:PySem.W.Frag):V→List V→Hp→VK→Prop:=λx vs H Q=>∃(l:Addr)(xs:List V)(y:V)(j:Nat)(z:V),x= .ref l∧vs= [y]∧H l=some (.lst xs)∧gX y=true∧xs.all gX=true∧xs[j]? =some z∧uV z y=true∧
 (∀(m:Nat) z,m<j→xs[m]? =some z→uV z y=false)∧Q (.int j) H
theorem G9:HN X "list.index" (MB X.K):=by
 intro pins s σ H x vs v us Q I rx rv h;obtain ⟨l,xs,y,j,z,rfl,rfl,hH,fy,fs,hz,ez,PB,q⟩:=h;cases rx;obtain ⟨u,rfl,ru⟩:=rv.one;obtain ⟨fb,its,n,r,hl,e⟩:=I.oX hH;obtain ⟨w,hw,EH⟩:=r.get hz
 have hj:j<its.toArray.size:=by
  obtain ⟨h1,_⟩:=eU.mp hw;simpa using h1
 have flat:∀(m:Nat) z,xs[m]? =some z→gX z=true:=λm z h=>(List.all_eq_true.mp fs) z (f9 h)
 have YZ:its.toArray[j]=w:=by
  obtain ⟨h1,h2⟩:=eU.mp hw;simpa using h2
 have bN:=kY
 have BN:j<xs.length:=by
  obtain ⟨h1,_⟩:=eU.mp hz;exact h1
 refine call_meets F.slot_list_index ⟨_,e,rfl⟩ F.entry_list_index (F.args_list_index_2 _ _) (SeqAt.list_indexAt l its.toArray n none #[] u (oI y) j hj (by omega) ?_ ?_) ⟨e,λw hw=>iU ru fy r fs w (by simpa using hw),?_⟩
 ·rw [YZ,ur EH (flat j z hz)];exact ez
 ·intro m hm Pz
  have GI:m<its.length:=by simpa using hm
  obtain ⟨zm,PK⟩:∃zm,xs[m]? =some zm:=⟨_,bz (by omega)⟩
  obtain ⟨wm,Y0,rwm⟩:=r.get PK
  have Yb:its.toArray[m]=wm:=by
   obtain ⟨h1,h2⟩:=eU.mp Y0;simpa using h2
  rw [Yb,ur rwm (flat m zm PK)];exact PB m zm Pz PK
 ·exact ⟨.int j,H,I.tok _,⟨_,rfl⟩,q⟩
end
mutual
inductive Dp (K:PySem.W.Frag) (H:Hp):V→PyData→Prop
 |bo:Dp K H .bo .none
 |bl (b:Bool):Dp K H (.bl b) (.bool b)
 |int (i:Int):Dp K H (.int i) (.int i)
 |str (x:Str) (h:PyData.strOk x=true):Dp K H (.str x) (.str x)
 |lst {a:Addr} {xs:List V} {ds:List PyData}:cQ K H a xs→fe K H xs ds→Dp K H (.ref a) (.list ds)
 |tup {a:Addr} {xs:List V} {ds:List PyData}:gr K H a xs→fe K H xs ds→Dp K H (.ref a) (.tuple ds)
inductive fe (K:PySem.W.Frag) (H:Hp):List V→List PyData→Prop
 |nil:fe K H [] []
 |cons {v:V} {vs:List V} {d:PyData} {ds:List PyData}:Dp K H v d→fe K H vs ds→fe K H (v::vs) (d::ds)
end
section
variable {X:Cx} {pins:List (Addr×Obj)} {σ:St} {H:Hp} {s:Shared}
mutual
theorem Dp.reads(I:Inv X pins σ H s):∀{v:V}{d:PyData}{u:Value},Dp X.K H v d→RelV v u→(∃as,Reads s.heap u d as)∧d.canLay0=true
 |_,_,_, .bo,r=>by cases r;exact ⟨⟨_, .none⟩,rfl⟩
 |_,_,_, .bl b,r=>by cases r;exact ⟨⟨_, .bool b⟩,rfl⟩
 |_,_,_, .int i,r=>by obtain ⟨t,rfl⟩:=r;exact ⟨⟨_, .int i t⟩,rfl⟩
 |_,_,_, .str x h,r=>by obtain ⟨t,rfl⟩:=r;exact ⟨⟨_, .str x t⟩,by simpa [PyData.canLay0] using h⟩
 |_,_,_, .lst h a,r=>by
  cases r;obtain ⟨its,rv,pl,hz⟩:=I.list h;obtain ⟨⟨as,ra⟩,c⟩:=fe.reads I a rv;obtain ⟨o,ho,hc,n,hd⟩:=pl.isList;exact ⟨⟨_, .list ho hc hd (by simpa using ra)⟩,by simpa [PyData.canLay0] using c⟩
 |_,_,_, .tup h a,r=>by
  cases r;obtain ⟨its,rv,pl,hz⟩:=I.tuple h;obtain ⟨⟨as,ra⟩,c⟩:=fe.reads I a rv;obtain ⟨o,ho,hc,n,hd⟩:=pl;exact ⟨⟨_, .tuple ho hc hd (by simpa using ra)⟩,by simpa [PyData.canLay0] using c⟩
theorem fe.reads(I:Inv X pins σ H s):∀{vs:List V}{ds:List PyData}{us:List Value},fe X.K H vs ds→Vals vs us→(∃as,ReadsAll s.heap us ds as)∧PyData.canLayAll0 ds=true
 |_,_,_, .nil, .nil=>⟨⟨_, .nil⟩,by simp [PyData.canLayAll0]⟩
 |_,_,_, .cons a as, .cons r rs=>by
  obtain ⟨⟨x,h1⟩,c1⟩:=Dp.reads I a r;obtain ⟨⟨y,h2⟩,c2⟩:=fe.reads I as rs;exact ⟨⟨_, .cons h1 h2⟩,by simp [PyData.canLayAll0,c1,c2]⟩
end
end
section
variable {X:Cx}
def Vz(K:PySem.W.Frag):R2:=λx y H Q=>∃d e,Dp K H x d∧Dp K H y e∧d.depth≤64∧Q (.bl (PyData.eqv d e)) H
def VC(K:PySem.W.Frag):R2:=λx y H Q=>∃d e,Dp K H x d∧Dp K H y e∧d.depth≤64∧Q (.bl (!PyData.eqv d e)) H
theorem Md(hu:X.A.units+64<cLine):OpR X (compareOp .Eq) (Vz X.K):=by
 intro pins s σ H x y v u Q I rx ry h;obtain ⟨d,e,hd,he,hz,q⟩:=h;obtain ⟨⟨as,r1⟩,c1⟩:=hd.reads I rx;obtain ⟨⟨bs,r2⟩,c2⟩:=he.reads I ry;exact SeqAt.compareEq_reads r1 r2 c1 c2 (by have:=Nat.min_le_left d.depth e.depth;omega) ⟨.bl _,H,I,rfl,q⟩
theorem Mh(hu:X.A.units+64<cLine):OpR X (compareOp .NotEq) (VC X.K):=by
 intro pins s σ H x y v u Q I rx ry h;obtain ⟨d,e,hd,he,hz,q⟩:=h;obtain ⟨⟨as,r1⟩,c1⟩:=hd.reads I rx;obtain ⟨⟨bs,r2⟩,c2⟩:=he.reads I ry;exact SeqAt.compareNe_reads r1 r2 c1 c2 (by have:=Nat.min_le_left d.depth e.depth;omega) ⟨.bl _,H,I,rfl,q⟩
end
def nD(n:Nat):PyData:= .int n
def o9(r:List Nat):PyData:= .list (r.map nD)
theorem jA{α:Type}{f:α→PyData}(hf:∀a b,PyData.eqv (f a) (f b)=true↔a=b):∀xs ys:List α,PyData.eqvAll (xs.map f) (ys.map f)=true↔xs=ys
 | [],[]=>by simp [PyData.eqvAll]
 | [],_::_=>by simp [PyData.eqvAll]
 |_::_,[]=>by simp [PyData.eqvAll]
 |a::xs,b::ys=>by
  have ih:=jA hf xs ys;simp [PyData.eqvAll,hf,ih]
theorem Ly(a b:Nat):PyData.eqv (nD a) (nD b)=true↔a=b:=by
 simp [nD,PyData.eqv];omega
theorem xE(a b:List Nat):PyData.eqv (o9 a) (o9 b)=true↔a=b:=by
 unfold o9;rw [PyData.eqv];exact jA Ly a b
theorem hE{α:Type}{f:α→PyData}{k:Nat}(hf:∀a,(f a).depth≤k):∀xs:List α,PyData.depthAll (xs.map f)≤k
 | []=>by simp [PyData.depthAll]
 |a::xs=>by
  have:=hf a
  have ih:=hE hf xs;simp [PyData.depthAll];omega
theorem mU(a:List Nat):(o9 a).depth≤2:=by
 unfold o9;rw [PyData.depth]
 have:=hE (f:=nD) (k:=1) (λn=>by simp [nD,PyData.depth]) a
 omega
end L2
namespace L2
open PySem PySem.Spec PyProof.Rows
theorem Vals.of_get:∀{xs:List V}{us:List Value},xs.length=us.length→(∀(k:Nat) x u,xs[k]? =some x→us[k]? =some u→RelV x u)→Vals xs us
 | [],[],_,_=> .nil
 | [],_::_,h,_=>by simp at h
 |_::_,[],h,_=>by simp at h
 |x::xs,u::us,h,r=> .cons (r 0 x u rfl rfl) (Vals.of_get (by simpa using h) λk y w h1 h2=>r (k+1) y w (by simpa using h1) (by simpa using h2))
section
variable {X:Cx}
theorem zg:cP X (.builtin "isinstance") (λxs H Q=>∃(x:V)(n:String)(t:Value)(b:Bool),xs= [x, .ty n]∧jv X.K H x t∧PySem.W.kitOne X.K t (.type n)=some b∧Q (.bl b) H):=by
 intro pins s σ H xs us Q I rv h;obtain ⟨x,n,t,b,rfl,ty,e,q⟩:=h;obtain ⟨u1,u2,rfl,r1,r2⟩:=rv.two;cases r2;exact D7 I r1 ty e λtk=>⟨.bl b,H,I.tok _,rfl,q⟩
theorem wW:cP X (.builtin "sorted") (λxs H Q=>∃(p:Addr)(ns:List Int),xs= [.ref p]∧cQ X.K H p (ns.map V.int)∧ns.length<64∧∀(q:Addr)(ms:List Int),H q=none→ms.Perm ns→ms.Pairwise (·≤·)→Q (.ref q) (upd H q (.lst (ms.map V.int)))):=by
 intro pins s σ H xs us Q I rv h;obtain ⟨p,ns,rfl,hp,hz,q⟩:=h;obtain ⟨u,rfl,ru⟩:=rv.one;cases ru;obtain ⟨its,r,pl,_⟩:=I.list hp;have hl:=r.length;rw [aI] at hl;refine sorted_ints pl.isList (intsAre_of r) (by omega) λout ms hI u7 hs=>?_
 obtain ⟨e,he⟩:=sortedAll_at s.heap its out;have fr:H (s.heap.objs.size+1)=none:=I.hok.fresh (nU _);have GJ:=u7.length_eq;have dj:64≤sizeLine:=by decide
 refine ⟨.ref (s.heap.objs.size+1),_,I.laid (t':=s.toks) (λb o hb=>sortedAll_old hb) (nU _) (o:= .lst (ms.map V.int)) ⟨by rw [aI];omega,out.toList,e,lJ hI,by simpa using he⟩,rfl,q _ ms fr u7 hs⟩
end
theorem mQ(elt t0 i0 t1 i1:Expr)(f0 f1:List Expr)(scope:Scope)(pos:Pos)(it acc:Value)(env:Env):
  compTurn (.ListComp elt [⟨t0,i0,f0,0⟩,⟨t1,i1,f1,0⟩] scope pos) 0 it acc env=(do
   standAt i0.pos
   match ←pyNext it with
   |none=>pure (.done .next)
   |some v=>
    letOwnedTupleGo t0 it v
    assign t0 env v
    let ok ←forIn f0 true λc r=>if r=true then do let ok ←isTrue c env (eval c env);pure (ForInStep.yield ok) else pure (ForInStep.yield r)
    if ok=true then
     let x ←eval i1 env
     standAt i1.pos
     let x ←foldedSetIterable i1 env x
     let zO ←holding [x] (pyIter x)
     let _ ←runOwn (.compStart (.ListComp elt [⟨t0,i0,f0,0⟩,⟨t1,i1,f1,0⟩] scope pos) 1 zO acc env) env
     again (.compLoop (.ListComp elt [⟨t0,i0,f0,0⟩,⟨t1,i1,f1,0⟩] scope pos) 0 it acc env)
    else again (.compLoop (.ListComp elt [⟨t0,i0,f0,0⟩,⟨t1,i1,f1,0⟩] scope pos) 0 it acc env)):=by rfl
theorem uP(elt t0 i0 t1 i1:Expr)(f0 f1:List Expr)(scope:Scope)(pos:Pos)(it acc:Value)(env:Env):
  compTurn (.ListComp elt [⟨t0,i0,f0,0⟩,⟨t1,i1,f1,0⟩] scope pos) 1 it acc env=(do
   standAt i1.pos
   match ←pyNext it with
   |none=>pure (.done .next)
   |some v=>
    letOwnedTupleGo t1 it v
    assign t1 env v
    let ok ←forIn f1 true λc r=>if r=true then do let ok ←isTrue c env (eval c env);pure (ForInStep.yield ok) else pure (ForInStep.yield r)
    if ok=true then
     (do let _ ←call (.builtin "list.append") [acc,←eval elt env])
     again (.compLoop (.ListComp elt [⟨t0,i0,f0,0⟩,⟨t1,i1,f1,0⟩] scope pos) 1 it acc env)
    else again (.compLoop (.ListComp elt [⟨t0,i0,f0,0⟩,⟨t1,i1,f1,0⟩] scope pos) 1 it acc env)):=by rfl
section
variable {X XC:Cx} {elt i0 t0 i1 t1:Expr} {f0 f1:List Expr} {scope:Scope} {pos:Pos} {wi cI:TI} {g g1:TG} {tt cq:TT} {te:TE} {src:List (Option Nat)} {NC:List Str}
theorem t5{it acc:Value}{env:Env}{R:Result→Shared→Prop}{s:Shared}{A:Around}
  (h0:codeAny (model X.prog X.w) A (.compLoop (.ListComp elt [⟨t0,i0,f0,0⟩,⟨t1,i1,f1,0⟩] scope pos) 1 it acc env) R s)
  (hp:∀(Q:Value→Shared→Prop)(E:Value→Shared→Prop),Q it s→wpAny (model X.prog X.w) A (pyIter it) Q E s):
  codeAny (model X.prog X.w) A (.compStart (.ListComp elt [⟨t0,i0,f0,0⟩,⟨t1,i1,f1,0⟩] scope pos) 1 it acc env) R s:=by
 refine codeAny_of_tree ?_;show wpAny _ _ ((compStart (.ListComp elt [⟨t0,i0,f0,0⟩,⟨t1,i1,f1,0⟩] scope pos) 1 it acc env).onRaise (λx=>do noteFrame x env;standAt theWindowsPlace)) _ _ s
 refine wpAny_notedAt ?_;unfold compStart;show wpAny _ _ (ask>>=_) _ _ s;refine wpAny_bind (wpAny_askSetting (wpAny_ite ?_))
 split
 ·first
   |exact wpAny_bind (wpAny_pure (wpAny_pure ⟨rfl,h0⟩))
   |exact wpAny_pure ⟨rfl,h0⟩
 ·refine wpAny_bind (wpAny_rule ?_)
  show wpAny _ _ (standAt i1.pos>>=_) _ _ s;exact wpAny_bind (wpAny_standAt (wpAny_bind (hp _ _ (wpAny_pure ⟨rfl,h0⟩))))
theorem tq{pins:List (Addr×Obj)}{s:Shared}{σ:St}{H:Hp}{it D:Addr}{fp:List Addr}{tn:Nat→Heap→Prop}{J:It}{R:Result→Shared→Prop}{N:St→Hp→Prop}
  (DZ:XC.xe=λ_ _=>False) (hc:XC.calm=true) (I:Inv XC pins σ H s) (T:Turn XC.prog XC.w XC.K t1 J fp it tn) (st:tn 0 s.heap) (f2:∀b∈fp,eW XC pins H b)
  (hg:PG XC t1 g1) (ht:jS XC f1 cq) (he:PE XC elt te)
  (hW:∃W:Nat→Nat→St→Hp→Prop,(∃m,W 0 m σ H)∧∀i m eV H2,W i m eV H2→(J.stop i H2∧N eV H2)∨
   (J.go i H2∧∃N1:St→Hp→Prop,(∀ay H',N1 ay H'→∃m',m'<m∧W (i+1) m' ay H')∧∀x H3,J.yld i H2 x H3→g1 x eV H3 λfc H4=>cq fc H4 λb H5=>
    if b=true then te fc H5 λv H6=>∃ys,H6 D=some (.lst ys)∧ys.length<sizeLine∧N1 fc (upd H6 D (.lst (ys++ [v]))) else N1 fc H5))
  (hR:∀ay H' s',Inv XC pins ay H' s'→N ay H'→R (.ok .next) s'):
  codeAny (model XC.prog XC.w) XC.A (.compStart (.ListComp elt [⟨t0,i0,f0,0⟩,⟨t1,i1,f1,0⟩] scope pos) 1 (.ref it) (.ref D) XC.env) R s:=by
 obtain ⟨W,⟨m0,w0⟩,turn⟩:=hW
 have ie:∀{α:Type}{t:Sem α}{Q:α→Shared→Prop}{E:Value→Shared→Prop}{s:Shared},wpAny (model XC.prog XC.w) XC.A t Q XC.xe s→wpAny (model XC.prog XC.w) XC.A t Q E s:=λ {α t Q E s} h=>
  wpAny_mono h (λ_ _ q=>q) λ_ _ f=>by rw [DZ] at f;exact f.elim
 have stat:∀{H':Hp},(∀b∈fp,H' b=none)→∀b∈fp,eW XC pins H' b:=λhn b hb=>⟨hn b hb,(f2 b hb).2⟩
 have loop:codeAny (model XC.prog XC.w) XC.A (.compLoop (.ListComp elt [⟨t0,i0,f0,0⟩,⟨t1,i1,f1,0⟩] scope pos) 1 (.ref it) (.ref D) XC.env) R s:=by
  refine codeAny_loop rfl (λn s'=>∃i ay H',Inv XC pins ay H' s'∧tn i s'.heap∧(∀b∈fp,H' b=none)∧W i n ay H') (λn s' hI=>?_) m0 ⟨0,σ,H,I,st,λb hb=>(f2 b hb).1,w0⟩;obtain ⟨i,ay,H',I5,qb,rT,w5⟩:=hI;show wpAny _ XC.A ((compTurn (.ListComp elt [⟨t0,i0,f0,0⟩,⟨t1,i1,f1,0⟩] scope pos) 1 (.ref it) (.ref D) XC.env).onRaise (λx=>do noteFrame x XC.env;theTreesLotGoes x)) _ _ s'
  refine wpAny_noted ?_;rw [uP];refine wpAny_bind (wpAny_standAt (wpAny_bind ?_))
  rcases turn i n ay H' w5 with ⟨stop,qn⟩ | ⟨go,N1,hN,step⟩
  ·refine thn (T.done XC rfl rfl rfl hc i pins s' ay H' _ I5 (stat rT) qb stop) λr s6 ⟨hr,I6⟩=>?_
   subst hr;exact wpAny_pure (hR ay H' s6 I6 qn)
  ·refine thn (T.item XC rfl rfl rfl hc i pins s' ay H' _ I5 (stat rT) qb go) λr s6 ⟨u,hr,h6⟩=>?_
   subst hr;refine wpAny_bind (thn h6 λ_ s7 ⟨x,H7,I7,r7,y7,qc,DB⟩=>?_);have C2:=I7.pinned (stat DB) (T.obj _ _ qc)
   have nextT:∀{eu:St}{H8:Hp}{s8:Shared},Inv XC (pins++jF fp s7.heap) eu H8 s8→N1 eu H8→∃m,m<n∧∃i ay H',Inv XC pins ay H' s8∧tn i s8.heap∧(∀b∈fp,H' b=none)∧W i m ay H':=λ {eu H8 s8} I8 n8=>by
    obtain ⟨m',hm,w8⟩:=hN eu H8 n8;refine ⟨m',hm,i+1,eu,H8,I8.g9,T.keep _ _ _ qc λb hb o e=>(I8.pin (b,o) (cG _ (cG _ (cU hb e)))).1,λb hb=>?_,w8⟩;obtain ⟨o,e,d⟩:=T.obj _ _ qc b hb;exact (I8.pin (b,o) (cG _ (cG _ (cU hb e)))).2.1
   refine wpAny_bind (ie (thn (hg _ s7 ay H7 x u _ C2 r7 (step x H7 y7)) λ_ s8 ⟨eu,H8,I8,q8⟩=>?_));refine wpAny_bind (ie (thn (ht _ s8 eu H8 _ I8 q8) λb s9 ⟨H9,I9,q9⟩=>?_));cases b with
   |false=>
    rw [if_neg cW] at q9;exact wpAny_pure ⟨rfl,nextT I9 q9⟩
   |true=>
    rw [if_pos rfl] at q9;refine wpAny_bind (wpAny_bind (ie (thn (he _ s9 eu H9 _ I9 q9) λy Kt ⟨v,HI,N6,Qj,ys,hD,hz,Qh⟩=>?_)));refine wpAny_bind (ie (thn (pW _ Kt eu HI (.ref D) [v] _ [y] (λ_ H'=>N1 eu H') N6 rfl (.cons Qj .nil) ⟨_,ys,v,rfl,rfl,hD,hz,Qh⟩) λ_ EI ⟨_,HJ,C1,_,Qi⟩=>?_));exact wpAny_pure (wpAny_pure ⟨rfl,nextT C1 Qi⟩)
 exact t5 (X:=XC) loop λQ E q=>T.self _ 0 _ _ _ st q
def tIn(g1:TG)(cq:TT)(te:TE)(D:Addr)(J:It)(N:St→Hp→Prop):St→Hp→Prop:=λσ H=>
 ∃W:Nat→Nat→St→Hp→Prop,(∃m,W 0 m σ H)∧∀i m eV H2,W i m eV H2→(J.stop i H2∧N eV H2)∨
  (J.go i H2∧∃N1:St→Hp→Prop,(∀ay H',N1 ay H'→∃m',m'<m∧W (i+1) m' ay H')∧∀x H3,J.yld i H2 x H3→g1 x eV H3 λfc H4=>cq fc H4 λb H5=>
   if b=true then te fc H5 λv H6=>∃ys,H6 D=some (.lst ys)∧ys.length<sizeLine∧N1 fc (upd H6 D (.lst (ys++ [v]))) else N1 fc H5)
def N0(g:TG)(tt:TT)(cI:TI)(g1:TG)(cq:TT)(te:TE)(D:Addr)(J:It)(Q:VK)(σ:St)(H:Hp):Prop:=
 ∃W:Nat→Nat→St→Hp→Prop,(∃m,W 0 m σ H)∧∀i m eV H2,W i m eV H2→
  (J.stop i H2∧Q (.ref D) H2)∨
  (J.go i H2∧∃N:St→Hp→Prop,(∀ay H',N ay H'→∃m',m'<m∧W (i+1) m' ay H')∧∀x H3,J.yld i H2 x H3→g x eV H3 λfc H4=>tt fc H4 λb H5=>
   if b=true then cI fc H5 λJ1 H6=>tIn g1 cq te D J1 N fc H6 else N fc H5)
def F7(wi:TI)(g:TG)(tt:TT)(cI:TI)(g1:TG)(cq:TT)(te:TE)(src:List (Option Nat)):TE:=λσ H Q=>wi σ H λJ H1=>∀D,H1 D=none→N0 g tt cI g1 cq te D J Q (me src σ) (upd H1 D (.lst []))
theorem Mr(hc:X.calm=true)(c:b9 X scope)(dO:cR scope X.N src NC)(hi:PI X t0 i0 wi)
  (hg:∀ex s H,PG (bT X scope NC ex s H) t0 g) (ht:∀ex s H,jS (bT X scope NC ex s H) f0 tt) (oM:∀ex s H,PI (bT X scope NC ex s H) t1 i1 cI) (u0:∀ex s H,PG (bT X scope NC ex s H) t1 g1)
  (u9:∀ex s H,jS (bT X scope NC ex s H) f1 cq) (he:∀ex s H,PE (bT X scope NC ex s H) elt te)
  (hs:∀x,foldedSetIterable i0 X.env x=pure x:=by intro _;rfl) (qG:∀env x,foldedSetIterable i1 env x=pure x:=by intro _ _;rfl):
  PE X (.ListComp elt [⟨t0,i0,f0,0⟩,⟨t1,i1,f1,0⟩] scope pos) (F7 wi g tt cI g1 cq te src):=by
 intro pins s σ H Q I h;rw [eval_ListComp];refine wpAny_comprehension_free (use:=none) rfl hs (fw (c.cells I.ok)) c.kind c.names (thn (hi pins s σ H _ I h) λv s1 h1=>thn h1 λBZ s2 h2=>?_);obtain ⟨it,fp,tn,J,H2,rfl,I2,T,iO,f2,hW⟩:=h2;obtain ⟨W,⟨m0,w0⟩,turn⟩:=hW s2.heap.objs.size I2.fresh;have I3:Inv X pins σ (upd H2 s2.heap.objs.size (.lst [])) {s2 with heap:=s2.heap.push {cls:= .type "list",data:= .seq ([]:List Value).toArray}}:=I2.B5 (its:= []) (t':=s2.toks) .nil (cH _)
 have B6:∀b∈fp,b<s2.heap.objs.size:=λb hb=>by
  obtain ⟨o,e,_⟩:=T.obj _ _ iO b hb;exact Heap.lt_size e
 have f3:∀b∈fp,eW X pins (upd H2 s2.heap.objs.size (.lst [])) b:=λb hb=>⟨by rw [aG (bV (B6 b hb))];exact (f2 b hb).1,(f2 b hb).2⟩
 refine wpAny_newObj_type ?_
 suffices key:∀s3:Shared,Inv X pins σ (upd H2 s2.heap.objs.size (.lst [])) s3→(∀b o,s2.heap.get? b=some o→s3.heap.get? b=some o)→
   wpAny (model X.prog X.w) X.A (newFunctionEnv scope X.env.globals (h7 X.env scope.names []) [] X.env.qual none .none (some X.env)) (λjx rm=>
    codeAny (model X.prog X.w) X.A (.compStart (.ListComp elt [⟨t0,i0,f0,0⟩,⟨t1,i1,f1,0⟩] scope pos) 0 (.ref it) (.ref s2.heap.objs.size) {jx with scope:=relabel scope X.env}) (compPost (model X.prog X.w) X.A X.xe none (EP X pins σ Q) (.ref s2.heap.objs.size) jx.locals) rm) X.xe s3 from
  key _ I3 λb o e=>Heap.get?_push_of_some _ e
 intro s3 I3 KU;have qa:tn 0 s3.heap:=T.keep _ _ _ iO λb _ o e=>KU b o e
 have vq:∀b∈fp,b<s3.heap.objs.size:=λb hb=>by
  obtain ⟨o,e,_⟩:=T.obj _ _ qa b hb;exact Heap.lt_size e
 generalize SN:upd H2 s2.heap.objs.size (.lst [])=H3 at I3 f3 w0;refine wpAny_newFunctionEnv c.nocell (by intro y hy;simp at hy) (λh1 u5 t8=>?_) c.kind
 have I4:=rN (src:=src) (NC:=NC) (ex:=fp) (tk:=s3.toks+([]:List (Str×Value)).length) I3 c dO f3 vq u5 t8;have CI:tn 0 h1:=T.keep _ _ _ qa λb hb o e=>t8.extBut b o (bV (vq b hb)) (Heap.get?_push_of_some _ e);generalize hX:bT X scope NC fp s3 H3=XC at I4
 have stat:∀{H':Hp},(∀b∈fp,H' b=none)→∀b∈fp,eW XC [] H' b:=λ {H'} hn b hb=>by
  subst hX;refine ⟨hn b hb,bV (vq b hb),λz=>?_, .inl hb,λx d e=>?_,λp hp=>absurd (show p∈([]:List (Addr×Obj)) from hp) (by simp)⟩
  ·exact (I4.ok.exfs b hb) z
  ·exact (I4.ok.exf b hb).2 x d e
 have w4:XC.calm=true:=by subst hX;exact hc
 have eP:XC.prog=X.prog:=by subst hX;rfl
 have ew:XC.w=X.w:=by subst hX;rfl
 have eK:XC.K=X.K:=by subst hX;rfl
 have eA:XC.A=X.A:=by subst hX;rfl
 have DZ:XC.xe=λ_ _=>False:=by subst hX;rfl
 have Je:PG XC t0 g:=by subst hX;exact hg _ _ _
 have Jn:jS XC f0 tt:=by subst hX;exact ht _ _ _
 have Pu:PI XC t1 i1 cI:=by subst hX;exact oM _ _ _
 have Jd:PG XC t1 g1:=by subst hX;exact u0 _ _ _
 have Jm:jS XC f1 cq:=by subst hX;exact u9 _ _ _
 have Ja:PE XC elt te:=by subst hX;exact he _ _ _
 have ie:∀{α:Type}{t:Sem α}{Q:α→Shared→Prop}{E:Value→Shared→Prop}{s:Shared},wpAny (model XC.prog XC.w) XC.A t Q XC.xe s→wpAny (model X.prog X.w) X.A t Q E s:=λ {α t Q E s} h=>by
  rw [←eP,←ew,←eA];exact wpAny_mono h (λ_ _ q=>q) λ_ _ f=>by rw [DZ] at f;exact f.elim
 have loop:codeAny (model X.prog X.w) X.A (.compLoop (.ListComp elt [⟨t0,i0,f0,0⟩,⟨t1,i1,f1,0⟩] scope pos) 0 (.ref it) (.ref s2.heap.objs.size) XC.env) (compPost (model X.prog X.w) X.A X.xe none (EP X pins σ Q) (.ref s2.heap.objs.size) s3.heap.objs.size)
   {s3 with heap:=h1,toks:=s3.toks+([]:List (Str×Value)).length}:=by
  refine codeAny_loop rfl (λn s'=>∃i ay H',Inv XC [] ay H' s'∧tn i s'.heap∧(∀b∈fp,H' b=none)∧W i n ay H') (λn s' hI=>?_) m0 ⟨0,_,_,I4,CI,λb hb=>(f3 b hb).1,w0⟩;obtain ⟨i,ay,H',I5,qb,rT,w5⟩:=hI;show wpAny _ X.A ((compTurn (.ListComp elt [⟨t0,i0,f0,0⟩,⟨t1,i1,f1,0⟩] scope pos) 0 (.ref it) (.ref s2.heap.objs.size) XC.env).onRaise (λx=>do noteFrame x XC.env;theTreesLotGoes x)) _ _ s'
  refine wpAny_noted ?_;rw [mQ];refine wpAny_bind (wpAny_standAt (wpAny_bind ?_))
  rcases turn i n ay H' w5 with ⟨stop,qn⟩ | ⟨go,N,hN,step⟩
  ·have hd:=T.done XC eP ew eK w4 i [] s' ay H' (notedBy (model X.prog X.w) X.A XC.env λe s'=>compPost (model X.prog X.w) X.A X.xe none (EP X pins σ Q) (.ref s2.heap.objs.size) s3.heap.objs.size (.error e) s') I5 (stat rT) qb stop
   rw [eA] at hd;refine thn hd λr s6 ⟨hr,I6⟩=>?_;subst hr;refine wpAny_pure ?_;subst hX;obtain ⟨m,hn,_⟩:=I6.loc;exact ⟨m,hn,λh' sb=>⟨.ref s2.heap.objs.size,H',comp_back I3 f3 I6 sb,rfl,qn⟩⟩
  ·have hd:=T.item XC eP ew eK w4 i [] s' ay H' (notedBy (model X.prog X.w) X.A XC.env λe s'=>compPost (model X.prog X.w) X.A X.xe none (EP X pins σ Q) (.ref s2.heap.objs.size) s3.heap.objs.size (.error e) s') I5 (stat rT) qb go
   rw [eA] at hd;refine thn hd λr s6 ⟨u,hr,h6⟩=>?_;subst hr;refine wpAny_bind (thn h6 λ_ s7 ⟨x,H7,I7,r7,y7,qc,DB⟩=>?_);have C2:=I7.pinned (stat DB) (T.obj _ _ qc)
   have nextT:∀{eu:St}{H8:Hp}{s8:Shared},Inv XC ([]++jF fp s7.heap) eu H8 s8→N eu H8→∃m,m<n∧∃i ay H',Inv XC [] ay H' s8∧tn i s8.heap∧(∀b∈fp,H' b=none)∧W i m ay H':=λ {eu H8 s8} I8 n8=>by
    obtain ⟨m',hm,w8⟩:=hN eu H8 n8;refine ⟨m',hm,i+1,eu,H8,I8.g9,T.keep _ _ _ qc λb hb o e=>(I8.pin (b,o) (cG _ (cG _ (cU hb e)))).1,λb hb=>?_,w8⟩;obtain ⟨o,e,d⟩:=T.obj _ _ qc b hb;exact (I8.pin (b,o) (cG _ (cG _ (cU hb e)))).2.1
   refine wpAny_bind (ie (thn (Je _ s7 ay H7 x u _ C2 r7 (step x H7 y7)) λ_ s8 ⟨eu,H8,I8,q8⟩=>?_));refine wpAny_bind (ie (thn (Jn _ s8 eu H8 _ I8 q8) λb s9 ⟨H9,I9,q9⟩=>?_));cases b with
   |false=>
    rw [if_neg cW] at q9;exact wpAny_pure ⟨by subst hX;rfl,nextT I9 q9⟩
   |true=>
    rw [if_pos rfl] at q9;refine wpAny_bind (ie (thn (Pu _ s9 eu H9 _ I9 q9) λv1 Kt O5=>?_));refine wpAny_bind (wpAny_standAt (wpAny_bind (wpAny_of_eq (qG _ v1) (wpAny_bind (wpAny_holding (ie (thn O5 λBZ EI O6=>?_)))))));obtain ⟨zO,Yd,tn1,J1,HJ,rfl,C1,T1,KH,OV,w9⟩:=O6;refine wpAny_bind (wpAny_runOwn ?_);have tr:∀(cd:Code)(R:Result→Shared→Prop),codeAny (model XC.prog XC.w) XC.A cd R EI→codeAny (model X.prog X.w) X.A cd R EI:=λcd R h=>by rw [eP,ew,eA] at h;exact h
    exact tr _ _ (tq DZ w4 C1 T1 KH OV Jd Jm Ja w9 λay H' s' N7 PY=>wpAny_pure ⟨by subst hX;rfl,nextT N7 PY⟩)
 subst hX;exact codeAny_compStart_list loop (T.self _ 0 _ _ _ CI loop)
end
end L2
namespace KS
open PySem PySem.W PyProof.Rows
section
variable {prog:Program} {w:World} {A:Around} {E:Value→Shared→Prop} {s:Shared}
theorem CB{a:Addr}{vs:List Value}{n:Nat}{G:PySem.Fin→Shared→Prop}(ho:s.heap.get? a=some (seqObj "list" vs.toArray n))(h2:vs.length<2)
  (h:G (.done (.ret .none)) {s with heap:=sortedHeap s.heap a vs vs.toArray}):wpAny (model prog w) A (Builtin.«list.sort» ⟨[.ref a],[]⟩) G E s:=by
 rw [list_sort_plain];have la:a<s.heap.objs.size:=Heap.lt_size ho;refine wpAny_bind (listItems_at ho rfl (wpAny_bind (listUpdate_at ho rfl ?_)));obtain ⟨e1,mF⟩:∃k,(s.heap.update a (Obj.mapSeq λ_=> #[])).get? a=some (seqObj "list" #[] k):=⟨_,get?_update_seq ho (λ_=> #[])⟩;refine wpAny_bind (seqEpoch_at mF rfl (wpAny_bind (wpAny_newTuple (wpAny_bind (wpAny_newList (wpAny_holding ?_))))));have DV:(((s.heap.update a (Obj.mapSeq λ_=> #[])).push (seqObj "tuple" vs.toArray 0)).push (seqObj "list" #[] 0)).get? a=some (seqObj "list" #[] e1):=Heap.get?_push_of_some _ (Heap.get?_push_of_some _ mF);show wpAny (model prog w) A _ G E {s with heap:=((s.heap.update a (Obj.mapSeq λ_=> #[])).push (seqObj "tuple" vs.toArray 0)).push (seqObj "list" #[] 0)}
 dsimp only;have lz:vs.toArray.size<2:=by simpa using h2
 rw [if_pos lz,if_pos lz];refine wpAny_bind (wpAny_pure ?_);rw [StateT.run_pure];refine wpAny_bind (wpAny_pure ?_);dsimp only
 have ez:(arrOf (SortSt.mk' general' (vs.toArray.zip vs.toArray) #[] 7 none)).map (·.2)=vs.toArray:=by
  show (vs.toArray.zip vs.toArray).map (·.2)=vs.toArray;apply Array.toList_inj.mp;simp [List.map_snd_zip]
 refine wpAny_bind (seqEpoch_at DV rfl (wpAny_bind (listUpdate_at DV rfl ?_ (hsz2:=by rw [ez];rw [sizeLine_eq];omega))))
 simp only [bne_self_eq_false,mm,if_false];have h':=h;unfold sortedHeap at h';rw [ez];exact wpAny_pure h'
theorem xl{l:Addr}{vs:List Value}{G:Value→Shared→Prop}(hl:s.heap.IsList l vs.toArray)(h2:vs.length<2)(h:G (.ref (s.heap.objs.size+1)) {s with heap:=sortedAll s.heap vs vs.toArray}):
  wpAny (model prog w) A (call (.builtin "sorted") [.ref l]) G E s:=by
 refine Calls.call_function_entry kind_sorted plain_sorted entry_sorted (args_sorted1 (.ref l)) ?_;unfold Builtin.«sorted»;have l2:vs.length≤sizeLine:=by rw [sizeLine_eq];omega
 refine wpAny_bind (m:=checkCount "sorted" 1 1 _) (wpAny_pure (wpAny_bind (collect_list hl (wpAny_bind (wpAny_newList ?_ l2)) l2)));have z1:((s.heap.push (seqObj "list" #[] 0)).update s.heap.objs.size (Obj.mapSeq (·++vs.toArray))).objs.size=s.heap.objs.size+1:=by rw [Heap.size_update,size_push']
 have z2:(((s.heap.push (seqObj "list" #[] 0)).update s.heap.objs.size (Obj.mapSeq (·++vs.toArray))).push (seqObj "list" vs.toArray 0)).get? (s.heap.objs.size+1)=some (seqObj "list" vs.toArray 0):=by
  rw [←z1];exact Heap.get?_push_size _ rfl
 show wpAny (model prog w) _ _ _ E {s with heap:=((s.heap.push (seqObj "list" #[] 0)).update s.heap.objs.size (Obj.mapSeq (·++vs.toArray))).push (seqObj "list" vs.toArray 0)}
 rw [z1];exact wpAny_bind (wpAny_holding (wpAny_call_entry slot_list_sort ⟨_,z2,rfl⟩ entry_list_sort (CB z2 h2 ⟨_,rfl,wpAny_pure ⟨_,rfl,h⟩⟩) (args_list_sort _)))
end
end KS
namespace L2
open PySem PySem.Spec PyProof.Rows
section
variable {X:Cx} {pins:List (Addr×Obj)} {σ:St} {H:Hp} {s:Shared} {h':Heap}
end
def sE(k:Nat×Nat):List V:= [.int (k.1:Nat), .int (k.2:Nat)]
def C5(H:Hp)(L:List (Addr×(Nat×Nat))):Prop:=∀p∈L,H p.1=some (.tup (sE p.2))
def jc(a b:Nat×Nat):Bool:=if a.1=b.1 then decide (a.2<b.2) else decide (a.1<b.1)
theorem r9(x y:Nat×Nat):jc x y=true↔x.1<y.1∨(x.1=y.1∧x.2<y.2):=by
 unfold jc
 by_cases e:x.1=y.1
 ·rw [if_pos e,decide_eq_true_iff]
  omega
 ·rw [if_neg e,decide_eq_true_iff]
  omega
theorem GU(x y z:Nat×Nat)(h:jc x z=true):jc x y=true∨jc y z=true:=by
 rw [r9] at*;rw [r9];omega
theorem JA(x y z:Nat×Nat)(h:jc x y=true)(h':jc y z=true):jc x z=true:=by
 rw [r9] at*;omega
theorem vi{a b:Nat×Nat}(h:jc b a=false):Wb.lexLe a b:=by
 unfold jc at h;unfold Wb.lexLe
 by_cases e:b.1=a.1
 ·rw [if_pos e] at h
  have:=of_decide_eq_false h
  right;omega
 ·rw [if_neg e] at h
  have:=of_decide_eq_false h
  left;omega
theorem LQ{prog:Program}{w:World}{A:Around}{E:Value→Shared→Prop}{s:Shared}{x y:Addr}{a1 a2 b1 b2:Int}{t1 t2 u1 u2:Tok}{C:Bool→Shared→Prop}
  (hx:IsTup s.heap x [.int a1 t1, .int a2 t2].toArray) (hy:IsTup s.heap y [.int b1 u1, .int b2 u2].toArray)
  (h:C (if a1=b1 then decide (a2<b2) else decide (a1<b1)) s):wpAny (model prog w) A (keyLt' (tuples' true) (.ref x) (.ref y)) C E s:=by
 obtain ⟨ox,YO,_,nx,dx⟩:=hx;obtain ⟨oy,YQ,_,ny,dy⟩:=hy;refine PySem.W.kat_lt YO dx YQ dy ?_;refine PySem.W.kat_cons (SeqAt.EqAt.int_int a1 t1 b1 u1 prog w _ _ ?_)
 by_cases e1:a1=b1
 ·rw [if_pos e1] at h
  rw [show (a1==b1)=true by simpa using e1]
  refine PySem.W.kat_yes (PySem.W.kat_cons (SeqAt.EqAt.int_int a2 t2 b2 u2 prog w _ _ ?_))
  by_cases e2:a2=b2
  ·rw [show (a2==b2)=true by simpa using e2]
   refine PySem.W.kat_yes (PySem.W.kat_nil ?_);rw [show decide (a2<b2)=false by simp;omega] at h
   simpa using h
  ·rw [show (a2==b2)=false by simpa using e2]
   refine PySem.W.kat_no (PySem.W.kat_one _ _ ?_);exact lt_int h
 ·rw [if_neg e1] at h
  rw [show (a1==b1)=false by simpa using e1]
  exact PySem.W.kat_no (oneLt_int h)
section
variable {X:Cx}
theorem vY:∀{as:List Addr}{us:List Value},Vals (as.map V.ref) us→us=as.map Value.ref
 | [],_, .nil=>rfl
 |a::as,_, .cons r t=>by cases r;rw [vY t];rfl
theorem vN:∀as:List Addr,Vals (as.map V.ref) (as.map Value.ref)
 | []=> .nil
 |a::as=> .cons rfl (vN as)
theorem Hd{pins:List (Addr×Obj)}{σ:St}{H:Hp}{s:Shared}{a:Addr}{k:Nat×Nat}(I:Inv X pins σ H s)(h:H a=some (.tup (sE k))):
  ∃t u,IsTup s.heap a [.int (k.1:Nat) t, .int (k.2:Nat) u].toArray:=by
 obtain ⟨its,r,p,_⟩:=I.tuple (gr.of h);obtain ⟨u1,u2,rfl,⟨t,rfl⟩,⟨u,rfl⟩⟩:=Vals.two r;exact ⟨t,u,p⟩
end
end L2
set_option maxHeartbeats 4000000
namespace L2
open PySem
theorem b9.of{X:Cx}{scope:Scope}(sc:Scope)(e:X.env.scope=sc)(k:scope.kind= .function)(a:∀x∈scope.names,x.2= .local→scope.names.lookup x.1=some .local)(b:∀x∈scope.names,x.2≠ .cell)
  (c:∀x∈scope.names,x.2= .free→sc.names.lookup x.1=some .cell∨sc.names.lookup x.1=some .free):b9 X scope:=⟨k,a,b,λx hx hf=>by rw [←e] at c;exact c x hx hf⟩
structure gk (K:PySem.W.Frag) (mg:Str→Option Value) (x:Str) (st:Stmt) (ps:List Str) where
 f:Addr
 fd:FuncData
 F:wQ K x x st f fd
 b:Binds K fd ps []
 m:mg x=some (.ref f)
theorem aV{H:Hp}{p:Addr}(h:H p=none)(o:HO):aK H (upd H p o):=λb u q=>by rw [aG (aY q h)];exact q
theorem small{n:Nat}(h:n≤1000):n≤sizeLine:=nT (g8 h)
end L2
namespace TS
open PySem PyProof.Rows
def eD:Bool→Keyed→Array Keyed→Nat→Nat→Nat→StateT SortSt Sem (Option Nat):=sortPriv%PySem.Builtin.gallop
def oh:Array Keyed→Array Keyed→StateT SortSt Sem (Array Keyed):=sortPriv%PySem.Builtin.mergeLo
def og:Array Keyed→Array Keyed→StateT SortSt Sem (Array Keyed):=sortPriv%PySem.Builtin.mergeHi
def setMinGallop':Nat→StateT SortSt Sem Unit:=sortPriv%PySem.Builtin.setMinGallop
def i7(left:Bool)(key:Keyed)(arr:Array Keyed)(base i:Nat):StateT SortSt Sem (Option Bool):=do
 let x ←elem' arr (base+i)
 if left then lt' x key else return (←lt' key x).map (!·)
theorem BK(left:Bool)(key:Keyed)(arr:Array Keyed)(base n hint:Nat):eD left key arr base n hint=(do
 let mut lastofs:=0
 let mut ofs:=1
 let mut lo:=0
 let mut hi:=0
 let some right ←i7 left key arr base hint|return none
 if right then
  let qP:=n-hint
  for _ in [0:n] do
   if ofs≥qP then break
   let some more ←i7 left key arr base (hint+ofs) |return none
   if !more then break
   lastofs:=ofs
   ofs:=2*ofs+1
  lo:=hint+lastofs+1
  hi:=hint+min ofs qP
 else
  let qP:=hint+1
  for _ in [0:n] do
   if ofs≥qP then break
   let some found ←i7 left key arr base (hint-ofs) |return none
   if found then break
   lastofs:=ofs
   ofs:=2*ofs+1
  lo:=hint+1-min ofs qP
  hi:=hint-lastofs
 for _ in [0:n] do
  if lo≥hi then break
  let m:=lo+(hi-lo) / 2
  let some more ←i7 left key arr base m|return none
  if more then lo:=m+1 else hi:=m
 return some hi):=rfl
def gf(O:KeyOrd)(key:Keyed→O.α)(S:Keyed→Prop)(k0:SortKind)(M:Model)(A:Around)(E:Value→Shared→Prop)(s:Shared):Prop:=
 ∀(x y:Keyed)(st:SortSt)(Q:Option Bool→SortSt→Prop),S x→S y→kindOf st=k0→Q (some (O.blt (key x) (key y))) st→wpS M A E s (lt' x y) Q st
section
variable {O:KeyOrd} {key:Keyed→O.α} {S:Keyed→Prop} {k0:SortKind} {M:Model} {A:Around} {E:Value→Shared→Prop} {s:Shared} {st:SortSt}
def dG(O:KeyOrd)(key:Keyed→O.α)(left:Bool)(k x:Keyed):Bool:=if left then O.blt (key x) (key k) else !O.blt (key k) (key x)
theorem bq{arr:Array Keyed}{i:Nat}{x:Keyed}{Q:Keyed→SortSt→Prop}(h:arr[i]? =some x)(q:Q x st):wpS M A E s (elem' arr i) Q st:=by
 rw [elem'_eq,h];exact wpS_pure q
theorem jL(C:gf O key S k0 M A E s){left:Bool}{k x:Keyed}{arr:Array Keyed}{base i:Nat}{Q:Option Bool→SortSt→Prop}(hx:arr[base+i]? =some x)(sk:S k)(sx:S x)(hk:kindOf st=k0)
  (q:Q (some (dG O key left k x)) st):wpS M A E s (i7 left k arr base i) Q st:=by
 unfold i7;refine wpS_bind (bq hx ?_);unfold dG at q;cases left with
 |true=>exact C _ _ _ _ sx sk hk q
 |false=>exact wpS_bind (C _ _ _ _ sk sx hk (wpS_pure q))
structure Seg (S:Keyed→Prop) (arr:Array Keyed) (base n:Nat) (g:Nat→Keyed):Prop where
 at_:∀i,i<n→arr[base+i]? =some (g i)
 mem:∀i,i<n→S (g i)
theorem f6(C:gf O key S k0 M A E s){left:Bool}{k:Keyed}{arr:Array Keyed}{base n hint:Nat}{g:Nat→Keyed}{Q:Option Nat→SortSt→Prop}(G:Seg S arr base n g)(sk:S k)(hk:kindOf st=k0)(hh:hint<n)
  (mono:∀i j,i≤j→j<n→dG O key left k (g j)=true→dG O key left k (g i)=true)
  (q:∀p,p≤n→(∀i,i<p→dG O key left k (g i)=true)→(∀i,p≤i→i<n→dG O key left k (g i)=false)→Q (some p) st):wpS M A E s (eD left k arr base n hint) Q st:=by
 rw [BK];refine wpS_bind (jL C (G.at_ _ hh) sk (G.mem _ hh) hk ?_)
 have Ek:∀i j,i≤j→j<n→dG O key left k (g i)=false→dG O key left k (g j)=false:=λi j cK hj h=>by
  cases e:dG O key left k (g j) with
  |false=>rfl
  |true=>rw [mono i j cK hj e] at h;cases h
 have fin:∀lo hi,lo≤hi→hi≤n→(∀i,i<lo→dG O key left k (g i)=true)→(∀i,hi≤i→i<n→dG O key left k (g i)=false)→
   wpS M A E s (do
    let mut lo:=lo
    let mut hi:=hi
    for _ in [0:n] do
     if lo≥hi then break
     let m:=lo+(hi-lo) / 2
     let some more ←i7 left k arr base m|return none
     if more then lo:=m+1 else hi:=m
    return some hi) Q st:=by
  intro lo hi hle hn h1 h2;dsimp only
  refine wpS_bind (wpS_mono (wpS_forRange (I:=λx c ao=>ao=st∧∃lo hi,c=(none,lo,hi)∧lo≤hi∧hi≤n∧hi-lo≤n-x∧(∀i,i<lo→dG O key left k (g i)=true)∧(∀i,hi≤i→i<n→dG O key left k (g i)=false))
   (Q:=λc ao=>ao=st∧∃hi,c=(none,hi,hi)∧hi≤n∧(∀i,i<hi→dG O key left k (g i)=true)∧(∀i,hi≤i→i<n→dG O key left k (g i)=false)) ?step ?fin ⟨rfl,lo,hi,rfl,hle,hn,by omega,h1,h2⟩) ?post)
  case fin=>
   rintro c ao ⟨rfl,lo,hi,rfl,a1,a2,a3,a4,a5⟩
   have:lo=hi:=by omega
   subst this;exact ⟨rfl,lo,rfl,a2,a4,a5⟩
  case step=>
   rintro x c ao _ hx ⟨rfl,lo,hi,rfl,a1,a2,a3,a4,a5⟩;dsimp only
   by_cases m7:lo≥hi
   ·rw [if_pos m7]
    have:lo=hi:=by omega
    subst this;exact wpS_pure ⟨rfl,lo,rfl,a2,a4,a5⟩
   ·rw [if_neg m7]
    have hm:lo+(hi-lo) / 2<n:=by omega
    refine wpS_bind (jL C (G.at_ _ hm) sk (G.mem _ hm) hk ?_);cases e:dG O key left k (g (lo+(hi-lo) / 2)) with
    |true=>
     dsimp only;rw [if_pos rfl];exact wpS_pure ⟨rfl,_,_,rfl,by omega,a2,by omega,λi hi=>mono _ _ (by omega) hm e,a5⟩
    |false=>
     dsimp only;rw [if_neg (by decide)]
     exact wpS_pure ⟨rfl,_,_,rfl,by omega,by omega,by omega,a4,λi h1 h2=>Ek _ _ h1 h2 e⟩
  case post=>
   rintro c ao ⟨rfl,hi,rfl,b1,b2,b3⟩;exact wpS_pure (q _ b1 b2 b3)
 dsimp only;cases e0:dG O key left k (g hint) with
 |true=>
  rw [if_pos rfl]
  refine wpS_bind (wpS_mono (wpS_forRange (I:=λx c ao=>ao=st∧∃la o,c=(none,la,o)∧la<o∧x<o∧hint+la<n∧dG O key left k (g (hint+la))=true)
   (Q:=λc ao=>ao=st∧∃la o,c=(none,la,o)∧la<o∧hint+la<n∧dG O key left k (g (hint+la))=true∧(n-hint≤o∨(hint+o<n∧dG O key left k (g (hint+o))=false))) ?step ?fin2 ⟨rfl,0,1,rfl,by omega,by omega,by omega,e0⟩) ?post)
  case fin2=>
   rintro c ao ⟨rfl,la,o,rfl,a1,a2,a3,a4⟩;exact ⟨rfl,la,o,rfl,a1,a3,a4, .inl (by omega)⟩
  case step=>
   rintro x c ao _ hx ⟨rfl,la,o,rfl,a1,a2,a3,a4⟩;dsimp only
   by_cases m7:o≥n-hint
   ·rw [if_pos m7]
    exact wpS_pure ⟨rfl,la,o,rfl,a1,a3,a4, .inl m7⟩
   ·rw [if_neg m7]
    have hm:hint+o<n:=by omega
    refine wpS_bind (jL C (G.at_ _ hm) sk (G.mem _ hm) hk ?_);cases e:dG O key left k (g (hint+o)) with
    |true=>
     dsimp only;rw [if_neg (by decide)]
     exact wpS_pure ⟨rfl,_,_,rfl,by omega,by omega,hm,e⟩
    |false=>
     dsimp only;rw [if_pos (by decide)]
     exact wpS_pure ⟨rfl,la,o,rfl,a1,a3,a4, .inr ⟨hm,e⟩⟩
  case post=>
   rintro c ao ⟨rfl,la,o,rfl,b1,b2,b3,b4⟩;refine fin (hint+la+1) (hint+min o (n-hint)) (by omega) (by omega) (λi hi=>mono _ _ (by omega) b2 b3) (λi h1 h2=>?_)
   rcases b4 with b4| ⟨b4,b5⟩
   ·omega
   ·exact Ek _ _ (by omega) h2 b5
 |false=>
  rw [if_neg (by decide)]
  refine wpS_bind (wpS_mono (wpS_forRange (I:=λx c ao=>ao=st∧∃la o,c=(none,la,o)∧la<o∧x<o∧la≤hint∧dG O key left k (g (hint-la))=false)
   (Q:=λc ao=>ao=st∧∃la o,c=(none,la,o)∧la<o∧la≤hint∧dG O key left k (g (hint-la))=false∧(hint+1≤o∨(o≤hint∧dG O key left k (g (hint-o))=true))) ?step ?fin2 ⟨rfl,0,1,rfl,by omega,by omega,by omega,e0⟩) ?post)
  case fin2=>
   rintro c ao ⟨rfl,la,o,rfl,a1,a2,a3,a4⟩;exact ⟨rfl,la,o,rfl,a1,a3,a4, .inl (by omega)⟩
  case step=>
   rintro x c ao _ hx ⟨rfl,la,o,rfl,a1,a2,a3,a4⟩;dsimp only
   by_cases m7:o≥hint+1
   ·rw [if_pos m7]
    exact wpS_pure ⟨rfl,la,o,rfl,a1,a3,a4, .inl m7⟩
   ·rw [if_neg m7]
    have hm:hint-o<n:=by omega
    refine wpS_bind (jL C (G.at_ _ hm) sk (G.mem _ hm) hk ?_);cases e:dG O key left k (g (hint-o)) with
    |true=>
     dsimp only;rw [if_pos rfl];exact wpS_pure ⟨rfl,la,o,rfl,a1,a3,a4, .inr ⟨by omega,e⟩⟩
    |false=>
     dsimp only;rw [if_neg (by decide)]
     exact wpS_pure ⟨rfl,_,_,rfl,by omega,by omega,by omega,e⟩
  case post=>
   rintro c ao ⟨rfl,la,o,rfl,b1,b2,b3,b4⟩;refine fin (hint+1-min o (hint+1)) (hint-la) (by omega) (by omega) (λi hi=>?_) (λi h1 h2=>Ek _ _ h1 h2 b3)
   rcases b4 with b4| ⟨b4,b5⟩
   ·omega
   ·exact mono _ _ (by omega) (by omega) b5
end
section
variable {O:KeyOrd} {key:Keyed→O.α} {S:Keyed→Prop} {k0:SortKind} {M:Model} {A:Around} {E:Value→Shared→Prop} {s:Shared} {st bM:SortSt}
def ky(O:KeyOrd)(key:Keyed→O.α)(xs:Array Keyed)(i:Nat):O.α:=key (xs[i]?.getD (.none, .none))
theorem gZ{xs ys:Array Keyed}{i j:Nat}(h:xs[i]? =ys[j]?):ky O key xs i=ky O key ys j:=by unfold ky;rw [h]
def iJ(O:KeyOrd)(key:Keyed→O.α)(xs:Array Keyed)(a b:Nat):Prop:=∀i j,a≤i→i≤j→j<b→O.kle (ky O key xs i) (ky O key xs j)
def Ge(O:KeyOrd)(key:Keyed→O.α)(xs:Array Keyed)(a b:Nat):Prop:=∀i j,a≤i→i≤j→j<b→O.kle (ky O key xs j) (ky O key xs i)
structure gm (bM st:SortSt) (lo hi:Nat):Prop where
 perm:(arrOf st).Perm (arrOf bM)
 kind:kindOf st=kindOf bM
 failed:failedOf st=failedOf bM
 pend:pendingOf st=pendingOf bM
 out:∀i,i<lo∨hi≤i→(arrOf st)[i]? =(arrOf bM)[i]?
theorem gm.refl(st:SortSt)(lo hi:Nat):gm st st lo hi:=⟨.refl _,rfl,rfl,rfl,λ_ _=>rfl⟩
theorem gm.trans{Ag iO:SortSt}{lo hi:Nat}(a:gm bM Ag lo hi)(b:gm Ag iO lo hi):gm bM iO lo hi:=
 ⟨b.perm.trans a.perm,b.kind.trans a.kind,b.failed.trans a.failed,b.pend.trans a.pend,λi h=>(b.out i h).trans (a.out i h)⟩
theorem gm.size{lo hi:Nat}(a:gm bM st lo hi):(arrOf st).size=(arrOf bM).size:=a.perm.size_eq
theorem gm.mirror{lo hi i j:Nat}(iK:lo≤i)(hj:j≤hi)(hs:j≤(arrOf st).size):gm st (setArr st (mirror (arrOf st) i j ((j-i) / 2))) lo hi:=
 ⟨mirror_perm _ _ _ _,rfl,rfl,rfl,λk h=>by
  show (PyProof.Rows.mirror (arrOf st) i j ((j-i) / 2))[k]? =_;rw [getElem?_mirror_all hs,if_neg (by omega)]⟩
theorem gm.bubble{lo hi src d:Nat}(hd:d≤src)(h1:lo≤src-d)(h2:src<hi)(hs:src<(arrOf st).size):gm st (setArr st (bubble (arrOf st) src d)) lo hi:=
 ⟨bubble_perm _ _ _,rfl,rfl,rfl,λk h=>by
  show (PyProof.Rows.bubble (arrOf st) src d)[k]? =_;rw [getElem?_bubble hs d hd,if_neg (by omega),if_neg (by omega)]⟩
theorem pS{xs:Array Keyed}{i j:Nat}(hj:j≤xs.size)(k:Nat):ky O key (mirror xs i j ((j-i) / 2)) k=if i≤k∧k<j then ky O key xs (i+j-1-k) else ky O key xs k:=by
 have e:=getElem?_mirror_all (i:=i) hj k
 by_cases h1:i≤k∧k<j
 ·rw [if_pos h1] at e ⊢;exact gZ e
 ·rw [if_neg h1] at e ⊢;exact gZ e
theorem fK{xs:Array Keyed}{i j:Nat}(hj:j≤xs.size)(heq:∀k,i≤k→k<j→ky O key xs k=ky O key xs (j-1))(k:Nat):ky O key (mirror xs i j ((j-i) / 2)) k=ky O key xs k:=by
 rw [pS hj]
 split
 ·rw [heq _ (by omega) (by omega),heq k (by omega) (by omega)]
 ·rfl
theorem ve{xs:Array Keyed}{src d:Nat}(hs:src<xs.size)(hd:d≤src)(k:Nat):
  ky O key (bubble xs src d) k=if k=src-d then ky O key xs src else if src-d<k∧k≤src then ky O key xs (k-1) else ky O key xs k:=by
 have e:=getElem?_bubble hs d hd k
 by_cases h1:k=src-d
 ·rw [if_pos h1] at e ⊢;exact gZ e
 ·rw [if_neg h1] at e ⊢
  by_cases h2:src-d<k∧k≤src
  ·rw [if_pos h2] at e ⊢;exact gZ e
  ·rw [if_neg h2] at e ⊢;exact gZ e
structure Ok (S:Keyed→Prop) (k0:SortKind) (st:SortSt):Prop where
 mem:∀p,p∈(arrOf st).toList→S p
 kind:kindOf st=k0
theorem Ok.step{lo hi:Nat}(o:Ok S k0 bM)(a:gm bM st lo hi):Ok S k0 st:=
 ⟨λp hp=>o.mem p ((Gb.mp a.perm).mem_iff.mp hp),a.kind.trans o.kind⟩
theorem Ok.at{i:Nat}(o:Ok S k0 st)(hi:i<(arrOf st).size):(arrOf st)[i]? =some ((arrOf st)[i]?.getD (.none, .none))∧S ((arrOf st)[i]?.getD (.none, .none)):=by
 have e:(arrOf st)[i]? =some (arrOf st)[i]:=getElem?_pos _ i hi;rw [e];exact ⟨rfl,o.mem _ (by simp)⟩
theorem nQ(C:gf O key S k0 M A E s){i j:Nat}{Q:Option Bool→SortSt→Prop}(o:Ok S k0 st)(hi:i<(arrOf st).size)(hj:j<(arrOf st).size)
  (q:Q (some (O.blt (ky O key (arrOf st) i) (ky O key (arrOf st) j))) st):wpS M A E s (ltAt' i j) Q st:=by
 rw [ltAt'_eq];obtain ⟨e1,s1⟩:=o.at hi;obtain ⟨e2,s2⟩:=o.at hj;refine wpS_bind (wpS_get (wpS_bind (bq e1 (wpS_bind (bq e2 (C _ _ _ _ s1 s2 o.kind q))))))
theorem wpS_binarySort(C:gf O key S k0 M A E s){lo n ok:Nat}{Q:Bool→SortSt→Prop}(o:Ok S k0 st)(hn:lo+n≤(arrOf st).size)(hok:ok≤n)(hs:iJ O key (arrOf st) lo (lo+ok))
  (h:∀ao,gm st ao lo (lo+n)→iJ O key (arrOf ao) lo (lo+n)→Q true ao):wpS M A E s (binarySort' lo n ok) Q st:=by
 rw [binarySort'_eq]
 refine wpS_bind (wpS_mono (wpS_forRange (I:=λk c ao=>c=(none,())∧gm st ao lo (lo+n)∧iJ O key (arrOf ao) lo (lo+min k n))
  (Q:=λc ao=>c=(none,())∧gm st ao lo (lo+n)∧iJ O key (arrOf ao) lo (lo+n)) ?step ?fin ?init) ?post)
 case post=>
  rintro c ao ⟨rfl,ju,eQ⟩;exact wpS_pure (h ao ju eQ)
 case init=>
  refine ⟨rfl, .refl _ _ _,λi j hi cK hj=>?_⟩
  by_cases h1:ok=0
  ·have:i=j:=by omega
   subst this;exact KeyOrd.kle_refl _
  ·exact hs i j hi cK (by omega)
 case fin=>
  rintro c ao ⟨hc,ju,eQ⟩;refine ⟨hc,ju,?_⟩
  rwa [show min (max (max ok 1) n) n=n by omega] at eQ
 case step=>
  rintro k c ao hak Px ⟨rfl,ju,eQ⟩;rw [show min k n=k by omega] at eQ
  have o':=o.step ju;have fb:=ju.size;have hk:lo+k<(arrOf ao).size:=by omega
  refine wpS_bind (wpS_mono (wpS_forRange (I:=λx c cO=>cO=ao∧∃l r,c=(none,l,r)∧l≤r∧r≤k∧r-l≤k-x∧
    (∀i,i<l→O.kle (ky O key (arrOf ao) (lo+i)) (ky O key (arrOf ao) (lo+k)))∧(∀i,r≤i→i<k→O.klt (ky O key (arrOf ao) (lo+k)) (ky O key (arrOf ao) (lo+i))))
   (Q:=λc cO=>cO=ao∧∃l r,c=(none,l,r)∧l≤k∧
    (∀i,i<l→O.kle (ky O key (arrOf ao) (lo+i)) (ky O key (arrOf ao) (lo+k)))∧(∀i,l≤i→i<k→O.klt (ky O key (arrOf ao) (lo+k)) (ky O key (arrOf ao) (lo+i)))) ?istep ?ifin ?iinit) ?ipost)
  case iinit=>exact ⟨rfl,0,k,rfl,by omega,by omega,by omega,λi hi=>by omega,λi h1 h2=>by omega⟩
  case ifin=>
   rintro c cO ⟨rfl,l,r,rfl,YH,PD,hm,BP,GD⟩
   have:l=r:=by omega
   subst this;exact ⟨rfl,l,l,rfl,PD,BP,GD⟩
  case istep=>
   rintro x c cO _ hxk ⟨rfl,l,r,rfl,YH,PD,hm,BP,GD⟩;dsimp only
   by_cases m7:l≥r
   ·rw [if_pos m7]
    have:l=r:=by omega
    subst this;exact wpS_pure ⟨rfl,l,l,rfl,PD,BP,GD⟩
   ·rw [if_neg m7]
    refine wpS_bind (nQ C o' hk (by omega) ?_)
    cases m8:O.blt (ky O key (arrOf cO) (lo+k)) (ky O key (arrOf cO) (lo+(l+r) / 2))
    case true=>
     simp only [if_true];refine wpS_pure ⟨rfl,l,(l+r) / 2,rfl,by omega,by omega,by omega,BP,λi h1 h2=>?_⟩
     exact KeyOrd.klt_of_klt_of_kle m8 (eQ _ _ (by omega) (by omega) (by omega))
    case false=>
     simp only [mm,if_false];refine wpS_pure ⟨rfl,(l+r) / 2+1,r,rfl,by omega,by omega,by omega,λi h1=>?_,GD⟩
     exact KeyOrd.kle_trans (eQ (lo+i) (lo+(l+r) / 2) (by omega) (by omega) (by omega)) (show O.kle _ _ from m8)
  case ipost=>
   rintro c cO ⟨rfl,l,r,rfl,hlk,BP,GD⟩;show wpS _ _ _ _ (do moveDown' (lo+k) (lo+l);pure (ForInStep.yield (none,()))) _ _
   rw [moveDown'_eq];have ed:lo+k-(lo+l)=k-l:=by omega
   refine wpS_bind (wpS_modify (wpS_pure ⟨rfl,ju.trans (gm.bubble (by omega) (by omega) (by omega) hk),?_⟩))
   rw [show min (k+1) n=k+1 by omega]
   intro i j hi cK hj;show O.kle (ky O key (bubble (arrOf cO) (lo+k) (lo+k-(lo+l))) i) (ky O key (bubble (arrOf cO) (lo+k) (lo+k-(lo+l))) j);rw [ve hk (by omega),ve hk (by omega),show lo+k-(lo+k-(lo+l))=lo+l by omega]
   have Tf:∀a,lo≤a→a<lo+l→O.kle (ky O key (arrOf cO) a) (ky O key (arrOf cO) (lo+k)):=λa h1 h2=>by
    have:=BP (a-lo) (by omega);rwa [show lo+(a-lo)=a by omega] at this
   have Tc:∀a,lo+l≤a→a<lo+k→O.klt (ky O key (arrOf cO) (lo+k)) (ky O key (arrOf cO) a):=λa h1 h2=>by
    have:=GD (a-lo) (by omega) (by omega);rwa [show lo+(a-lo)=a by omega] at this
   repeat' split
   all_goals first
    | (exfalso;omega)
    |exact KeyOrd.kle_refl _
    |exact Tf _ (by omega) (by omega)
    |exact KeyOrd.kle_of_klt (Tc _ (by omega) (by omega))
    |exact eQ _ _ (by omega) (by omega) (by omega)
end
def Bn(lo a bh:Nat):StateT SortSt Sem AscSt:=
 forIn [a:bh] ((none,a):AscSt) λ_ __s=>do
  let __x ←ltAt' (lo+__s.snd) (lo+__s.snd-1)
  match __x with
  |some vU=>if vU=true then pure (ForInStep.done (none,__s.snd)) else pure (ForInStep.yield (none,__s.snd+1))
  |_=>pure (ForInStep.done (some none,__s.snd))
def tailL(lo n bh:Nat):StateT SortSt Sem (Option Nat):=do
 reverseSlice' lo (lo+n)
 let __s ←Bn lo n bh
 match __s.fst with
 |some r=>pure r
 |none=>pure (some __s.snd)
def zt(lo n bh:Nat):StateT SortSt Sem DescSt:=
 forIn [n:bh] ((none,n,0):DescSt) λ_ __s=>do
  let __x ←ltAt' (lo+__s.snd.fst) (lo+__s.snd.fst-1)
  match __x with
  |some vU=>
   if vU=true then
    if __s.snd.snd>0 then do
     reverseSlice' (lo+__s.snd.fst-(__s.snd.snd+1)) (lo+__s.snd.fst)
     pure (ForInStep.yield (none,__s.snd.fst+1,0))
    else pure (ForInStep.yield (none,__s.snd.fst+1,0))
   else do
    let __x ←ltAt' (lo+__s.snd.fst-1) (lo+__s.snd.fst)
    match __x with
    |some LV=>
     if LV=true then pure (ForInStep.done (none,__s.snd.fst,__s.snd.snd))
     else pure (ForInStep.yield (none,__s.snd.fst+1,__s.snd.snd+1))
    |_=>pure (ForInStep.done (some none,__s.snd.fst,__s.snd.snd))
  |_=>pure (ForInStep.done (some none,__s.snd.fst,__s.snd.snd))
def descP(lo n bh:Nat):StateT SortSt Sem (Option Nat):=do
 liftM (rule "list.sort.descending-run")
 let __s ←zt lo (n+1) bh
 match __s.fst with
 |some r=>pure r
 |none=>
  if __s.snd.snd>0 then do
   reverseSlice' (lo+__s.snd.fst-(__s.snd.snd+1)) (lo+__s.snd.fst)
   tailL lo __s.snd.fst bh
  else tailL lo __s.snd.fst bh
theorem wZ(lo bh:Nat):countRun' lo bh=(do
  let __s ←Bn lo 1 bh
  match __s.fst with
  |some r=>pure r
  |none=>
   if (__s.snd==bh)=true then pure (some __s.snd)
   else if __s.snd>1 then do
    let __x ←ltAt' lo (lo+__s.snd-1)
    match __x with
    |some NT=>if NT=true then pure (some __s.snd) else do
      reverseSlice' lo (lo+__s.snd)
      descP lo __s.snd bh
    |_=>pure none
   else descP lo __s.snd bh):=by
 rw [countRun'_eq];dsimp only;unfold descP tailL zt Bn
 congr 1
 funext __s
 obtain ⟨r,n⟩:=__s;cases r with
 |some r=>rfl
 |none=>
  dsimp only
  split
  ·rfl
  ·split
   ·congr 1
    funext x
    cases x with
    |none=>rfl
    |some NT=>
     dsimp only
     split
     ·rfl
     ·congr 1
      funext _r
      (congr 1;funext _u;congr 1;congr 1;funext s2;obtain ⟨r2,n2,q2⟩:=s2;cases r2 with
 |some r2=>rfl
 |none=>(dsimp only;split;(congr 1;funext _v;(congr 1;funext _w;congr 1;(funext s3;obtain ⟨r3,n3⟩:=s3;cases r3<;>rfl)));(congr 1;funext _w;congr 1;(funext s3;obtain ⟨r3,n3⟩:=s3;cases r3<;>rfl))))
   ·(congr 1;funext _u;congr 1;congr 1;funext s2;obtain ⟨r2,n2,q2⟩:=s2;cases r2 with
 |some r2=>rfl
 |none=>(dsimp only;split;(congr 1;funext _v;(congr 1;funext _w;congr 1;(funext s3;obtain ⟨r3,n3⟩:=s3;cases r3<;>rfl)));(congr 1;funext _w;congr 1;(funext s3;obtain ⟨r3,n3⟩:=s3;cases r3<;>rfl))))
section
variable {O:KeyOrd} {key:Keyed→O.α} {S:Keyed→Prop} {k0:SortKind} {prog:Program} {w:World} {A:Around} {E:Value→Shared→Prop} {s:Shared} {st bM:SortSt}
theorem y3(C:gf O key S k0 (model prog w) A E s){lo a bh:Nat}{Q:AscSt→SortSt→Prop}(o:Ok S k0 st)(hn:lo+bh≤(arrOf st).size)(ha:1≤a)(Yp:a≤bh)(hs:iJ O key (arrOf st) lo (lo+a))
  (h:∀n,a≤n→n≤bh→iJ O key (arrOf st) lo (lo+n)→(n=bh∨O.klt (ky O key (arrOf st) (lo+n)) (ky O key (arrOf st) (lo+n-1)))→Q (none,n) st):
  wpS (model prog w) A E s (Bn lo a bh) Q st:=by
 unfold Bn;refine wpS_forRange (I:=λx c ao=>ao=st∧c=(none,x)∧iJ O key (arrOf st) lo (lo+x)) ?step ?fin ⟨rfl,rfl,hs⟩
 case fin=>
  rintro c ao ⟨rfl,rfl,eQ⟩;rw [show max a bh=bh by omega] at eQ ⊢
  exact h bh Yp (bC _) eQ (.inl rfl)
 case step=>
  rintro x c ao SR Y1 ⟨rfl,rfl,eQ⟩;dsimp only;refine wpS_bind (nQ C o (by omega) (by omega) ?_)
  cases m8:O.blt (ky O key (arrOf ao) (lo+x)) (ky O key (arrOf ao) (lo+x-1))
  case true=>
   simp only [if_true];exact wpS_pure (h x SR (by omega) eQ (.inr m8))
  case false=>
   simp only [mm,if_false];refine wpS_pure ⟨rfl,rfl,λi j hi cK hj=>?_⟩
   by_cases Jg:j<lo+x
   ·exact eQ i j hi cK Jg
   ·have BN:j=lo+x:=by omega
    subst BN
    by_cases iK:i=lo+x
    ·subst iK;exact KeyOrd.kle_refl _
    ·exact KeyOrd.kle_trans (eQ i (lo+x-1) hi (by omega) (by omega)) m8
theorem rA{i j:Nat}{Q:Unit→SortSt→Prop}(h:Q () (setArr st (mirror (arrOf st) i j ((j-i) / 2)))):wpS (model prog w) A E s (reverseSlice' i j) Q st:=by
 rw [reverseSlice'_eq];exact wpS_modify h
theorem wg(C:gf O key S k0 (model prog w) A E s){lo n bh:Nat}{Q:Option Nat→SortSt→Prop}(o:Ok S k0 st)(hn:lo+bh≤(arrOf st).size)(h1:1≤n)(zL:n≤bh)(hs:Ge O key (arrOf st) lo (lo+n))
  (h:∀m ao,gm st ao lo (lo+bh)→1≤m→m≤bh→iJ O key (arrOf ao) lo (lo+m)→Q (some m) ao):wpS (model prog w) A E s (tailL lo n bh) Q st:=by
 unfold tailL;have fb:lo+n≤(arrOf st).size:=by omega
 refine wpS_bind (rA ?_);have hB:gm st (setArr st (mirror (arrOf st) lo (lo+n) ((lo+n-lo) / 2))) lo (lo+bh):=gm.mirror (bC _) (by omega) fb
 refine wpS_bind (y3 C (o.step hB) (by rw [hB.size];exact hn) h1 zL ?_ λm YI zJ YV _=>wpS_pure (h m _ hB (by omega) zJ YV))
 intro i j hi cK hj;show O.kle (ky O key (mirror (arrOf st) lo (lo+n) ((lo+n-lo) / 2)) i) (ky O key (mirror (arrOf st) lo (lo+n) ((lo+n-lo) / 2)) j);rw [pS fb,pS fb,if_pos (by omega),if_pos (by omega)]
 exact hs _ _ (by omega) (by omega) (by omega)
theorem EZ(C:gf O key S k0 (model prog w) A E s){lo n bh:Nat}{Q:DescSt→SortSt→Prop}(o:Ok S k0 st)(hn:lo+bh≤(arrOf st).size)(h1:1≤n)(zL:n≤bh)(hs:Ge O key (arrOf st) lo (lo+n))
  (h:∀m nh ao,gm st ao lo (lo+bh)→n≤m→m≤bh→Ge O key (arrOf ao) lo (lo+m)→nh+1≤m→(∀i,lo+m-(nh+1)≤i→i<lo+m→ky O key (arrOf ao) i=ky O key (arrOf ao) (lo+m-1))→Q (none,m,nh) ao):
  wpS (model prog w) A E s (zt lo n bh) Q st:=by
 unfold zt
 refine wpS_forRange (I:=λx c ao=>∃nh,c=(none,x,nh)∧gm st ao lo (lo+bh)∧Ge O key (arrOf ao) lo (lo+x)∧nh+1≤x∧
   (∀i,lo+x-(nh+1)≤i→i<lo+x→ky O key (arrOf ao) i=ky O key (arrOf ao) (lo+x-1))) ?step ?fin ⟨0,rfl, .refl _ _ _,hs,by omega,λi h1 h2=>by congr 1;omega⟩
 case fin=>
  rintro c ao ⟨nh,rfl,ju,eQ,hq,he⟩;rw [show max n bh=bh by omega] at eQ hq he ⊢
  exact h bh nh ao ju zL (bC _) eQ hq he
 case step=>
  rintro x c ao SR Y1 ⟨nh,rfl,ju,eQ,hq,he⟩;dsimp only;have o':=o.step ju;have hz:=ju.size;have fb:lo+x≤(arrOf ao).size:=by omega
  refine wpS_bind (nQ C o' (by omega) (by omega) ?_)
  cases m8:O.blt (ky O key (arrOf ao) (lo+x)) (ky O key (arrOf ao) (lo+x-1))
  case true=>
   simp only [if_true]
   have KI:∀xs:Array Keyed,(∀k,ky O key xs k=ky O key (arrOf ao) k)→Ge O key xs lo (lo+(x+1)):=by
    intro xs hk i j hi cK hj;rw [hk,hk]
    by_cases Jg:j<lo+x
    ·exact eQ i j hi cK Jg
    ·have BN:j=lo+x:=by omega
     subst BN
     by_cases iK:i=lo+x
     ·subst iK;exact KeyOrd.kle_refl _
     ·exact KeyOrd.kle_trans (KeyOrd.kle_of_klt m8) (eQ i (lo+x-1) hi (by omega) (by omega))
   by_cases BQ:nh>0
   ·rw [if_pos BQ]
    refine wpS_bind (rA (wpS_pure ⟨0,rfl,ju.trans (gm.mirror (by omega) (by omega) fb),KI _ (fK fb he),by omega,λi h1 h2=>by congr 1;omega⟩))
   ·rw [if_neg BQ]
    exact wpS_pure ⟨0,rfl,ju,KI _ (λ_=>rfl),by omega,λi h1 h2=>by congr 1;omega⟩
  case false=>
   simp only [mm,if_false];refine wpS_bind (nQ C o' (by omega) (by omega) ?_)
   cases Jh:O.blt (ky O key (arrOf ao) (lo+x-1)) (ky O key (arrOf ao) (lo+x))
   case true=>
    simp only [if_true];exact wpS_pure (h x nh ao ju (by omega) (by omega) eQ hq he)
   case false=>
    simp only [mm,if_false];have ND:ky O key (arrOf ao) (lo+x)=ky O key (arrOf ao) (lo+x-1):=O.total _ _ m8 Jh;refine wpS_pure ⟨nh+1,rfl,ju,λi j hi cK hj=>?_,by omega,λi h1 h2=>?_⟩
    ·by_cases Jg:j<lo+x
     ·exact eQ i j hi cK Jg
     ·have BN:j=lo+x:=by omega
      subst BN
      by_cases iK:i=lo+x
      ·subst iK;exact KeyOrd.kle_refl _
      ·rw [ND];exact eQ i (lo+x-1) hi (by omega) (by omega)
    ·rw [show lo+(x+1)-1=lo+x by omega]
     by_cases YB:i=lo+x
     ·subst YB;rfl
     ·rw [ND];exact he i (by omega) (by omega)
theorem v7(C:gf O key S k0 (model prog w) A E s){lo n bh:Nat}{Q:Option Nat→SortSt→Prop}(o:Ok S k0 st)(hn:lo+bh≤(arrOf st).size)(zL:n+1≤bh)(hs:Ge O key (arrOf st) lo (lo+(n+1)))
  (h:∀m ao,gm st ao lo (lo+bh)→1≤m→m≤bh→iJ O key (arrOf ao) lo (lo+m)→Q (some m) ao):wpS (model prog w) A E s (descP lo n bh) Q st:=by
 unfold descP;refine wpS_bind (wpS_lift (wpAny_rule ⟨rfl,?_⟩));refine wpS_bind (EZ C o hn (by omega) zL hs λm nh ao ju YI zJ eQ hq he=>?_)
 dsimp only;have hz:=ju.size;have fb:lo+m≤(arrOf ao).size:=by omega
 by_cases BQ:nh>0
 ·rw [if_pos BQ]
  have O7:gm ao (setArr ao (mirror (arrOf ao) (lo+m-(nh+1)) (lo+m) ((lo+m-(lo+m-(nh+1))) / 2))) lo (lo+bh):=gm.mirror (by omega) (by omega) fb
  refine wpS_bind (rA (wg C (o.step (ju.trans O7)) (by rw [O7.size];omega) (by omega) zJ ?_ λm' cO hS=>h m' cO ((ju.trans O7).trans hS)))
  intro i j hi cK hj;show O.kle (ky O key (mirror (arrOf ao) _ _ _) j) (ky O key (mirror (arrOf ao) _ _ _) i);rw [fK fb he,fK fb he];exact eQ i j hi cK hj
 ·rw [if_neg BQ]
  exact wg C (o.step ju) (by omega) (by omega) zJ eQ λm' cO hS=>h m' cO (ju.trans hS)
theorem wpS_countRun(C:gf O key S k0 (model prog w) A E s){lo bh:Nat}{Q:Option Nat→SortSt→Prop}(o:Ok S k0 st)(hn:lo+bh≤(arrOf st).size)(h1:1≤bh)
  (h:∀m ao,gm st ao lo (lo+bh)→1≤m→m≤bh→iJ O key (arrOf ao) lo (lo+m)→Q (some m) ao):wpS (model prog w) A E s (countRun' lo bh) Q st:=by
 rw [wZ];refine wpS_bind (y3 C o hn (bC 1) h1 (λi j hi cK hj=>by have:i=j:=(by omega);subst this;exact KeyOrd.kle_refl _) λn Th xa LK YN=>?_)
 dsimp only
 by_cases zL:n=bh
 ·rw [if_pos (by simpa using zL)]
  exact wpS_pure (h n st (.refl _ _ _) Th xa LK)
 ·rw [if_neg (by simpa using zL)]
  have bN:O.klt (ky O key (arrOf st) (lo+n)) (ky O key (arrOf st) (lo+n-1)):=YN.resolve_left zL
  by_cases Tb:n>1
  ·rw [if_pos Tb]
   refine wpS_bind (nQ C o (by omega) (by omega) ?_)
   cases PF:O.blt (ky O key (arrOf st) lo) (ky O key (arrOf st) (lo+n-1))
   case true=>
    simp only [if_true];exact wpS_pure (h n st (.refl _ _ _) Th xa LK)
   case false=>
    simp only [mm,if_false];have fb:lo+n≤(arrOf st).size:=by omega
    have uZ:∀k,lo≤k→k<lo+n→ky O key (arrOf st) k=ky O key (arrOf st) (lo+n-1):=by
     intro k zH hk;have a1:=LK lo k (by omega) zH hk
     have a2:=LK k (lo+n-1) zH (by omega) (by omega)
     exact KeyOrd.kle_antisymm a2 (KeyOrd.kle_trans PF a1)
    have hB:gm st (setArr st (mirror (arrOf st) lo (lo+n) ((lo+n-lo) / 2))) lo (lo+bh):=gm.mirror (bC _) (by omega) fb
    refine wpS_bind (rA (v7 C (o.step hB) (by rw [hB.size];omega) (by omega) ?_ λm' cO hS=>h m' cO (hB.trans hS)))
    intro i j hi cK hj;show O.kle (ky O key (mirror (arrOf st) _ _ _) j) (ky O key (mirror (arrOf st) _ _ _) i);rw [fK fb uZ,fK fb uZ]
    by_cases YD:j<lo+n
    ·rw [uZ i hi (by omega),uZ j (by omega) YD];exact KeyOrd.kle_refl _
    ·have BN:j=lo+n:=by omega
     subst BN
     by_cases iK:i=lo+n
     ·subst iK;exact KeyOrd.kle_refl _
     ·rw [uZ i hi (by omega)];exact KeyOrd.kle_of_klt bN
  ·rw [if_neg Tb]
   have Tj:n=1:=by omega
   subst Tj;refine v7 C o hn (by omega) ?_ h
   intro i j hi cK hj
   by_cases iK:i=j
   ·subst iK;exact KeyOrd.kle_refl _
   ·have Yz:i=lo:=by omega
    have YC:j=lo+1:=by omega
    subst Yz;subst YC;exact KeyOrd.kle_of_klt bN
end
section lists
variable (O:KeyOrd) (key:Keyed→O.α)
def LE(x y:Keyed):Prop:=O.kle (key x) (key y)
structure MI (l o ra rb:List Keyed):Prop where
 perm:(o++(ra++rb)).Perm l
 so:o.Pairwise (LE O key)
 sa:ra.Pairwise (LE O key)
 sb:rb.Pairwise (LE O key)
 le:∀x∈o,∀y∈ra++rb,LE O key x y
def Res(l r:List Keyed):Prop:=r.Perm l∧r.Pairwise (LE O key)
variable {O key}
theorem MI.kZ{l o xs ra rb:List Keyed}(m:MI O key l o (xs++ra) rb)(h:∀x∈xs,∀y∈rb,LE O key x y):MI O key l (o++xs) ra rb:=by
 obtain ⟨sx,sr,sxr⟩:=A9.mp m.sa;refine ⟨by simpa [rF] using m.perm,A9.mpr ⟨m.so,sx,λx hx y hy=>m.le x hx y (by simp [hy])⟩,sr,m.sb,λx hx y hy=>?_⟩
 rcases dh.mp hx with z|z
 ·refine m.le x z y ?_
  rcases dh.mp hy with u|u<;>simp [u]
 ·rcases dh.mp hy with u|u
  ·exact sxr x z y u
  ·exact h x z y u
theorem MI.swap{l o ra rb:List Keyed}(m:MI O key l o ra rb):MI O key l o rb ra:=
 ⟨(List.Perm.append_left o List.perm_append_comm).trans m.perm,m.so,m.sb,m.sa,λx hx y hy=>m.le x hx y (by rcases dh.mp hy with u|u<;>simp [u])⟩
theorem MI.lg{l o xs ra rb:List Keyed}(m:MI O key l o ra (xs++rb))(h:∀x∈xs,∀y∈ra,LE O key x y):MI O key l (o++xs) ra rb:=(m.swap.kZ h).swap
theorem MI.BE{l o ra:List Keyed}(m:MI O key l o ra []):Res O key l (o++ra):=
 ⟨by simpa using m.perm,A9.mpr ⟨m.so,m.sa,λx hx y hy=>m.le x hx y (by simp [hy])⟩⟩
theorem MI.zP{l o ra rb:List Keyed}(m:MI O key l o ra rb)(h:∀y∈rb,∀x∈ra,LE O key y x):Res O key l (o++rb++ra):=by
 have m':MI O key l o ra (rb++ []):=by rw [jO];exact m
 exact (m'.lg h).BE
end lists
def zU(a b:Array Keyed)(mg ac bc ia:Nat)(out:Array Keyed)(ib:Nat):StateT SortSt Sem (ForInStep (Option (Array Keyed)×Array Keyed×Nat×Nat×Nat×Nat×Nat)):=do
 let __do_lift ←elem' a ia
 let out:Array Keyed:=out.push __do_lift
 let ia:Nat:=ia+1
 if (ia+1==a.size)=true then pure (ForInStep.done (some (out++b.extract ib b.size++a.extract ia a.size),out,ia,ib,mg,ac,bc))
 else if (decide (ac<7)&&decide (bc<7))=true then pure (ForInStep.done (none,out,ia,ib,mg,ac,bc))
 else pure (ForInStep.yield (none,out,ia,ib,mg,ac,bc))
def sh(a b:Array Keyed)(mg ac bc ib:Nat)(out:Array Keyed)(ia:Nat):StateT SortSt Sem (ForInStep (Option (Array Keyed)×Array Keyed×Nat×Nat×Nat×Nat×Nat)):=do
 let __do_lift ←elem' b ib
 let out:Array Keyed:=out.push __do_lift
 let ib:Nat:=ib+1
 if (ib==b.size)=true then pure (ForInStep.done (some (out++a.extract ia a.size++b.extract ib b.size),out,ia,ib,mg,ac,bc))
 else do
  let __do_lift ←elem' a ia
  let __x ←eD true __do_lift b ib (b.size-ib) 0
  match __x with
  |some k=>
   if k>0 then
    if (ib+k==b.size)=true then pure (ForInStep.done (some (out++b.extract ib (ib+k)++a.extract ia a.size++b.extract (ib+k) b.size),out++b.extract ib (ib+k),ia,ib+k,mg,ac,k))
    else zU a b mg ac k ia (out++b.extract ib (ib+k)) (ib+k)
   else zU a b mg ac k ia out ib
  |_=>pure (ForInStep.done (some (out++a.extract ia a.size++b.extract ib b.size),out,ia,ib,mg,ac,bc))
def pV(a b:Array Keyed)(bc ac ia ib:Nat)(out:Array Keyed)(mg:Nat):StateT SortSt Sem (ForInStep (Option (Array Keyed)×Array Keyed×Nat×Nat×Nat×Nat×Nat)):=do
 setMinGallop' mg
 let __do_lift ←elem' b ib
 let __x ←eD false __do_lift a ia (a.size-ia) 0
 match __x with
 |some k=>
  if k>0 then
   if (ia+k+1==a.size)=true then pure (ForInStep.done (some (out++a.extract ia (ia+k)++b.extract ib b.size++a.extract (ia+k) a.size),out++a.extract ia (ia+k),ia+k,ib,mg,k,bc))
   else if (ia+k==a.size)=true then pure (ForInStep.done (some (out++a.extract ia (ia+k)++a.extract (ia+k) a.size++b.extract ib b.size),out++a.extract ia (ia+k),ia+k,ib,mg,k,bc))
   else sh a b mg k bc ib (out++a.extract ia (ia+k)) (ia+k)
  else sh a b mg k bc ib out ia
 |_=>pure (ForInStep.done (some (out++a.extract ia a.size++b.extract ib b.size),out,ia,ib,mg,ac,bc))
def zW(a b:Array Keyed)(__s:Option (Array Keyed)×Array Keyed×Nat×Nat×Nat×Nat×Nat):StateT SortSt Sem (ForInStep (Option (Array Keyed)×Array Keyed×Nat×Nat×Nat×Nat×Nat)):=
 if __s.2.2.2.2.1>1 then pV a b __s.2.2.2.2.2.2 __s.2.2.2.2.2.1 __s.2.2.1 __s.2.2.2.1 __s.2.1 (__s.2.2.2.2.1-1) else pV a b __s.2.2.2.2.2.2 __s.2.2.2.2.2.1 __s.2.2.1 __s.2.2.2.1 __s.2.1 __s.2.2.2.2.1
def zV(a b:Array Keyed)(mg:Nat)(__s:Option (Array Keyed)×Array Keyed×Nat×Nat×Nat×Nat):StateT SortSt Sem (ForInStep (Option (Array Keyed)×Array Keyed×Nat×Nat×Nat×Nat)):=do
 let y ←elem' b __s.2.2.2.1
 let x ←elem' a __s.2.2.1
 let __x ←lt' y x
 match __x with
 |some C8=>
  if C8=true then do
   let y ←elem' b __s.2.2.2.1
   if (__s.2.2.2.1+1==b.size)=true then pure (ForInStep.done (some (__s.2.1.push y++a.extract __s.2.2.1 a.size++b.extract (__s.2.2.2.1+1) b.size),__s.2.1.push y,__s.2.2.1,__s.2.2.2.1+1,0,__s.2.2.2.2.2+1))
   else if __s.2.2.2.2.2+1≥mg then pure (ForInStep.done (none,__s.2.1.push y,__s.2.2.1,__s.2.2.2.1+1,0,__s.2.2.2.2.2+1))
   else pure (ForInStep.yield (none,__s.2.1.push y,__s.2.2.1,__s.2.2.2.1+1,0,__s.2.2.2.2.2+1))
  else do
   let x ←elem' a __s.2.2.1
   if (__s.2.2.1+1+1==a.size)=true then pure (ForInStep.done (some (__s.2.1.push x++b.extract __s.2.2.2.1 b.size++a.extract (__s.2.2.1+1) a.size),__s.2.1.push x,__s.2.2.1+1,__s.2.2.2.1,__s.2.2.2.2.1+1,0))
   else if __s.2.2.2.2.1+1≥mg then pure (ForInStep.done (none,__s.2.1.push x,__s.2.2.1+1,__s.2.2.2.1,__s.2.2.2.2.1+1,0))
   else pure (ForInStep.yield (none,__s.2.1.push x,__s.2.2.1+1,__s.2.2.2.1,__s.2.2.2.2.1+1,0))
 |_=>pure (ForInStep.done (some (__s.2.1++a.extract __s.2.2.1 a.size++b.extract __s.2.2.2.1 b.size),__s.2.1,__s.2.2.1,__s.2.2.2.1,__s.2.2.2.2.1,__s.2.2.2.2.2))
def qN(a b:Array Keyed)(__s:Option (Array Keyed)×Array Keyed×Nat×Nat×Nat):StateT SortSt Sem (ForInStep (Option (Array Keyed)×Array Keyed×Nat×Nat×Nat)):=do
 let __t ←forIn [0:a.size+b.size] (none,__s.2.1,__s.2.2.1,__s.2.2.2.1,0,0) λ_ c=>zV a b __s.2.2.2.2 c
 match __t.1 with
 |some r=>pure (ForInStep.done (some r,__t.2.1,__t.2.2.1,__t.2.2.2.1,__s.2.2.2.2))
 |none=>do
  liftM (rule "list.sort.gallop")
  let __u ←forIn [0:a.size+b.size] (none,__t.2.1,__t.2.2.1,__t.2.2.2.1,__s.2.2.2.2+1,__t.2.2.2.2.1,__t.2.2.2.2.2) λ_ c=>zW a b c
  match __u.1 with
  |some r=>pure (ForInStep.done (some r,__u.2.1,__u.2.2.1,__u.2.2.2.1,__u.2.2.2.2.1))
  |none=>do
   setMinGallop' (__u.2.2.2.2.1+1)
   pure (ForInStep.yield (none,__u.2.1,__u.2.2.1,__u.2.2.2.1,__u.2.2.2.2.1+1))
theorem bnd{α β:Type}{m m':StateT SortSt Sem α}{f f':α→StateT SortSt Sem β}(h:m=m')(g:∀x,f x=f' x):m>>=f=m'>>=f':=by rw [h,show f=f' from funext g]
theorem zy{β:Type}{n:Nat}{c0:β}{f f':Nat→β→StateT SortSt Sem (ForInStep β)}(h:∀i c,f i c=f' i c):forIn [0:n] c0 f=forIn [0:n] c0 f':=by rw [show f=f' from funext λi=>funext (h i)]
theorem eZ{α:Type}{c:Prop} [Decidable c] {x y x' y':α} (h:c→x=x') (g:¬c→y=y'):(if c then x else y)=if c then x' else y':=by
 by_cases e:c
 ·rw [if_pos e,if_pos e];exact h e
 ·rw [if_neg e,if_neg e];exact g e
theorem xc(a b:Array Keyed):oh a b=(do
 rule "list.sort.merge-lo"
 let total:=a.size+b.size
 let done (out:Array Keyed) (ia ib:Nat):=out++a.extract ia a.size++b.extract ib b.size
 let qI (out:Array Keyed) (ia ib:Nat):=out++b.extract ib b.size++a.extract ia a.size
 let mut out:Array Keyed:= #[←elem' b 0]
 let mut ia:=0
 let mut ib:=1
 if ib==b.size then return done out ia ib
 if ia+1==a.size then return qI out ia ib
 let mut minGallop:=gallopOf (←get)
 for _ in [0:total] do
  let mut acount:=0
  let mut bcount:=0
  for _ in [0:total] do
   let some C8 ←lt' (←elem' b ib) (←elem' a ia) |return done out ia ib
   if C8 then
    out:=out.push (←elem' b ib);ib:=ib+1;bcount:=bcount+1;acount:=0
    if ib==b.size then return done out ia ib
    if bcount≥minGallop then break
   else
    out:=out.push (←elem' a ia);ia:=ia+1;acount:=acount+1;bcount:=0
    if ia+1==a.size then return qI out ia ib
    if acount≥minGallop then break
  rule "list.sort.gallop"
  minGallop:=minGallop+1
  for _ in [0:total] do
   if minGallop>1 then minGallop:=minGallop-1
   setMinGallop' minGallop
   let some k ←eD false (←elem' b ib) a ia (a.size-ia) 0|return done out ia ib
   acount:=k
   if k>0 then
    out:=out++a.extract ia (ia+k);ia:=ia+k
    if ia+1==a.size then return qI out ia ib
    if ia==a.size then return done out ia ib
   out:=out.push (←elem' b ib);ib:=ib+1
   if ib==b.size then return done out ia ib
   let some k ←eD true (←elem' a ia) b ib (b.size-ib) 0|return done out ia ib
   bcount:=k
   if k>0 then
    out:=out++b.extract ib (ib+k);ib:=ib+k
    if ib==b.size then return done out ia ib
   out:=out.push (←elem' a ia);ia:=ia+1
   if ia+1==a.size then return qI out ia ib
   if acount<7&&bcount<7 then break
  minGallop:=minGallop+1
  setMinGallop' minGallop
 unsupported "internal:list.sort.merge-bound"):=rfl
theorem z3(a b:Array Keyed):oh a b=(do
 liftM (rule "list.sort.merge-lo")
 let y ←elem' b 0
 if (1==b.size)=true then pure (#[y]++a.extract 0 a.size++b.extract 1 b.size)
 else if (0+1==a.size)=true then pure (#[y]++b.extract 1 b.size++a.extract 0 a.size)
 else do
  let __do_lift ←get
  let __s ←forIn [0:a.size+b.size] (none, #[y],0,1,gallopOf __do_lift) λ_ c=>qN a b c
  match __s.1 with
  |some r=>pure r
  |none=>liftM (unsupported (α:=Array Keyed) "internal:list.sort.merge-bound")):=by
 rw [xc];dsimp only;refine bnd rfl λ_=>bnd rfl λy=>?_;refine congrArg (ite _ _) (congrArg (ite _ _) ?_);refine bnd rfl λg=>bnd (zy λ_ c=>?_) λu=>?_
 ·unfold qN
  refine bnd (zy λ_ t=>?_) λt=>?_
  ·unfold zV
   refine bnd rfl λ_=>bnd rfl λ_=>bnd rfl λz=>?_;cases z<;>rfl
  ·obtain ⟨t1,t2⟩:=t
   cases t1 with
   |some r=>rfl
   |none=>
    dsimp only;refine bnd rfl λ_=>bnd (zy λ_ u=>?_) λu=>?_
    ·unfold zW
     have jp:∀mg,pV a b u.2.2.2.2.2.2 u.2.2.2.2.2.1 u.2.2.1 u.2.2.2.1 u.2.1 mg=pV a b u.2.2.2.2.2.2 u.2.2.2.2.2.1 u.2.2.1 u.2.2.2.1 u.2.1 mg:=λ_=>rfl;refine eZ (λ_=>?_) (λ_=>?_)
     all_goals
      unfold pV;refine bnd rfl λ_=>bnd rfl λ_=>bnd rfl λz=>?_;cases z with
      |none=>rfl
      |some k=>
       dsimp only;refine eZ (λ_=>?_) (λ_=>?_)
       ·refine eZ (λ_=>rfl) (λ_=>eZ (λ_=>rfl) (λ_=>?_))
        unfold sh;refine bnd rfl λ_=>eZ (λ_=>rfl) (λ_=>bnd rfl λ_=>bnd rfl λz=>?_);cases z with
        |none=>rfl
        |some k=>rfl
       ·unfold sh
        refine bnd rfl λ_=>eZ (λ_=>rfl) (λ_=>bnd rfl λ_=>bnd rfl λz=>?_);cases z with
        |none=>rfl
        |some k=>rfl
    ·obtain ⟨u1,u2⟩:=u
     cases u1<;>rfl
 ·obtain ⟨u1,u2⟩:=u
  cases u1<;>rfl
structure GS (st ao:SortSt):Prop where
 arr:arrOf ao=arrOf st
 kind:kindOf ao=kindOf st
 failed:failedOf ao=failedOf st
 pend:pendingOf ao=pendingOf st
theorem GS.refl(st:SortSt):GS st st:=⟨rfl,rfl,rfl,rfl⟩
theorem GS.trans{a b c:SortSt}(x:GS a b)(y:GS b c):GS a c:=⟨y.arr.trans x.arr,y.kind.trans x.kind,y.failed.trans x.failed,y.pend.trans x.pend⟩
theorem rg(g:Nat):setMinGallop' g=modify λs=>SortSt.mk' (kindOf s) (arrOf s) (pendingOf s) g (failedOf s):=rfl
theorem ext_toList(xs:Array Keyed)(i j:Nat):(xs.extract i j).toList=(xs.toList.drop i).take (j-i):=by
 rw [Array.toList_extract]
theorem kc(xs:Array Keyed)(i:Nat):(xs.extract i xs.size).toList=xs.toList.drop i:=by
 rw [ext_toList,tT (by simp)]
theorem drop_cons{xs:Array Keyed}{i:Nat}{x:Keyed}(h:xs[i]? =some x):xs.toList.drop i=x::xs.toList.drop (i+1):=by
 have h':xs.toList[i]? =some x:=by rw [←h];simp
 obtain ⟨bN,e⟩:=eU.mp h';rw [rD bN,e]
theorem mV(l:List Keyed)(i k:Nat):l.drop i=(l.drop i).take k++l.drop (i+k):=by
 rw [←List.drop_drop,iq]
theorem dU{l:List Keyed}{i k:Nat}{x:Keyed}(h:x∈(l.drop i).take k):∃j,j<k∧i+j<l.length∧l[i+j]? =some x:=by
 obtain ⟨j,hj⟩:=wF h;rw [List.getElem?_take] at hj
 split at hj
 ·rename_i c
  rw [pz] at hj;exact ⟨j,c,(eU.mp hj).1,hj⟩
 ·cases hj
theorem fR{l:List Keyed}{i:Nat}{x:Keyed}(h:x∈l.drop i):∃j,i+j<l.length∧l[i+j]? =some x:=by
 obtain ⟨j,hj⟩:=wF h;rw [pz] at hj;exact ⟨j,(eU.mp hj).1,hj⟩
section
variable {O:KeyOrd} {key:Keyed→O.α} {S:Keyed→Prop} {k0:SortKind} {M:Model} {A:Around} {E:Value→Shared→Prop} {s:Shared} {st bM:SortSt}
theorem oE{g:Nat}{Q:Unit→SortSt→Prop}(h:∀ao,GS st ao→Q () ao):wpS M A E s (setMinGallop' g) Q st:=by
 rw [rg];exact wpS_modify (h _ ⟨rfl,rfl,rfl,rfl⟩)
structure mB (O:KeyOrd) (key:Keyed→O.α) (S:Keyed→Prop) (a b:Array Keyed):Prop where
 ma:∀x∈a.toList,S x
 mb:∀x∈b.toList,S x
 sa:a.toList.Pairwise (LE O key)
 sb:b.toList.Pairwise (LE O key)
 na:1≤a.size
 nb:1≤b.size
 first:∀y,b[0]? =some y→∀x∈a.toList,LE O key y x
 last:∀x,a[a.size-1]? =some x→∀y∈b.toList,LE O key y x
theorem mB.zP{a b:Array Keyed}(T:mB O key S a b){ia ib:Nat}(h:ia+1=a.size):∀y∈b.toList.drop ib,∀x∈a.toList.drop ia,LE O key y x:=λy hy x hx=>by
 obtain ⟨j,hj,e⟩:=fR hx;rw [dZ] at hj
 have:ia+j=a.size-1:=by omega
 rw [this] at e;exact T.last x (by rw [←e];simp) y (List.mem_of_mem_drop hy)
theorem fD{l:List Keyed}(h:l.Pairwise (LE O key)){i j:Nat}{x y:Keyed}(cK:i≤j)(hx:l[i]? =some x)(hy:l[j]? =some y):LE O key x y:=by
 by_cases e:i=j
 ·subst e
  rw [hx] at hy;cases hy;exact KeyOrd.kle_refl _
 ·obtain ⟨h1,e1⟩:=eU.mp hx
  obtain ⟨h2,e2⟩:=eU.mp hy;rw [←e1,←e2];exact A4.mp h i j h1 h2 (by omega)
theorem om{xs:Array Keyed}(m:∀x∈xs.toList,S x){i n:Nat}(h:i+n≤xs.size):Seg S xs i n (λj=>xs[i+j]?.getD (.none, .none)):=
 ⟨λj hj=>by
  have:i+j<xs.size:=by omega
  rw [getElem?_pos xs (i+j) this];rfl,λj hj=>by
  have:i+j<xs.size:=by omega
  rw [getElem?_pos xs (i+j) this];exact m _ (by simp)⟩
theorem bA{xs:Array Keyed}{i:Nat}(h:i<xs.size):∃x,xs[i]? =some x∧x∈xs.toList∧xs.toList[i]? =some x:=by
 refine ⟨xs[i],getElem?_pos xs i h,by simp,?_⟩
 rw [gJ];exact getElem?_pos xs i h
theorem kn{xs:Array Keyed}{i:Nat}{x:Keyed}(h:xs[i]? =some x):xs.toList[i]? =some x:=by rw [gJ];exact h
theorem jw{xs:Array Keyed}{i:Nat}{x:Keyed}(h:xs.toList[i]? =some x):xs[i]? =some x:=by rw [←gJ];exact h
structure IV (O:KeyOrd) (key:Keyed→O.α) (a b out:Array Keyed) (ia ib:Nat):Prop where
 mi:MI O key (a.toList++b.toList) out.toList (a.toList.drop ia) (b.toList.drop ib)
 ha:ia<a.size
 hb:ib<b.size
theorem IV.sI{a b out:Array Keyed}{ia ib:Nat}{y:Keyed}(v:MI O key (a.toList++b.toList) out.toList (a.toList.drop ia) (b.toList.drop ib))(hy:b[ib]? =some y)(h:∀x∈a.toList.drop ia,LE O key y x):
  MI O key (a.toList++b.toList) (out.push y).toList (a.toList.drop ia) (b.toList.drop (ib+1)):=by
 rw [drop_cons hy] at v;rw [wJ];exact MI.lg (xs:= [y]) v λx hx=>by rw [gQ.mp hx];exact h
theorem IV.sH{a b out:Array Keyed}{ia ib:Nat}{x:Keyed}(v:MI O key (a.toList++b.toList) out.toList (a.toList.drop ia) (b.toList.drop ib))(hx:a[ia]? =some x)(h:∀y∈b.toList.drop ib,LE O key x y):
  MI O key (a.toList++b.toList) (out.push x).toList (a.toList.drop (ia+1)) (b.toList.drop ib):=by
 rw [drop_cons hx] at v;rw [wJ];exact MI.kZ (xs:= [x]) v λx hx=>by rw [gQ.mp hx];exact h
theorem IV.lg{a b out:Array Keyed}{ia ib k:Nat}(v:MI O key (a.toList++b.toList) out.toList (a.toList.drop ia) (b.toList.drop ib))(h:∀y∈(b.toList.drop ib).take k,∀x∈a.toList.drop ia,LE O key y x):
  MI O key (a.toList++b.toList) (out++b.extract ib (ib+k)).toList (a.toList.drop ia) (b.toList.drop (ib+k)):=by
 rw [mV b.toList ib k] at v;rw [iH,ext_toList,show ib+k-ib=k by omega]
 exact MI.lg v h
theorem IV.kZ{a b out:Array Keyed}{ia ib k:Nat}(v:MI O key (a.toList++b.toList) out.toList (a.toList.drop ia) (b.toList.drop ib))(h:∀x∈(a.toList.drop ia).take k,∀y∈b.toList.drop ib,LE O key x y):
  MI O key (a.toList++b.toList) (out++a.extract ia (ia+k)).toList (a.toList.drop (ia+k)) (b.toList.drop ib):=by
 rw [mV a.toList ia k] at v;rw [iH,ext_toList,show ia+k-ia=k by omega]
 exact MI.kZ v h
theorem IV.rQ{a b out:Array Keyed}{ia ib:Nat}(v:MI O key (a.toList++b.toList) out.toList (a.toList.drop ia) (b.toList.drop ib))(h:ib=b.size):Res O key (a.toList++b.toList) (out++a.extract ia a.size++b.extract ib b.size).toList:=by
 have e:b.toList.drop ib= []:=List.drop_of_length_le (by rw [dZ];omega)
 rw [iH,iH,kc,kc,e,jO];rw [e] at v;exact v.BE
theorem IV.rP{a b out:Array Keyed}{ia ib:Nat}(v:MI O key (a.toList++b.toList) out.toList (a.toList.drop ia) (b.toList.drop ib))(h:ia=a.size):Res O key (a.toList++b.toList) (out++a.extract ia a.size++b.extract ib b.size).toList:=by
 have e:a.toList.drop ia= []:=List.drop_of_length_le (by rw [dZ];omega)
 rw [iH,iH,kc,kc,e,jO];rw [e] at v;exact v.swap.BE
theorem IV.last{a b out:Array Keyed}(T:mB O key S a b){ia ib:Nat}(v:MI O key (a.toList++b.toList) out.toList (a.toList.drop ia) (b.toList.drop ib))(h:ia+1=a.size):Res O key (a.toList++b.toList) (out++b.extract ib b.size++a.extract ia a.size).toList:=by
 rw [iH,iH,kc,kc];exact v.zP (T.zP h)
end
section
variable {O:KeyOrd} {key:Keyed→O.α} {S:Keyed→Prop} {k0:SortKind} {M:Model} {A:Around} {E:Value→Shared→Prop} {s:Shared} {st bM:SortSt} {a b:Array Keyed}
def Inv(O:KeyOrd)(key:Keyed→O.α)(a b:Array Keyed)(n:Nat)(out:Array Keyed)(ia ib:Nat):Prop:=MI O key (a.toList++b.toList) out.toList (a.toList.drop ia) (b.toList.drop ib)∧ia+1<a.size∧ib<b.size∧n≤ia+ib
def Fin{ρ:Type}(O:KeyOrd)(key:Keyed→O.α)(a b:Array Keyed)(n:Nat)(c:Option (Array Keyed)×Array Keyed×Nat×Nat×ρ):Prop:=
 (∃r,c.1=some r∧Res O key (a.toList++b.toList) r.toList)∨(c.1=none∧Inv O key a b n c.2.1 c.2.2.1 c.2.2.2.1)
def Out{ρ:Type}(O:KeyOrd)(key:Keyed→O.α)(a b:Array Keyed)(n:Nat)(r:ForInStep (Option (Array Keyed)×Array Keyed×Nat×Nat×ρ)):Prop:=match r with
 | .done c=>Fin O key a b n c
 | .yield c=>c.1=none∧Inv O key a b n c.2.1 c.2.2.1 c.2.2.2.1
def QP{ρ:Type}(O:KeyOrd)(key:Keyed→O.α)(a b:Array Keyed)(n:Nat)(r:ForInStep (Option (Array Keyed)×Array Keyed×Nat×Nat×ρ)):Prop:=match r with
 | .done c=>∃r,c.1=some r∧Res O key (a.toList++b.toList) r.toList
 | .yield c=>c.1=none∧Inv O key a b n c.2.1 c.2.2.1 c.2.2.2.1
theorem we{n mg ac bc ia ib:Nat}{out:Array Keyed}(T:mB O key S a b)(g:GS bM st)(v:MI O key (a.toList++b.toList) out.toList (a.toList.drop ia) (b.toList.drop ib))(ha:ia+1<a.size)(hb:ib<b.size)(hn:n≤ia+ib)
  (hx:∀x,a[ia]? =some x→∀y∈b.toList.drop ib,LE O key x y):wpS M A E s (zU a b mg ac bc ia out ib) (λr ao=>GS bM ao∧Out O key a b n r) st:=by
 unfold zU;obtain ⟨x,ex,mx,_⟩:=bA (xs:=a) (i:=ia) (by omega)
 refine wpS_bind (bq ex ?_);have v':=IV.sH v ex (hx x ex);dsimp only
 by_cases h1:ia+1+1=a.size
 ·rw [if_pos (by simpa using h1)]
  exact wpS_pure ⟨g, .inl ⟨_,rfl,IV.last T v' h1⟩⟩
 ·rw [if_neg (by simpa using h1)]
  have iv:Inv O key a b n (out.push x) (ia+1) ib:=⟨v',by omega,hb,by omega⟩
  by_cases h2:(decide (ac<7)&&decide (bc<7))=true
  ·rw [if_pos h2]
   exact wpS_pure ⟨g, .inr ⟨rfl,iv⟩⟩
  ·rw [if_neg h2]
   exact wpS_pure ⟨g,rfl,iv⟩
theorem wc(C:gf O key S k0 M A E s)(hk:kindOf st=k0){n mg ac bc ia ib:Nat}{out:Array Keyed}(T:mB O key S a b)(g:GS bM st)(v:MI O key (a.toList++b.toList) out.toList (a.toList.drop ia) (b.toList.drop ib))(ha:ia+1<a.size)(hb:ib<b.size)(hn:n≤ia+ib)
  (hy:∀y,b[ib]? =some y→∀x∈a.toList.drop ia,LE O key y x):wpS M A E s (sh a b mg ac bc ib out ia) (λr ao=>GS bM ao∧Out O key a b n r) st:=by
 unfold sh;obtain ⟨y,ey,my,_⟩:=bA (xs:=b) (i:=ib) hb;refine wpS_bind (bq ey ?_);have v':=IV.sI v ey (hy y ey);dsimp only
 by_cases h1:ib+1=b.size
 ·rw [if_pos (by simpa using h1)]
  exact wpS_pure ⟨g, .inl ⟨_,rfl,IV.rQ v' h1⟩⟩
 ·rw [if_neg (by simpa using h1)]
  obtain ⟨x,ex,mx,lx⟩:=bA (xs:=a) (i:=ia) (by omega)
  refine wpS_bind (bq ex ?_)
  have xle:∀z∈a.toList.drop ia,LE O key x z:=λz hz=>by
   obtain ⟨j,_,ej⟩:=fR hz;exact fD T.sa (by omega) lx ej
  have Bu:∀j z,ib+1+j<b.size→b.toList[ib+1+j]? =some z→b[ib+1+j]?.getD (Value.none,Value.none)=z:=λj z hj e=>by rw [jw e];rfl
  refine wpS_bind (f6 C (om T.mb (i:=ib+1) (n:=b.size-(ib+1)) (by omega)) (T.ma x mx) hk (by omega) (λi j cK hj h=>?_) λp hp pt pf=>?_)
  ·obtain ⟨yi,e1,_,l1⟩:=bA (xs:=b) (i:=ib+1+i) (by omega)
   obtain ⟨yj,e2,_,l2⟩:=bA (xs:=b) (i:=ib+1+j) (by omega)
   unfold dG at h ⊢;rw [if_pos rfl] at h ⊢;rw [e2] at h;rw [e1];exact KeyOrd.klt_of_kle_of_klt (fD T.sb (by omega) l1 l2) h
  ·have lo:∀y∈(b.toList.drop (ib+1)).take p,∀x∈a.toList.drop ia,LE O key y x:=λz hz u hu=>by
    obtain ⟨j,hj,hl,ej⟩:=dU hz;rw [dZ] at hl
    have:=pt j hj
    unfold dG at this;rw [if_pos rfl,Bu j z hl ej] at this;exact KeyOrd.kle_trans (KeyOrd.kle_of_klt this) (xle u hu)
   have hi:∀x',a[ia]? =some x'→∀y∈b.toList.drop (ib+1+p),LE O key x' y:=λx' oJ z hz=>by
    rw [ex] at oJ;cases oJ;obtain ⟨j,hl,ej⟩:=fR hz;rw [dZ] at hl
    have:=pf (p+j) (by omega) (by omega)
    unfold dG at this;rw [if_pos rfl,Bu (p+j) z (by omega) (by rw [←ej];congr 1;omega)] at this
    exact this
   dsimp only
   by_cases u6:p>0
   ·rw [if_pos u6]
    have v2:=IV.lg v' lo
    by_cases h2:ib+1+p=b.size
    ·rw [if_pos (by simpa using h2)]
     exact wpS_pure ⟨g, .inl ⟨_,rfl,IV.rQ v2 h2⟩⟩
    ·rw [if_neg (by simpa using h2)]
     exact we T g v2 ha (by omega) (by omega) hi
   ·rw [if_neg u6]
    have:p=0:=by omega
    subst this;exact we T g v' ha (by omega) (by omega) hi
theorem wb(C:gf O key S k0 M A E s)(hk:kindOf st=k0){n mg ac bc ia ib:Nat}{out:Array Keyed}(T:mB O key S a b)(g:GS bM st)(iv:Inv O key a b n out ia ib):wpS M A E s (pV a b bc ac ia ib out mg) (λr ao=>GS bM ao∧Out O key a b n r) st:=by
 obtain ⟨v,ha,hb,hn⟩:=iv;unfold pV;refine wpS_bind (oE λAg g1=>?_);have BO:kindOf Ag=k0:=g1.kind.trans hk;have g':=g.trans g1;obtain ⟨y,ey,my,ly⟩:=bA (xs:=b) (i:=ib) hb;refine wpS_bind (bq ey ?_)
 have yle:∀z∈b.toList.drop ib,LE O key y z:=λz hz=>by
  obtain ⟨j,_,ej⟩:=fR hz;exact fD T.sb (by omega) ly ej
 have oS:∀j z,ia+j<a.size→a.toList[ia+j]? =some z→a[ia+j]?.getD (Value.none,Value.none)=z:=λj z hj e=>by rw [jw e];rfl
 refine wpS_bind (f6 C (om T.ma (i:=ia) (n:=a.size-ia) (by omega)) (T.mb y my) BO (by omega) (λi j cK hj h=>?_) λp hp pt pf=>?_)
 ·obtain ⟨xi,e1,_,l1⟩:=bA (xs:=a) (i:=ia+i) (by omega)
  obtain ⟨xj,e2,_,l2⟩:=bA (xs:=a) (i:=ia+j) (by omega)
  unfold dG at h ⊢;rw [if_neg (by decide)] at h ⊢
  rw [e2] at h;rw [e1];have h':O.kle (key xj) (key y):=by unfold KeyOrd.kle;simpa using h
  have:=KeyOrd.kle_trans (fD T.sa (by omega) l1 l2) h'
  unfold KeyOrd.kle at this;simpa using this
 ·have lo:∀x∈(a.toList.drop ia).take p,∀y∈b.toList.drop ib,LE O key x y:=λz hz u hu=>by
   obtain ⟨j,hj,hl,ej⟩:=dU hz;rw [dZ] at hl
   have:=pt j hj
   unfold dG at this;rw [if_neg (by decide),oS j z hl ej] at this
   have h':O.kle (key z) (key y):=by unfold KeyOrd.kle;simpa using this
   exact KeyOrd.kle_trans h' (yle u hu)
  have hi:∀y',b[ib]? =some y'→∀x∈a.toList.drop (ia+p),LE O key y' x:=λy' mX z hz=>by
   rw [ey] at mX;cases mX;obtain ⟨j,hl,ej⟩:=fR hz;rw [dZ] at hl
   have:=pf (p+j) (by omega) (by omega)
   unfold dG at this;rw [if_neg (by decide),oS (p+j) z (by omega) (by rw [←ej];congr 1;omega)] at this
   exact KeyOrd.kle_of_klt (show O.blt _ _=true by simpa using this)
  dsimp only
  by_cases u6:p>0
  ·rw [if_pos u6]
   have v2:=IV.kZ v lo
   by_cases h2:ia+p+1=a.size
   ·rw [if_pos (by simpa using h2)]
    exact wpS_pure ⟨g', .inl ⟨_,rfl,IV.last T v2 h2⟩⟩
   ·rw [if_neg (by simpa using h2)]
    by_cases h3:ia+p=a.size
    ·rw [if_pos (by simpa using h3)]
     exact wpS_pure ⟨g', .inl ⟨_,rfl,IV.rP v2 h3⟩⟩
    ·rw [if_neg (by simpa using h3)]
     exact wc C BO T g' v2 (by omega) hb (by omega) hi
  ·rw [if_neg u6]
   have:p=0:=by omega
   subst this;exact wc C BO T g' v ha hb hn hi
theorem E6(C:gf O key S k0 M A E s)(hk:kindOf st=k0){n:Nat}(T:mB O key S a b)(g:GS bM st)(c:Option (Array Keyed)×Array Keyed×Nat×Nat×Nat×Nat×Nat)(iv:Inv O key a b n c.2.1 c.2.2.1 c.2.2.2.1):
  wpS M A E s (zW a b c) (λr ao=>GS bM ao∧Out O key a b n r) st:=by
 unfold zW
 by_cases h:c.2.2.2.2.1>1
 ·rw [if_pos h];exact wb C hk T g iv
 ·rw [if_neg h];exact wb C hk T g iv
theorem E5(C:gf O key S k0 M A E s)(hk:kindOf st=k0){n mg:Nat}(T:mB O key S a b)(g:GS bM st)(c:Option (Array Keyed)×Array Keyed×Nat×Nat×Nat×Nat)(iv:Inv O key a b n c.2.1 c.2.2.1 c.2.2.2.1):
  wpS M A E s (zV a b mg c) (λr ao=>GS bM ao∧Out O key a b (n+1) r) st:=by
 obtain ⟨c1,out,ia,ib,ac,bc⟩:=c;obtain ⟨v,ha,hb,hn⟩:=iv;dsimp only at v ha hb hn;unfold zV;dsimp only;obtain ⟨y,ey,my,ly⟩:=bA (xs:=b) (i:=ib) hb;obtain ⟨x,ex,mx,lx⟩:=bA (xs:=a) (i:=ia) (by omega)
 refine wpS_bind (bq ey (wpS_bind (bq ex (wpS_bind (C _ _ _ _ (T.mb y my) (T.ma x mx) hk ?_)))));cases e:O.blt (key y) (key x) with
 |true=>
  dsimp only;rw [if_pos rfl];refine wpS_bind (bq ey ?_)
  have v':=IV.sI v ey λz hz=>by
   obtain ⟨j,_,ej⟩:=fR hz;exact KeyOrd.kle_trans (KeyOrd.kle_of_klt e) (fD T.sa (by omega) lx ej)
  by_cases h1:ib+1=b.size
  ·rw [if_pos (by simpa using h1)]
   exact wpS_pure ⟨g, .inl ⟨_,rfl,IV.rQ v' h1⟩⟩
  ·rw [if_neg (by simpa using h1)]
   have iv:Inv O key a b (n+1) (out.push y) ia (ib+1):=⟨v',by omega,by omega,by omega⟩
   by_cases h2:bc+1≥mg
   ·rw [if_pos h2];exact wpS_pure ⟨g, .inr ⟨rfl,iv⟩⟩
   ·rw [if_neg h2];exact wpS_pure ⟨g,rfl,iv⟩
 |false=>
  dsimp only;rw [if_neg (by decide)]
  refine wpS_bind (bq ex ?_)
  have v':=IV.sH v ex λz hz=>by
   obtain ⟨j,_,ej⟩:=fR hz;exact KeyOrd.kle_trans e (fD T.sb (by omega) ly ej)
  by_cases h1:ia+1+1=a.size
  ·rw [if_pos (by simpa using h1)]
   exact wpS_pure ⟨g, .inl ⟨_,rfl,IV.last T v' h1⟩⟩
  ·rw [if_neg (by simpa using h1)]
   have iv:Inv O key a b (n+1) (out.push x) (ia+1) ib:=⟨v',by omega,by omega,by omega⟩
   by_cases h2:ac+1≥mg
   ·rw [if_pos h2];exact wpS_pure ⟨g, .inr ⟨rfl,iv⟩⟩
   ·rw [if_neg h2];exact wpS_pure ⟨g,rfl,iv⟩
theorem Inv.le{n m:Nat}{out:Array Keyed}{ia ib:Nat}(h:Inv O key a b n out ia ib)(hm:m≤n):Inv O key a b m out ia ib:=⟨h.1,h.2.1,h.2.2.1,kM hm h.2.2.2⟩
theorem AW(C:gf O key S k0 M A E s)(hk:kindOf st=k0){n:Nat}(T:mB O key S a b)(g:GS bM st)(zH:kindOf bM=k0)(c:Option (Array Keyed)×Array Keyed×Nat×Nat×Nat)(iv:Inv O key a b n c.2.1 c.2.2.1 c.2.2.2.1):
  wpS M A E s (qN a b c) (λr ao=>GS bM ao∧QP O key a b (n+1) r) st:=by
 have Tv:0<a.size+b.size:=by have:=T.na;omega
 unfold qN;refine wpS_bind (wpS_mono (wpS_forRange (I:=λ(x:Nat)(c':Option (Array Keyed)×Array Keyed×Nat×Nat×Nat×Nat)(ao:SortSt)=>GS bM ao∧c'.1=none∧Inv O key a b (n+min x 1) c'.2.1 c'.2.2.1 c'.2.2.2.1) (Q:=λc' ao=>GS bM ao∧Fin O key a b (n+1) c') ?step ?fin ⟨g,rfl,iv.le (by omega)⟩) ?post)
 case fin=>
  rintro c' ao ⟨g',h1,h2⟩;exact ⟨g', .inr ⟨h1,h2.le (by omega)⟩⟩
 case step=>
  rintro x c' ao _ _ ⟨g',h1,h2⟩;refine wpS_mono (E5 C (g'.kind.trans zH) T g' c' h2) λr cO ⟨mZ,o⟩=>?_;cases r with
  |done d=>
   refine ⟨mZ,?_⟩
   rcases o with o| ⟨o1,o2⟩
   ·exact .inl o
   ·exact .inr ⟨o1,o2.le (by omega)⟩
  |yield d=>exact ⟨mZ,o.1,o.2.le (by omega)⟩
 case post=>
  rintro ⟨t1,t2⟩ ao ⟨g',o⟩
  rcases o with ⟨r,e,res⟩ | ⟨e,PR⟩
  ·dsimp only at e
   subst e;exact wpS_pure ⟨g',r,rfl,res⟩
  ·dsimp only at e
   subst e;dsimp only;refine wpS_bind (wpS_lift (wpAny_rule ⟨rfl,?_⟩));refine wpS_bind (wpS_mono (wpS_forRange (I:=λ(x:Nat)(c':Option (Array Keyed)×Array Keyed×Nat×Nat×Nat×Nat×Nat)(ao:SortSt)=>GS bM ao∧c'.1=none∧Inv O key a b (n+1) c'.2.1 c'.2.2.1 c'.2.2.2.1) (Q:=λc' ao=>GS bM ao∧Fin O key a b (n+1) c') ?step2 ?fin2 ⟨g',rfl,PR⟩) ?post2)
   case fin2=>
    rintro c' ao ⟨g',h1,h2⟩;exact ⟨g', .inr ⟨h1,h2⟩⟩
   case step2=>
    rintro x c' ao _ _ ⟨g',h1,h2⟩;refine wpS_mono (E6 C (g'.kind.trans zH) T g' c' h2) λr cO ⟨mZ,o⟩=>?_;cases r with
    |done d=>exact ⟨mZ,o⟩
    |yield d=>exact ⟨mZ,o⟩
   case post2=>
    rintro ⟨u1,u2⟩ ao ⟨g',o⟩
    rcases o with ⟨r,e,res⟩ | ⟨e,Jt⟩
    ·dsimp only at e
     subst e;exact wpS_pure ⟨g',r,rfl,res⟩
    ·dsimp only at e
     subst e;refine wpS_bind (oE λAg g1=>wpS_pure ⟨g'.trans g1,rfl,Jt⟩)
theorem AZ(C:gf O key S k0 M A E s)(hk:kindOf st=k0)(T:mB O key S a b){Q:Array Keyed→SortSt→Prop}(q:∀r ao,GS st ao→Res O key (a.toList++b.toList) r.toList→Q r ao):wpS M A E s (oh a b) Q st:=by
 rw [z3];refine wpS_bind (wpS_lift (wpAny_rule ⟨rfl,?_⟩));obtain ⟨y,ey,my,ly⟩:=bA (xs:=b) (i:=0) T.nb;refine wpS_bind (bq ey ?_);have v0:MI O key (a.toList++b.toList) (#[]:Array Keyed).toList (a.toList.drop 0) (b.toList.drop 0):=⟨by simp,by simp,by simpa using T.sa,by simpa using T.sb,by simp⟩
 have v1:=IV.sI v0 ey (by simpa using T.first y ey)
 have e1:(#[]:Array Keyed).push y= #[y]:=rfl;rw [e1] at v1
 by_cases h1:1=b.size
 ·rw [if_pos (by simpa using h1)]
  exact wpS_pure (q _ _ (GS.refl _) (IV.rQ v1 h1))
 ·rw [if_neg (by simpa using h1)]
  by_cases h2:0+1=a.size
  ·rw [if_pos (by simpa using h2)]
   exact wpS_pure (q _ _ (GS.refl _) (IV.last T v1 h2))
  ·rw [if_neg (by simpa using h2)]
   refine wpS_bind (wpS_get ?_);have na:=T.na;have nb:=T.nb;refine wpS_bind (wpS_mono (wpS_forRange (I:=λ(x:Nat)(c':Option (Array Keyed)×Array Keyed×Nat×Nat×Nat)(ao:SortSt)=>GS st ao∧c'.1=none∧Inv O key a b (x+1) c'.2.1 c'.2.2.1 c'.2.2.2.1) (Q:=λc' ao=>GS st ao∧∃r,c'.1=some r∧Res O key (a.toList++b.toList) r.toList) ?step ?fin ⟨GS.refl _,rfl,v1,by show 0+1<a.size;omega,by show 1<b.size;omega,by show 0+1≤0+1;omega⟩) ?post)
   case fin=>
    rintro c' ao ⟨g',h1,h2⟩
    have:=h2.2.2.2
    have:=h2.2.1
    have:=h2.2.2.1
    omega
   case step=>
    rintro x c' ao _ _ ⟨g',h1,h2⟩;refine wpS_mono (AW C (g'.kind.trans hk) T g' hk c' h2) λr cO ⟨mZ,o⟩=>?_;cases r with
    |done d=>exact ⟨mZ,o⟩
    |yield d=>exact ⟨mZ,o⟩
   case post=>
    rintro ⟨c1,c2⟩ ao ⟨g',r,e,res⟩;dsimp only at e;subst e;exact wpS_pure (q r ao g' res)
end
theorem xb(a b:Array Keyed):og a b=(do
 rule "list.sort.merge-hi"
 let total:=a.size+b.size
 let done (out:Array Keyed) (na nb:Nat):=a.extract 0 na++b.extract 0 nb++out.reverse
 let n6 (out:Array Keyed) (na nb:Nat):=b.extract 0 nb++a.extract 0 na++out.reverse
 let mut na:=a.size-1
 let mut nb:=b.size
 let mut out:Array Keyed:= #[←elem' a na]
 if na==0 then return done out na nb
 if nb==1 then return n6 out na nb
 let mut minGallop:=gallopOf (←get)
 for _ in [0:total] do
  let mut acount:=0
  let mut bcount:=0
  for _ in [0:total] do
   let some C7 ←lt' (←elem' b (nb-1)) (←elem' a (na-1)) |return done out na nb
   if C7 then
    na:=na-1;out:=out.push (←elem' a na);acount:=acount+1;bcount:=0
    if na==0 then return done out na nb
    if acount≥minGallop then break
   else
    nb:=nb-1;out:=out.push (←elem' b nb);bcount:=bcount+1;acount:=0
    if nb==1 then return n6 out na nb
    if bcount≥minGallop then break
  rule "list.sort.gallop"
  minGallop:=minGallop+1
  for _ in [0:total] do
   if minGallop>1 then minGallop:=minGallop-1
   setMinGallop' minGallop
   let some at_ ←eD false (←elem' b (nb-1)) a 0 na (na-1) |return done out na nb
   let k:=na-at_
   acount:=k
   if k>0 then
    out:=out++(a.extract at_ na).reverse;na:=at_
    if na==0 then return done out na nb
   nb:=nb-1;out:=out.push (←elem' b nb)
   if nb==1 then return n6 out na nb
   let some at_ ←eD true (←elem' a (na-1)) b 0 nb (nb-1) |return done out na nb
   let k:=nb-at_
   bcount:=k
   if k>0 then
    out:=out++(b.extract at_ nb).reverse;nb:=at_
    if nb==1 then return n6 out na nb
    if nb==0 then return done out na nb
   na:=na-1;out:=out.push (←elem' a na)
   if na==0 then return done out na nb
   if acount<7&&bcount<7 then break
  minGallop:=minGallop+1
  setMinGallop' minGallop
 unsupported "internal:list.sort.merge-bound"):=rfl
abbrev S7:=Option (Array Keyed)×Nat×Nat×Array Keyed×Nat×Nat×Nat
abbrev S6:=Option (Array Keyed)×Nat×Nat×Array Keyed×Nat×Nat
abbrev S5:=Option (Array Keyed)×Nat×Nat×Array Keyed×Nat
def iy(a b out:Array Keyed)(na nb:Nat):Array Keyed:=a.extract 0 na++b.extract 0 nb++out.reverse
def n9(a b out:Array Keyed)(na nb:Nat):Array Keyed:=b.extract 0 nb++a.extract 0 na++out.reverse
def zE(a b:Array Keyed)(mg ac bc na:Nat)(out:Array Keyed)(nb:Nat):StateT SortSt Sem (ForInStep S7):=do
 let x ←elem' a (na-1)
 if (na-1==0)=true then pure (ForInStep.done (some (iy a b (out.push x) (na-1) nb),na-1,nb,out.push x,mg,ac,bc))
 else if (decide (ac<7)&&decide (bc<7))=true then pure (ForInStep.done (none,na-1,nb,out.push x,mg,ac,bc))
 else pure (ForInStep.yield (none,na-1,nb,out.push x,mg,ac,bc))
def rW(a b:Array Keyed)(mg ac bc nb:Nat)(out:Array Keyed)(na:Nat):StateT SortSt Sem (ForInStep S7):=do
 let y ←elem' b (nb-1)
 if (nb-1==1)=true then pure (ForInStep.done (some (n9 a b (out.push y) na (nb-1)),na,nb-1,out.push y,mg,ac,bc))
 else do
  let x ←elem' a (na-1)
  let __x ←eD true x b 0 (nb-1) (nb-1-1)
  match __x with
  |some p=>
   if nb-1-p>0 then
    if (p==1)=true then pure (ForInStep.done (some (n9 a b (out.push y++(b.extract p (nb-1)).reverse) na p),na,p,out.push y++(b.extract p (nb-1)).reverse,mg,ac,nb-1-p))
    else if (p==0)=true then pure (ForInStep.done (some (iy a b (out.push y++(b.extract p (nb-1)).reverse) na p),na,p,out.push y++(b.extract p (nb-1)).reverse,mg,ac,nb-1-p))
    else zE a b mg ac (nb-1-p) na (out.push y++(b.extract p (nb-1)).reverse) p
   else zE a b mg ac (nb-1-p) na (out.push y) (nb-1)
  |_=>pure (ForInStep.done (some (iy a b (out.push y) na (nb-1)),na,nb-1,out.push y,mg,ac,bc))
def u3(a b:Array Keyed)(bc ac na nb:Nat)(out:Array Keyed)(mg:Nat):StateT SortSt Sem (ForInStep S7):=do
 setMinGallop' mg
 let y ←elem' b (nb-1)
 let __x ←eD false y a 0 na (na-1)
 match __x with
 |some p=>
  if na-p>0 then
   if (p==0)=true then pure (ForInStep.done (some (iy a b (out++(a.extract p na).reverse) p nb),p,nb,out++(a.extract p na).reverse,mg,na-p,bc))
   else rW a b mg (na-p) bc nb (out++(a.extract p na).reverse) p
  else rW a b mg (na-p) bc nb out na
 |_=>pure (ForInStep.done (some (iy a b out na nb),na,nb,out,mg,ac,bc))
def zG(a b:Array Keyed)(c:S7):StateT SortSt Sem (ForInStep S7):=
 if c.2.2.2.2.1>1 then u3 a b c.2.2.2.2.2.2 c.2.2.2.2.2.1 c.2.1 c.2.2.1 c.2.2.2.1 (c.2.2.2.2.1-1) else u3 a b c.2.2.2.2.2.2 c.2.2.2.2.2.1 c.2.1 c.2.2.1 c.2.2.2.1 c.2.2.2.2.1
def zF(a b:Array Keyed)(mg:Nat)(c:S6):StateT SortSt Sem (ForInStep S6):=do
 let y ←elem' b (c.2.2.1-1)
 let x ←elem' a (c.2.1-1)
 let __x ←lt' y x
 match __x with
 |some C7=>
  if C7=true then do
   let x ←elem' a (c.2.1-1)
   if (c.2.1-1==0)=true then pure (ForInStep.done (some (iy a b (c.2.2.2.1.push x) (c.2.1-1) c.2.2.1),c.2.1-1,c.2.2.1,c.2.2.2.1.push x,c.2.2.2.2.1+1,0))
   else if c.2.2.2.2.1+1≥mg then pure (ForInStep.done (none,c.2.1-1,c.2.2.1,c.2.2.2.1.push x,c.2.2.2.2.1+1,0))
   else pure (ForInStep.yield (none,c.2.1-1,c.2.2.1,c.2.2.2.1.push x,c.2.2.2.2.1+1,0))
  else do
   let y ←elem' b (c.2.2.1-1)
   if (c.2.2.1-1==1)=true then pure (ForInStep.done (some (n9 a b (c.2.2.2.1.push y) c.2.1 (c.2.2.1-1)),c.2.1,c.2.2.1-1,c.2.2.2.1.push y,0,c.2.2.2.2.2+1))
   else if c.2.2.2.2.2+1≥mg then pure (ForInStep.done (none,c.2.1,c.2.2.1-1,c.2.2.2.1.push y,0,c.2.2.2.2.2+1))
   else pure (ForInStep.yield (none,c.2.1,c.2.2.1-1,c.2.2.2.1.push y,0,c.2.2.2.2.2+1))
 |_=>pure (ForInStep.done (some (iy a b c.2.2.2.1 c.2.1 c.2.2.1),c.2.1,c.2.2.1,c.2.2.2.1,c.2.2.2.2.1,c.2.2.2.2.2))
def qD(a b:Array Keyed)(__s:S5):StateT SortSt Sem (ForInStep S5):=do
 let __t ←forIn [0:a.size+b.size] ((none,__s.2.1,__s.2.2.1,__s.2.2.2.1,0,0):S6) λ_ c=>zF a b __s.2.2.2.2 c
 match __t.1 with
 |some r=>pure (ForInStep.done (some r,__t.2.1,__t.2.2.1,__t.2.2.2.1,__s.2.2.2.2))
 |none=>do
  liftM (rule "list.sort.gallop")
  let __u ←forIn [0:a.size+b.size] ((none,__t.2.1,__t.2.2.1,__t.2.2.2.1,__s.2.2.2.2+1,__t.2.2.2.2.1,__t.2.2.2.2.2):S7) λ_ c=>zG a b c
  match __u.1 with
  |some r=>pure (ForInStep.done (some r,__u.2.1,__u.2.2.1,__u.2.2.2.1,__u.2.2.2.2.1))
  |none=>do
   setMinGallop' (__u.2.2.2.2.1+1)
   pure (ForInStep.yield (none,__u.2.1,__u.2.2.1,__u.2.2.2.1,__u.2.2.2.2.1+1))
theorem zZ(a b:Array Keyed):og a b=(do
 liftM (rule "list.sort.merge-hi")
 let x ←elem' a (a.size-1)
 if (a.size-1==0)=true then pure (iy a b #[x] (a.size-1) b.size)
 else if (b.size==1)=true then pure (n9 a b #[x] (a.size-1) b.size)
 else do
  let __do_lift ←get
  let __s ←forIn [0:a.size+b.size] ((none,a.size-1,b.size, #[x],gallopOf __do_lift):S5) λ_ c=>qD a b c
  match __s.1 with
  |some r=>pure r
  |none=>liftM (unsupported (α:=Array Keyed) "internal:list.sort.merge-bound")):=by
 rw [xb];dsimp only;refine bnd rfl λ_=>bnd rfl λy=>?_;refine congrArg (ite _ _) (congrArg (ite _ _) ?_);refine bnd rfl λg=>bnd (zy λ_ c=>?_) λu=>?_
 ·unfold qD
  refine bnd (zy λ_ t=>?_) λt=>?_
  ·unfold zF
   refine bnd rfl λ_=>bnd rfl λ_=>bnd rfl λz=>?_;cases z<;>rfl
  ·obtain ⟨t1,t2⟩:=t
   cases t1 with
   |some r=>rfl
   |none=>
    dsimp only;refine bnd rfl λ_=>bnd (zy λ_ u=>?_) λu=>?_
    ·unfold zG
     refine eZ (λ_=>?_) (λ_=>?_)
     all_goals
      unfold u3;refine bnd rfl λ_=>bnd rfl λ_=>bnd rfl λz=>?_;cases z with
      |none=>rfl
      |some k=>
       dsimp only;refine eZ (λ_=>?_) (λ_=>?_)
       ·refine eZ (λ_=>rfl) (λ_=>?_)
        unfold rW;refine bnd rfl λ_=>eZ (λ_=>rfl) (λ_=>bnd rfl λ_=>bnd rfl λz=>?_);cases z with
        |none=>rfl
        |some k=>rfl
       ·unfold rW
        refine bnd rfl λ_=>eZ (λ_=>rfl) (λ_=>bnd rfl λ_=>bnd rfl λz=>?_);cases z with
        |none=>rfl
        |some k=>rfl
    ·obtain ⟨u1,u2⟩:=u
     cases u1<;>rfl
 ·obtain ⟨u1,u2⟩:=u
  cases u1<;>rfl
def Nx(O:KeyOrd):KeyOrd:={α:=O.α,blt:=λa b=>O.blt b a,irrefl:=O.irrefl,trans:=λa b c h1 h2=>O.trans _ _ _ h2 h1,negTrans:=λa b c h=>(O.negTrans c b a h).symm,total:=λa b h1 h2=>O.total a b h2 h1}
section
variable {O:KeyOrd} {key:Keyed→O.α} {S:Keyed→Prop} {k0:SortKind} {M:Model} {A:Around} {E:Value→Shared→Prop} {s:Shared} {st bM:SortSt} {a b:Array Keyed}
abbrev MJ(O:KeyOrd)(key:Keyed→O.α)(a b out:Array Keyed)(na nb:Nat):Prop:=MI (Nx O) key (a.toList++b.toList) out.toList (a.toList.take na).reverse (b.toList.take nb).reverse
theorem sM{l r:List Keyed}(h:Res (Nx O) key l r.reverse):Res O key l r:=
 ⟨(List.reverse_perm r).symm.trans h.1,by
   have:=List.pairwise_reverse.mp h.2
   exact this.imp λh=>h⟩
theorem xF(xs:Array Keyed)(n:Nat):(xs.extract 0 n).toList=xs.toList.take n:=by rw [ext_toList];simp
theorem yn{xs:Array Keyed}{n:Nat}{x:Keyed}(hn:1≤n)(h:xs[n-1]? =some x):(xs.toList.take n).reverse=x::(xs.toList.take (n-1)).reverse:=by
 have h':=kn h;obtain ⟨bN,e⟩:=eU.mp h'
 have:xs.toList.take n=xs.toList.take (n-1)++ [x]:=by
  have:=List.take_succ_eq_append_getElem bN
  rw [show n-1+1=n by omega,e] at this
  exact this
 rw [this,wH];rfl
theorem nN(l:List Keyed){p n:Nat}(h:p≤n):l.take n=l.take p++(l.drop p).take (n-p):=by
 conv=>lhs;rw [←iq p (l.take n)]
 rw [List.take_take,show min p n=p by omega,List.drop_take]
theorem fS{l:List Keyed}{n:Nat}{x:Keyed}(h:x∈l.take n):∃j,j<n∧j<l.length∧l[j]? =some x:=by
 have:=dU (l:=l) (i:=0) (k:=n) (x:=x) (by simpa using h)
 obtain ⟨j,h1,h2,h3⟩:=this;exact ⟨j,h1,by simpa using h2,by simpa using h3⟩
theorem MJ.sH{out:Array Keyed}{na nb:Nat}{x:Keyed}(v:MJ O key a b out na nb)(hn:1≤na)(hx:a[na-1]? =some x)(h:∀y∈b.toList.take nb,LE O key y x):MJ O key a b (out.push x) (na-1) nb:=by
 unfold MJ at v ⊢;rw [yn hn hx] at v;rw [wJ];exact MI.kZ (xs:= [x]) v λz hz y hy=>by rw [gQ.mp hz];exact h y (pD.mp hy)
theorem MJ.sI{out:Array Keyed}{na nb:Nat}{y:Keyed}(v:MJ O key a b out na nb)(hn:1≤nb)(hy:b[nb-1]? =some y)(h:∀x∈a.toList.take na,LE O key x y):MJ O key a b (out.push y) na (nb-1):=by
 unfold MJ at v ⊢;rw [yn hn hy] at v;rw [wJ];exact MI.lg (xs:= [y]) v λz hz x hx=>by rw [gQ.mp hz];exact h x (pD.mp hx)
theorem MJ.kZ{out:Array Keyed}{na nb p:Nat}(v:MJ O key a b out na nb)(hp:p≤na)(h:∀x∈(a.toList.drop p).take (na-p),∀y∈b.toList.take nb,LE O key y x):MJ O key a b (out++(a.extract p na).reverse) p nb:=by
 unfold MJ at v ⊢;rw [nN a.toList hp,wH] at v;rw [iH,wk,ext_toList];exact MI.kZ v λx hx y hy=>h x (pD.mp hx) y (pD.mp hy)
theorem MJ.lg{out:Array Keyed}{na nb p:Nat}(v:MJ O key a b out na nb)(hp:p≤nb)(h:∀y∈(b.toList.drop p).take (nb-p),∀x∈a.toList.take na,LE O key x y):MJ O key a b (out++(b.extract p nb).reverse) na p:=by
 unfold MJ at v ⊢;rw [nN b.toList hp,wH] at v;rw [iH,wk,ext_toList];exact MI.lg v λx hx y hy=>h x (pD.mp hx) y (pD.mp hy)
theorem MJ.rP{out:Array Keyed}{nb:Nat}(v:MJ O key a b out 0 nb):Res O key (a.toList++b.toList) (iy a b out 0 nb).toList:=by
 refine sM ?_;unfold iy MJ at*;rw [iH,iH,xF,xF,wk,sX,kJ,wH,List.reverse_reverse];rw [sX,List.reverse_nil] at v;exact v.swap.BE
theorem MJ.rQ{out:Array Keyed}{na:Nat}(v:MJ O key a b out na 0):Res O key (a.toList++b.toList) (iy a b out na 0).toList:=by
 refine sM ?_;unfold iy MJ at*;rw [iH,iH,xF,xF,wk,sX,jO,wH,List.reverse_reverse];rw [sX,List.reverse_nil] at v;exact v.BE
theorem MJ.first(T:mB O key S a b){out:Array Keyed}{na:Nat}(v:MJ O key a b out na 1):Res O key (a.toList++b.toList) (n9 a b out na 1).toList:=by
 refine sM ?_;have h:=v.swap.zP λx hx y hy=>?_
 ·unfold n9
  rw [iH,iH,xF,xF,wk,wH,List.reverse_reverse,wH,←rF];exact h
 ·obtain ⟨j,h1,_,e⟩:=fS (pD.mp hy)
  have:j=0:=by omega
  subst this;exact T.first y (jw e) x (wo (pD.mp hx))
def oG(O:KeyOrd)(key:Keyed→O.α)(a b:Array Keyed)(n:Nat)(na nb:Nat)(out:Array Keyed):Prop:=MJ O key a b out na nb∧1≤na∧na≤a.size∧2≤nb∧nb≤b.size∧n+na+nb≤a.size+b.size
def Oa{ρ:Type}(O:KeyOrd)(key:Keyed→O.α)(a b:Array Keyed)(n:Nat)(c:Option (Array Keyed)×Nat×Nat×Array Keyed×ρ):Prop:=
 (∃r,c.1=some r∧Res O key (a.toList++b.toList) r.toList)∨(c.1=none∧oG O key a b n c.2.1 c.2.2.1 c.2.2.2.1)
def HM{ρ:Type}(O:KeyOrd)(key:Keyed→O.α)(a b:Array Keyed)(n:Nat)(r:ForInStep (Option (Array Keyed)×Nat×Nat×Array Keyed×ρ)):Prop:=match r with
 | .done c=>Oa O key a b n c
 | .yield c=>c.1=none∧oG O key a b n c.2.1 c.2.2.1 c.2.2.2.1
def QO{ρ:Type}(O:KeyOrd)(key:Keyed→O.α)(a b:Array Keyed)(n:Nat)(r:ForInStep (Option (Array Keyed)×Nat×Nat×Array Keyed×ρ)):Prop:=match r with
 | .done c=>∃r,c.1=some r∧Res O key (a.toList++b.toList) r.toList
 | .yield c=>c.1=none∧oG O key a b n c.2.1 c.2.2.1 c.2.2.2.1
theorem wa{n mg ac bc na nb:Nat}{out:Array Keyed}(g:GS bM st)(v:MJ O key a b out na nb)(h1:1≤na)(h2:na≤a.size)(h3:2≤nb)(h4:nb≤b.size)(hn:n+na+nb≤a.size+b.size)
  (hx:∀x,a[na-1]? =some x→∀y∈b.toList.take nb,LE O key y x):wpS M A E s (zE a b mg ac bc na out nb) (λr ao=>GS bM ao∧HM O key a b n r) st:=by
 unfold zE;obtain ⟨x,ex,mx,_⟩:=bA (xs:=a) (i:=na-1) (by omega)
 refine wpS_bind (bq ex ?_);have v':=MJ.sH v h1 ex (hx x ex)
 by_cases e:na-1=0
 ·rw [if_pos (by simpa using e)]
  rw [e] at v' ⊢;exact wpS_pure ⟨g, .inl ⟨_,rfl,v'.rP⟩⟩
 ·rw [if_neg (by simpa using e)]
  have iv:oG O key a b n (na-1) nb (out.push x):=⟨v',by omega,by omega,h3,h4,by omega⟩
  by_cases h2:(decide (ac<7)&&decide (bc<7))=true
  ·rw [if_pos h2]
   exact wpS_pure ⟨g, .inr ⟨rfl,iv⟩⟩
  ·rw [if_neg h2]
   exact wpS_pure ⟨g,rfl,iv⟩
theorem v9(C:gf O key S k0 M A E s)(hk:kindOf st=k0){n mg ac bc na nb:Nat}{out:Array Keyed}(T:mB O key S a b)(g:GS bM st)(v:MJ O key a b out na nb)(h1:1≤na)(h2:na≤a.size)(h3:2≤nb)(h4:nb≤b.size)(hn:n+na+nb≤a.size+b.size)
  (hy:∀y,b[nb-1]? =some y→∀x∈a.toList.take na,LE O key x y):wpS M A E s (rW a b mg ac bc nb out na) (λr ao=>GS bM ao∧HM O key a b n r) st:=by
 unfold rW;obtain ⟨y,ey,my,_⟩:=bA (xs:=b) (i:=nb-1) (by omega)
 refine wpS_bind (bq ey ?_);have v':=MJ.sI v (by omega) ey (hy y ey)
 by_cases e:nb-1=1
 ·rw [if_pos (by simpa using e)]
  rw [e] at v' ⊢;exact wpS_pure ⟨g, .inl ⟨_,rfl,MJ.first T v'⟩⟩
 ·rw [if_neg (by simpa using e)]
  obtain ⟨x,ex,mx,lx⟩:=bA (xs:=a) (i:=na-1) (by omega)
  refine wpS_bind (bq ex ?_)
  have xge:∀z∈a.toList.take na,LE O key z x:=λz hz=>by
   obtain ⟨j,hj,_,ej⟩:=fS hz;exact fD T.sa (by omega) ej lx
  have Bu:∀j z,b.toList[j]? =some z→b[0+j]?.getD (Value.none,Value.none)=z:=λj z e=>by rw [mz,jw e];rfl
  refine wpS_bind (f6 C (om T.mb (i:=0) (n:=nb-1) (by omega)) (T.ma x mx) hk (by omega) (λi j cK hj h=>?_) λp hp pt pf=>?_)
  ·obtain ⟨yi,e1,_,l1⟩:=bA (xs:=b) (i:=0+i) (by omega)
   obtain ⟨yj,e2,_,l2⟩:=bA (xs:=b) (i:=0+j) (by omega)
   unfold dG at h ⊢;rw [if_pos rfl] at h ⊢;rw [e2] at h;rw [e1];exact KeyOrd.klt_of_kle_of_klt (fD T.sb (by omega) l1 l2) h
  ·have hi:∀y∈(b.toList.drop p).take (nb-1-p),∀x∈a.toList.take na,LE O key x y:=λz hz u hu=>by
    obtain ⟨j,hj,hl,ej⟩:=dU hz
    have:=pf (p+j) (by omega) (by omega)
    unfold dG at this;rw [if_pos rfl,Bu (p+j) z ej] at this;exact KeyOrd.kle_trans (xge u hu) this
   have lo:∀x',a[na-1]? =some x'→∀y∈b.toList.take p,LE O key y x':=λx' oJ z hz=>by
    rw [ex] at oJ;cases oJ;obtain ⟨j,hj,_,ej⟩:=fS hz
    have:=pt j hj
    unfold dG at this;rw [if_pos rfl,Bu j z ej] at this;exact KeyOrd.kle_of_klt this
   dsimp only
   by_cases u6:nb-1-p>0
   ·rw [if_pos u6]
    have v2:=MJ.lg v' hp hi
    by_cases e1:p=1
    ·rw [if_pos (by simpa using e1)]
     subst e1;exact wpS_pure ⟨g, .inl ⟨_,rfl,MJ.first T v2⟩⟩
    ·rw [if_neg (by simpa using e1)]
     by_cases e2:p=0
     ·rw [if_pos (by simpa using e2)]
      subst e2;exact wpS_pure ⟨g, .inl ⟨_,rfl,v2.rQ⟩⟩
     ·rw [if_neg (by simpa using e2)]
      exact wa g v2 h1 h2 (by omega) (by omega) (by omega) lo
   ·rw [if_neg u6]
    have:p=nb-1:=by omega
    subst this;exact wa g v' h1 h2 (by omega) (by omega) (by omega) lo
theorem v8(C:gf O key S k0 M A E s)(hk:kindOf st=k0){n mg ac bc na nb:Nat}{out:Array Keyed}(T:mB O key S a b)(g:GS bM st)(iv:oG O key a b n na nb out):wpS M A E s (u3 a b bc ac na nb out mg) (λr ao=>GS bM ao∧HM O key a b n r) st:=by
 obtain ⟨v,h1,h2,h3,h4,hn⟩:=iv;unfold u3;refine wpS_bind (oE λAg g1=>?_);have BO:kindOf Ag=k0:=g1.kind.trans hk;have g':=g.trans g1;obtain ⟨y,ey,my,ly⟩:=bA (xs:=b) (i:=nb-1) (by omega)
 refine wpS_bind (bq ey ?_)
 have yge:∀z∈b.toList.take nb,LE O key z y:=λz hz=>by
  obtain ⟨j,hj,_,ej⟩:=fS hz;exact fD T.sb (by omega) ej ly
 have oS:∀j z,a.toList[j]? =some z→a[0+j]?.getD (Value.none,Value.none)=z:=λj z e=>by rw [mz,jw e];rfl
 refine wpS_bind (f6 C (om T.ma (i:=0) (n:=na) (by omega)) (T.mb y my) BO (by omega) (λi j cK hj h=>?_) λp hp pt pf=>?_)
 ·obtain ⟨xi,e1,_,l1⟩:=bA (xs:=a) (i:=0+i) (by omega)
  obtain ⟨xj,e2,_,l2⟩:=bA (xs:=a) (i:=0+j) (by omega)
  unfold dG at h ⊢;rw [if_neg (by decide)] at h ⊢
  rw [e2] at h;rw [e1];have h':O.kle (key xj) (key y):=by unfold KeyOrd.kle;simpa using h
  have:=KeyOrd.kle_trans (fD T.sa (by omega) l1 l2) h'
  unfold KeyOrd.kle at this;simpa using this
 ·have hi:∀x∈(a.toList.drop p).take (na-p),∀y∈b.toList.take nb,LE O key y x:=λz hz u hu=>by
   obtain ⟨j,hj,hl,ej⟩:=dU hz
   have:=pf (p+j) (by omega) (by omega)
   unfold dG at this;rw [if_neg (by decide),oS (p+j) z ej] at this
   exact KeyOrd.kle_trans (yge u hu) (KeyOrd.kle_of_klt (show O.blt _ _=true by simpa using this))
  have lo:∀y',b[nb-1]? =some y'→∀x∈a.toList.take p,LE O key x y':=λy' mX z hz=>by
   rw [ey] at mX;cases mX;obtain ⟨j,hj,_,ej⟩:=fS hz
   have:=pt j hj
   unfold dG at this;rw [if_neg (by decide),oS j z ej] at this
   show O.blt _ _=false;simpa using this
  dsimp only
  by_cases u6:na-p>0
  ·rw [if_pos u6]
   have v2:=MJ.kZ v hp hi
   by_cases e1:p=0
   ·rw [if_pos (by simpa using e1)]
    subst e1;exact wpS_pure ⟨g', .inl ⟨_,rfl,v2.rP⟩⟩
   ·rw [if_neg (by simpa using e1)]
    exact v9 C BO T g' v2 (by omega) (by omega) h3 h4 (by omega) lo
  ·rw [if_neg u6]
   have:p=na:=by omega
   subst this;exact v9 C BO T g' v h1 h2 h3 h4 hn lo
theorem E4(C:gf O key S k0 M A E s)(hk:kindOf st=k0){n:Nat}(T:mB O key S a b)(g:GS bM st)(c:S7)(iv:oG O key a b n c.2.1 c.2.2.1 c.2.2.2.1):
  wpS M A E s (zG a b c) (λr ao=>GS bM ao∧HM O key a b n r) st:=by
 unfold zG
 by_cases h:c.2.2.2.2.1>1
 ·rw [if_pos h];exact v8 C hk T g iv
 ·rw [if_neg h];exact v8 C hk T g iv
theorem E3(C:gf O key S k0 M A E s)(hk:kindOf st=k0){n mg:Nat}(T:mB O key S a b)(g:GS bM st)(c:S6)(iv:oG O key a b n c.2.1 c.2.2.1 c.2.2.2.1):
  wpS M A E s (zF a b mg c) (λr ao=>GS bM ao∧HM O key a b (n+1) r) st:=by
 obtain ⟨c1,na,nb,out,ac,bc⟩:=c;obtain ⟨v,h1,h2,h3,h4,hn⟩:=iv;dsimp only at v h1 h2 h3 h4 hn;unfold zF;dsimp only;obtain ⟨y,ey,my,ly⟩:=bA (xs:=b) (i:=nb-1) (by omega)
 obtain ⟨x,ex,mx,lx⟩:=bA (xs:=a) (i:=na-1) (by omega)
 refine wpS_bind (bq ey (wpS_bind (bq ex (wpS_bind (C _ _ _ _ (T.mb y my) (T.ma x mx) hk ?_)))));cases e:O.blt (key y) (key x) with
 |true=>
  dsimp only;rw [if_pos rfl];refine wpS_bind (bq ex ?_)
  have v':=MJ.sH v h1 ex λz hz=>by
   obtain ⟨j,hj,_,ej⟩:=fS hz;exact KeyOrd.kle_trans (fD T.sb (by omega) ej ly) (KeyOrd.kle_of_klt e)
  by_cases e1:na-1=0
  ·rw [if_pos (by simpa using e1)]
   rw [e1] at v' ⊢;exact wpS_pure ⟨g, .inl ⟨_,rfl,v'.rP⟩⟩
  ·rw [if_neg (by simpa using e1)]
   have iv:oG O key a b (n+1) (na-1) nb (out.push x):=⟨v',by omega,by omega,h3,h4,by omega⟩
   by_cases h2:ac+1≥mg
   ·rw [if_pos h2];exact wpS_pure ⟨g, .inr ⟨rfl,iv⟩⟩
   ·rw [if_neg h2];exact wpS_pure ⟨g,rfl,iv⟩
 |false=>
  dsimp only;rw [if_neg (by decide)]
  refine wpS_bind (bq ey ?_)
  have v':=MJ.sI v (by omega) ey λz hz=>by
   obtain ⟨j,hj,_,ej⟩:=fS hz;exact KeyOrd.kle_trans (fD T.sa (by omega) ej lx) e
  by_cases e1:nb-1=1
  ·rw [if_pos (by simpa using e1)]
   rw [e1] at v' ⊢;exact wpS_pure ⟨g, .inl ⟨_,rfl,MJ.first T v'⟩⟩
  ·rw [if_neg (by simpa using e1)]
   have iv:oG O key a b (n+1) na (nb-1) (out.push y):=⟨v',by omega,by omega,by omega,by omega,by omega⟩
   by_cases h2:bc+1≥mg
   ·rw [if_pos h2];exact wpS_pure ⟨g, .inr ⟨rfl,iv⟩⟩
   ·rw [if_neg h2];exact wpS_pure ⟨g,rfl,iv⟩
theorem oG.le{n m:Nat}{out:Array Keyed}{na nb:Nat}(h:oG O key a b n na nb out)(hm:m≤n):oG O key a b m na nb out:=⟨h.1,h.2.1,h.2.2.1,h.2.2.2.1,h.2.2.2.2.1,by have:=h.2.2.2.2.2;omega⟩
theorem AV(C:gf O key S k0 M A E s){n:Nat}(T:mB O key S a b)(g:GS bM st)(zH:kindOf bM=k0)(c:S5)(iv:oG O key a b n c.2.1 c.2.2.1 c.2.2.2.1):
  wpS M A E s (qD a b c) (λr ao=>GS bM ao∧QO O key a b (n+1) r) st:=by
 have Tv:0<a.size+b.size:=by have:=T.na;omega
 unfold qD;refine wpS_bind (wpS_mono (wpS_forRange (I:=λ(x:Nat)(c':S6)(ao:SortSt)=>GS bM ao∧c'.1=none∧oG O key a b (n+min x 1) c'.2.1 c'.2.2.1 c'.2.2.2.1) (Q:=λc' ao=>GS bM ao∧Oa O key a b (n+1) c') ?step ?fin ⟨g,rfl,iv.le (by omega)⟩) ?post)
 case fin=>
  rintro c' ao ⟨g',h1,h2⟩;exact ⟨g', .inr ⟨h1,h2.le (by omega)⟩⟩
 case step=>
  rintro x c' ao _ _ ⟨g',h1,h2⟩;refine wpS_mono (E3 C (g'.kind.trans zH) T g' c' h2) λr cO ⟨mZ,o⟩=>?_;cases r with
  |done d=>
   refine ⟨mZ,?_⟩
   rcases o with o| ⟨o1,o2⟩
   ·exact .inl o
   ·exact .inr ⟨o1,o2.le (by omega)⟩
  |yield d=>exact ⟨mZ,o.1,o.2.le (by omega)⟩
 case post=>
  rintro ⟨t1,t2⟩ ao ⟨g',o⟩
  rcases o with ⟨r,e,res⟩ | ⟨e,PR⟩
  ·dsimp only at e
   subst e;exact wpS_pure ⟨g',r,rfl,res⟩
  ·dsimp only at e
   subst e;dsimp only;refine wpS_bind (wpS_lift (wpAny_rule ⟨rfl,?_⟩));refine wpS_bind (wpS_mono (wpS_forRange (I:=λ(x:Nat)(c':S7)(ao:SortSt)=>GS bM ao∧c'.1=none∧oG O key a b (n+1) c'.2.1 c'.2.2.1 c'.2.2.2.1) (Q:=λc' ao=>GS bM ao∧Oa O key a b (n+1) c') ?step2 ?fin2 ⟨g',rfl,PR⟩) ?post2)
   case fin2=>
    rintro c' ao ⟨g',h1,h2⟩;exact ⟨g', .inr ⟨h1,h2⟩⟩
   case step2=>
    rintro x c' ao _ _ ⟨g',h1,h2⟩;refine wpS_mono (E4 C (g'.kind.trans zH) T g' c' h2) λr cO ⟨mZ,o⟩=>?_;cases r with
    |done d=>exact ⟨mZ,o⟩
    |yield d=>exact ⟨mZ,o⟩
   case post2=>
    rintro ⟨u1,u2⟩ ao ⟨g',o⟩
    rcases o with ⟨r,e,res⟩ | ⟨e,Jt⟩
    ·dsimp only at e
     subst e;exact wpS_pure ⟨g',r,rfl,res⟩
    ·dsimp only at e
     subst e;refine wpS_bind (oE λAg g1=>wpS_pure ⟨g'.trans g1,rfl,Jt⟩)
theorem AY(C:gf O key S k0 M A E s)(hk:kindOf st=k0)(T:mB O key S a b){Q:Array Keyed→SortSt→Prop}(q:∀r ao,GS st ao→Res O key (a.toList++b.toList) r.toList→Q r ao):wpS M A E s (og a b) Q st:=by
 rw [zZ];refine wpS_bind (wpS_lift (wpAny_rule ⟨rfl,?_⟩));have na:=T.na;have nb:=T.nb;obtain ⟨x,ex,mx,lx⟩:=bA (xs:=a) (i:=a.size-1) (by omega)
 refine wpS_bind (bq ex ?_)
 have v0:MJ O key a b #[] a.size b.size:=by
  refine ⟨?_,by simp,?_,?_,by simp⟩
  ·rw [tT (by simp),tT (by simp)]
   simpa using (List.reverse_perm a.toList).append (List.reverse_perm b.toList)
  ·rw [tT (by simp)]
   exact List.pairwise_reverse.mpr (T.sa.imp λh=>h)
  ·rw [tT (by simp)]
   exact List.pairwise_reverse.mpr (T.sb.imp λh=>h)
 have v1:=MJ.sH v0 na ex λy hy=>T.last x ex y (wo hy);have e1:(#[]:Array Keyed).push x= #[x]:=rfl;rw [e1] at v1
 by_cases h1:a.size-1=0
 ·rw [if_pos (by simpa using h1)]
  rw [h1] at v1 ⊢;exact wpS_pure (q _ _ (GS.refl _) v1.rP)
 ·rw [if_neg (by simpa using h1)]
  by_cases h2:b.size=1
  ·rw [if_pos (by simpa using h2)]
   rw [h2] at v1 ⊢;exact wpS_pure (q _ _ (GS.refl _) (MJ.first T v1))
  ·rw [if_neg (by simpa using h2)]
   refine wpS_bind (wpS_get ?_);refine wpS_bind (wpS_mono (wpS_forRange (I:=λ(x:Nat)(c':S5)(ao:SortSt)=>GS st ao∧c'.1=none∧oG O key a b (x+1) c'.2.1 c'.2.2.1 c'.2.2.2.1) (Q:=λc' ao=>GS st ao∧∃r,c'.1=some r∧Res O key (a.toList++b.toList) r.toList) ?step ?fin ⟨GS.refl _,rfl,v1,by show 1≤a.size-1;omega,by show a.size-1≤a.size;omega,by show 2≤b.size;omega,bC _,by show 0+1+(a.size-1)+b.size≤a.size+b.size;omega⟩) ?post)
   case fin=>
    rintro c' ao ⟨g',h1,h2⟩
    have:=h2.2.2.2.2.2
    have:=h2.2.1
    omega
   case step=>
    rintro x c' ao _ _ ⟨g',h1,h2⟩;refine wpS_mono (AV C T g' hk c' h2) λr cO ⟨mZ,o⟩=>?_;cases r with
    |done d=>exact ⟨mZ,o⟩
    |yield d=>exact ⟨mZ,o⟩
   case post=>
    rintro ⟨c1,c2⟩ ao ⟨g',r,e,res⟩;dsimp only at e;subst e;exact wpS_pure (q r ao g' res)
end
theorem zY(i:Nat):mergeAt' i=(do
 let s ←get
 let (some (sa,na,power),some (sb,nb,_)):=((pendingOf s)[i]?,(pendingOf s)[i+1]?) |unsupported "internal:list.sort.pending"
 set (setPending s (((pendingOf s).setIfInBounds i (sa,na+nb,power)).eraseIdxIfInBounds (i+1)))
 let some k ←eD false (←elem' (arrOf s) sb) (arrOf s) sa na 0|return false
 let (sa,na):=(sa+k,na-k)
 if na==0 then return true
 let some nb ←eD true (←elem' (arrOf s) (sa+na-1)) (arrOf s) sb nb (nb-1) |return false
 if nb==0 then return true
 let x:=(arrOf s).extract sa sb
 let y:=(arrOf s).extract sb (sb+nb)
 let merged ←if na≤nb then oh x y else og x y
 modify λs=>setArr s (merged.toList.zipIdx.foldl (λa (p,j)=>a.setIfInBounds (sa+j) p) (arrOf s))
 return (failedOf (←get)).isNone):=rfl
theorem pN:∀(m:List Keyed)(off b:Nat)(xs:Array Keyed),b+off+m.length≤xs.size→
  ((m.zipIdx off).foldl (λa (p:Keyed×Nat)=>a.setIfInBounds (b+p.2) p.1) xs).size=xs.size∧∀i,((m.zipIdx off).foldl (λa (p:Keyed×Nat)=>a.setIfInBounds (b+p.2) p.1) xs)[i]? =if b+off≤i∧i<b+off+m.length then m[i-(b+off)]? else xs[i]?
 | [],off,b,xs,_=>⟨rfl,λi=>by rw [if_neg (by simp)];rfl⟩
 |x::m,off,b,xs,h=>by
  rw [dB] at h;have ih:=pN m (off+1) b (xs.setIfInBounds (b+off) x) (by rw [Array.size_setIfInBounds];omega)
  rw [List.zipIdx_cons,List.foldl_cons];refine ⟨by rw [ih.1,Array.size_setIfInBounds],λi=>?_⟩
  rw [ih.2 i]
  by_cases h1:b+(off+1)≤i∧i<b+(off+1)+m.length
  ·rw [if_pos h1,if_pos (by rw [dB];omega),show i-(b+off)=(i-(b+(off+1)))+1 by omega,tS]
  ·rw [if_neg h1,Array.getElem?_setIfInBounds]
   by_cases h2:b+off=i
   ·rw [if_pos h2,if_pos (by omega),if_pos (by rw [dB];omega),←h2,jQ];rfl
   ·rw [if_neg h2,if_neg (by rw [dB];omega)]
def putAt(xs m:Array Keyed)(b:Nat):Array Keyed:=m.toList.zipIdx.foldl (λa (p:Keyed×Nat)=>a.setIfInBounds (b+p.2) p.1) xs
theorem vM{xs m:Array Keyed}{b:Nat}(h:b+m.size≤xs.size)(i:Nat):(putAt xs m b)[i]? =if b≤i∧i<b+m.size then m[i-b]? else xs[i]? :=by
 have:=(pN m.toList 0 b xs (by simpa using h)).2 i
 unfold putAt;rw [this];simp
theorem Cr{xs m:Array Keyed}{b:Nat}(h:b+m.size≤xs.size):(putAt xs m b).size=xs.size:=(pN m.toList 0 b xs (by simpa using h)).1
theorem Cq{xs m:Array Keyed}{b:Nat}(h:b+m.size≤xs.size)(p:m.toList.Perm ((xs.toList.drop b).take m.size)):(putAt xs m b).Perm xs:=by
 rw [Gb]
 have e:(putAt xs m b).toList=xs.toList.take b++(m.toList++xs.toList.drop (b+m.size)):=by
  apply wu;intro i;rw [gJ,vM h,List.getElem?_append,List.getElem?_append,b8,dZ,dZ,List.getElem?_take,pz,gJ,gJ,gJ]
  repeat' split
  all_goals first|rfl| (exfalso;omega) | (congr 1;omega)
 have e2:xs.toList=xs.toList.take b++((xs.toList.drop b).take m.size++xs.toList.drop (b+m.size)):=by
  conv=>lhs;rw [←iq b xs.toList,mV xs.toList b m.size]
 rw [e]
 conv=>rhs;rw [e2]
 exact List.Perm.append_left _ (p.append_right _)
section
variable {O:KeyOrd} {key:Keyed→O.α} {S:Keyed→Prop} {k0:SortKind} {prog:Program} {w:World} {A:Around} {E:Value→Shared→Prop} {s:Shared} {st bM:SortSt}
theorem KZ{M:Model}{ao:SortSt}{Q:PUnit→SortSt→Prop}(h:Q ⟨⟩ ao):wpS M A E s (set ao:StateT SortSt Sem PUnit) Q st:=by
 unfold wpS;rw [StateT.run_set];exact wpAny_pure ⟨rfl,h⟩
theorem e6{xs:Array Keyed}{a b:Nat}(h:iJ O key xs a b){i j:Nat}{x y:Keyed}(ha:a≤i)(cK:i≤j)(hj:j<b)(hx:xs[i]? =some x)(hy:xs[j]? =some y):LE O key x y:=by
 have:=h i j ha cK hj
 unfold ky at this;rw [hx,hy] at this;exact this
theorem Af{xs:Array Keyed}{a b:Nat}(hb:b≤xs.size)(h:∀i j x y,a≤i→i≤j→j<b→xs[i]? =some x→xs[j]? =some y→LE O key x y):iJ O key xs a b:=λi j ha cK hj=>by
 obtain ⟨x,ex,_,_⟩:=bA (xs:=xs) (i:=i) (by omega)
 obtain ⟨y,ey,_,_⟩:=bA (xs:=xs) (i:=j) (by omega)
 unfold ky;rw [ex,ey];exact h i j x y ha cK hj ex ey
theorem ext_get{xs:Array Keyed}{a b i:Nat}(hb:b≤xs.size)(hi:i<b-a):(xs.extract a b)[i]? =xs[a+i]? :=by
 rw [Array.getElem?_extract,if_pos (by omega)]
theorem ext_mem{xs:Array Keyed}{a b:Nat}{x:Keyed}(h:x∈(xs.extract a b).toList):∃i,a≤i∧i<b∧i<xs.size∧xs[i]? =some x:=by
 rw [ext_toList] at h;obtain ⟨j,h1,h2,h3⟩:=dU h;rw [dZ] at h2;exact ⟨a+j,by omega,by omega,h2,jw h3⟩
theorem Fs{xs:Array Keyed}{a b:Nat}(h:iJ O key xs a b)(hb:b≤xs.size):(xs.extract a b).toList.Pairwise (LE O key):=by
 rw [A4];intro i j hi hj cK;have hs:(xs.extract a b).toList.length=b-a:=by rw [dZ,za];omega
 rw [hs] at hi hj;have gi:=ext_get (xs:=xs) (a:=a) hb hi;have gj:=ext_get (xs:=xs) (a:=a) hb hj;refine e6 h (i:=a+i) (j:=a+j) (by omega) (by omega) (by omega) ?_ ?_
 ·rw [←gi,←gJ];exact bz _
 ·rw [←gj,←gJ];exact bz _
theorem AX(C:gf O key S k0 (model prog w) A E s){i sa na nb pw Vw:Nat}{Q:Bool→SortSt→Prop}(o:Ok S k0 st)(hf:failedOf st=none)(p1:(pendingOf st)[i]? =some (sa,na,pw))(p2:(pendingOf st)[i+1]? =some (sa+na,nb,Vw))(hna:1≤na)(LI:1≤nb)(fb:sa+na+nb≤(arrOf st).size)
  (s1:iJ O key (arrOf st) sa (sa+na)) (s2:iJ O key (arrOf st) (sa+na) (sa+na+nb))
  (q:∀ao,(arrOf ao).Perm (arrOf st)→kindOf ao=kindOf st→failedOf ao=none→pendingOf ao=((pendingOf st).setIfInBounds i (sa,na+nb,pw)).eraseIdxIfInBounds (i+1)→(∀j,j<sa∨sa+na+nb≤j→(arrOf ao)[j]? =(arrOf st)[j]?)→iJ O key (arrOf ao) sa (sa+(na+nb))→Q true ao):
  wpS (model prog w) A E s (mergeAt' i) Q st:=by
 rw [zY];refine wpS_bind (wpS_get ?_);rw [p1,p2];dsimp only;refine wpS_bind (KZ ?_);generalize ((pendingOf st).setIfInBounds i (sa,na+nb,pw)).eraseIdxIfInBounds (i+1)=pn at q;have o':Ok S k0 (setPending st pn):=⟨o.mem,o.kind⟩;have mem:∀x∈(arrOf st).toList,S x:=o.mem;obtain ⟨b0,OS,mb0,lb0⟩:=bA (xs:=arrOf st) (i:=sa+na) (by omega)
 refine wpS_bind (bq OS ?_);have oS:∀(j:Nat)(z:Keyed),(arrOf st)[j]? =some z→(arrOf st)[j]?.getD (Value.none,Value.none)=z:=λj z e=>by rw [e];rfl
 refine wpS_bind (f6 C (om mem (i:=sa) (n:=na) (by omega)) (mem b0 mb0) o'.kind (by omega) (λi j cK hj h=>?_) λk hk kt kf=>?_)
 ·obtain ⟨xi,e1,_,_⟩:=bA (xs:=arrOf st) (i:=sa+i) (by omega)
  obtain ⟨xj,e2,_,_⟩:=bA (xs:=arrOf st) (i:=sa+j) (by omega)
  unfold dG at h ⊢;rw [if_neg (by decide)] at h ⊢
  rw [e2] at h;rw [e1];have h':O.kle (key xj) (key b0):=by unfold KeyOrd.kle;simpa using h
  have:=KeyOrd.kle_trans (e6 s1 (by omega) (by omega) (by omega) e1 e2) h'
  unfold KeyOrd.kle at this;simpa using this
 have Um:∀j x,sa≤j→j<sa+k→(arrOf st)[j]? =some x→LE O key x b0:=λj x h1 h2 e=>by
  have:=kt (j-sa) (by omega)
  unfold dG at this;rw [if_neg (by decide),show sa+(j-sa)=j by omega,oS j x e] at this
  show O.blt _ _=false;simpa using this
 have khi:∀j x,sa+k≤j→j<sa+na→(arrOf st)[j]? =some x→LE O key b0 x:=λj x h1 h2 e=>by
  have:=kf (j-sa) (by omega) (by omega)
  unfold dG at this;rw [if_neg (by decide),show sa+(j-sa)=j by omega,oS j x e] at this
  exact KeyOrd.kle_of_klt (show O.blt _ _=true by simpa using this)
 dsimp only;have M3:∀j y,sa+na≤j→j<sa+na+nb→(arrOf st)[j]? =some y→LE O key b0 y:=λj y h1 h2 e=>e6 s2 (by omega) h1 h2 OS e
 by_cases e0:na-k=0
 ·rw [if_pos (by simpa using e0)]
  refine wpS_pure (q _ (.refl _) rfl hf rfl (λ_ _=>rfl) ?_);refine Af (by show sa+(na+nb)≤(arrOf st).size;omega) λi j x y h1 cK hj ex ey=>?_
  by_cases c1:j<sa+na
  ·exact e6 s1 h1 cK c1 ex ey
  ·by_cases c2:i<sa+na
   ·exact KeyOrd.kle_trans (Um i x h1 (by omega) ex) (M3 j y (by omega) (by omega) ey)
   ·exact e6 s2 (by omega) cK (by omega) ex ey
 rw [if_neg (by simpa using e0)]
 have Sz:sa+k+(na-k)-1=sa+na-1:=by omega
 obtain ⟨al,Lv,mal,lal⟩:=bA (xs:=arrOf st) (i:=sa+k+(na-k)-1) (by omega)
 refine wpS_bind (bq Lv ?_);rw [Sz] at Lv;refine wpS_bind (f6 C (om mem (i:=sa+na) (n:=nb) (by omega)) (mem al mal) o'.kind (by omega) (λi j cK hj h=>?_) λm hm mt mf=>?_)
 ·obtain ⟨yi,e1,_,_⟩:=bA (xs:=arrOf st) (i:=sa+na+i) (by omega)
  obtain ⟨yj,e2,_,_⟩:=bA (xs:=arrOf st) (i:=sa+na+j) (by omega)
  unfold dG at h ⊢;rw [if_pos rfl] at h ⊢;rw [e2] at h;rw [e1];exact KeyOrd.klt_of_kle_of_klt (e6 s2 (by omega) (by omega) (by omega) e1 e2) h
 have mlo:∀j y,sa+na≤j→j<sa+na+m→(arrOf st)[j]? =some y→LE O key y al:=λj y h1 h2 e=>by
  have:=mt (j-(sa+na)) (by omega)
  unfold dG at this;rw [if_pos rfl,show sa+na+(j-(sa+na))=j by omega,oS j y e] at this
  exact KeyOrd.kle_of_klt this
 have Ur:∀j y,sa+na+m≤j→j<sa+na+nb→(arrOf st)[j]? =some y→LE O key al y:=λj y h1 h2 e=>by
  have:=mf (j-(sa+na)) (by omega) (by omega)
  unfold dG at this;rw [if_pos rfl,show sa+na+(j-(sa+na))=j by omega,oS j y e] at this
  exact this
 have Wu:∀j x,sa≤j→j<sa+na→(arrOf st)[j]? =some x→LE O key x al:=λj x h1 h2 e=>e6 s1 h1 (by omega) (by omega) e Lv
 dsimp only
 by_cases e1:m=0
 ·rw [if_pos (by simpa using e1)]
  refine wpS_pure (q _ (.refl _) rfl hf rfl (λ_ _=>rfl) ?_);refine Af (by show sa+(na+nb)≤(arrOf st).size;omega) λi j x y h1 cK hj ex ey=>?_
  by_cases c1:j<sa+na
  ·exact e6 s1 h1 cK c1 ex ey
  ·by_cases c2:i<sa+na
   ·exact KeyOrd.kle_trans (Wu i x h1 c2 ex) (Ur j y (by omega) (by omega) ey)
   ·exact e6 s2 (by omega) cK (by omega) ex ey
 rw [if_neg (by simpa using e1)]
 have T:mB O key S ((arrOf st).extract (sa+k) (sa+na)) ((arrOf st).extract (sa+na) (sa+na+m)):=by
  refine ⟨λx hx=>?_,λx hx=>?_,Fs (λi j h1 h2 h3=>s1 i j (by omega) h2 h3) (by omega),Fs (λi j h1 h2 h3=>s2 i j h1 h2 (by omega)) (by omega),by rw [za];omega,by rw [za];omega,λy hy x hx=>?_,λx hx y hy=>?_⟩
  ·obtain ⟨i,_,_,_,e⟩:=ext_mem hx
   exact mem x (f9 (kn e))
  ·obtain ⟨i,_,_,_,e⟩:=ext_mem hx
   exact mem x (f9 (kn e))
  ·rw [ext_get (by omega) (by omega)] at hy
   have GL:(arrOf st)[sa+na]? =some y:=hy;rw [OS] at GL;cases GL;obtain ⟨i,h1,h2,_,e⟩:=ext_mem hx;exact khi i x h1 h2 e
  ·have hsz2:((arrOf st).extract (sa+k) (sa+na)).size=na-k:=by rw [za];omega
   rw [hsz2,ext_get (by omega) (by omega)] at hx
   rw [show sa+k+(na-k-1)=sa+na-1 by omega,Lv] at hx;cases hx
   obtain ⟨i,h1,h2,_,e⟩:=ext_mem hy;exact mlo i y h1 h2 e
 have szx:((arrOf st).extract (sa+k) (sa+na)).size=na-k:=by rw [za];omega
 have szy:((arrOf st).extract (sa+na) (sa+na+m)).size=m:=by rw [za];omega
 have fin:∀(r:Array Keyed)(ao:SortSt),GS (setPending st pn) ao→Res O key (((arrOf st).extract (sa+k) (sa+na)).toList++((arrOf st).extract (sa+na) (sa+na+m)).toList) r.toList→
   wpS (model prog w) A E s (do
    modify λs=>setArr s (r.toList.zipIdx.foldl (λa (p,j)=>a.setIfInBounds (sa+k+j) p) (arrOf s))
    return (failedOf (←get)).isNone) Q ao:=by
  intro r ao g res;refine wpS_bind (wpS_modify (wpS_bind (wpS_get ?_)));have LF:failedOf ao=none:=g.failed.trans hf
  have hr:r.size=na-k+m:=by
   have:=res.1.length_eq
   rw [cy,dZ,dZ,dZ,szx,szy] at this;exact this
  have hb:sa+k+r.size≤(arrOf ao).size:=by rw [g.arr];show _≤(arrOf st).size;omega
  have aad:(r.toList.zipIdx.foldl (λa (x:Keyed×Nat)=>match x with| (p,j)=>a.setIfInBounds (sa+k+j) p) (arrOf ao))=putAt (arrOf ao) r (sa+k):=rfl
  show wpS _ _ _ _ (pure (failedOf ao).isNone) Q (setArr ao (putAt (arrOf ao) r (sa+k)));rw [LF];have ga:arrOf ao=arrOf st:=g.arr;rw [ga] at hb ⊢;have Fw:=λi=>vM hb i;rw [hr] at Fw
  have NL:∀j x,sa+k≤j→j<sa+na+m→(putAt (arrOf st) r (sa+k))[j]? =some x→∃i,sa+k≤i∧i<sa+na+m∧(arrOf st)[i]? =some x:=λj x h1 h2 e=>by
   rw [Fw,if_pos (by omega)] at e
   have hm:=res.1.mem_iff.mp (f9 (kn e))
   rcases dh.mp hm with z|z
   ·obtain ⟨i,a1,a2,_,a4⟩:=ext_mem z
    exact ⟨i,a1,by omega,a4⟩
   ·obtain ⟨i,a1,a2,_,a4⟩:=ext_mem z
    exact ⟨i,by omega,a2,a4⟩
  have outs:∀j,j<sa+k∨sa+na+m≤j→(putAt (arrOf st) r (sa+k))[j]? =(arrOf st)[j]? :=λj h=>by rw [Fw,if_neg (by omega)]
  have JC:∀i x j y,sa≤i→i<sa+k→(arrOf st)[i]? =some x→sa+k≤j→j<sa+na+nb→(arrOf st)[j]? =some y→LE O key x y:=λi x j y a1 a2 a3 a4 a5 a6=>by
   by_cases c:j<sa+na
   ·exact e6 s1 a1 (by omega) c a3 a6
   ·exact KeyOrd.kle_trans (Um i x a1 a2 a3) (M3 j y (by omega) a5 a6)
  have LH:∀i x j y,sa≤i→i<sa+na+m→(arrOf st)[i]? =some x→sa+na+m≤j→j<sa+na+nb→(arrOf st)[j]? =some y→LE O key x y:=λi x j y a1 a2 a3 a4 a5 a6=>by
   by_cases c:i<sa+na
   ·exact KeyOrd.kle_trans (Wu i x a1 c a3) (Ur j y a4 a5 a6)
   ·exact e6 s2 (by omega) (by omega) a5 a3 a6
  refine wpS_pure (q _ ?_ g.kind LF g.pend (λj hj=>outs j (by omega)) ?_)
  ·refine Cq hb ?_
   rw [hr];refine res.1.trans ?_;rw [ext_toList,ext_toList,show sa+na-(sa+k)=na-k by omega,show sa+na+m-(sa+na)=m by omega]
   have:((arrOf st).toList.drop (sa+k)).take (na-k+m)=((arrOf st).toList.drop (sa+k)).take (na-k)++((arrOf st).toList.drop (sa+na)).take m:=by
    rw [nN _ (show na-k≤na-k+m by omega),List.drop_drop,show sa+k+(na-k)=sa+na by omega,show na-k+m-(na-k)=m by omega]
   rw [this]
  ·refine Af (by show sa+(na+nb)≤(putAt (arrOf st) r (sa+k)).size;rw [Cr hb];omega) λi j x y h1 cK hj ex ey=>?_
   have oJ:(putAt (arrOf st) r (sa+k))[i]? =some x:=ex;have mX:(putAt (arrOf st) r (sa+k))[j]? =some y:=ey
   by_cases ci:i<sa+k
   ·rw [outs i (.inl ci)] at oJ
    by_cases cj:j<sa+k
    ·rw [outs j (.inl cj)] at mX
     exact e6 s1 h1 cK (by omega) oJ mX
    ·by_cases Ru:j<sa+na+m
     ·obtain ⟨j',b1,b2,b3⟩:=NL j y (by omega) Ru mX
      exact JC i x j' y h1 ci oJ b1 (by omega) b3
     ·rw [outs j (.inr (by omega))] at mX
      exact JC i x j y h1 ci oJ (by omega) (by omega) mX
   ·by_cases Xt:i<sa+na+m
    ·by_cases Ru:j<sa+na+m
     ·rw [Fw,if_pos (by omega)] at oJ mX
      exact fD res.2 (by omega) (kn oJ) (kn mX)
     ·obtain ⟨i',b1,b2,b3⟩:=NL i x (by omega) Xt oJ
      rw [outs j (.inr (by omega))] at mX
      exact LH i' x j y (by omega) b2 b3 (by omega) (by omega) mX
    ·rw [outs i (.inr (by omega))] at oJ
     rw [outs j (.inr (by omega))] at mX
     exact e6 s2 (by omega) cK (by omega) oJ mX
 by_cases c:na-k≤m
 ·rw [if_pos c]
  exact wpS_bind (AZ C o'.kind T λr ao g res=>fin r ao g res)
 ·rw [if_neg c]
  exact wpS_bind (AY C o'.kind T λr ao g res=>fin r ao g res)
end
abbrev U1:=Option Unit×Unit
def F4(pw:Nat):StateT SortSt Sem (ForInStep U1):=do
 let st ←get
 match (if (pendingOf st).size>1 then (pendingOf st)[(pendingOf st).size-2]? else none) with
 |some (_,_,P2)=>
  if P2≤pw then pure (ForInStep.done (none,()))
  else do
   let ok ←mergeAt' ((pendingOf st).size-2)
   if (!ok)=true then pure (ForInStep.done (some (),())) else pure (ForInStep.yield (none,()))
 |_=>pure (ForInStep.done (none,()))
def lG(size lo n:Nat):StateT SortSt Sem (ForInStep (Option Unit×Nat)):=do
 let st ←get
 match (pendingOf st).back? with
 |some (s1,n1,_)=>do
  let t ←forIn [0:size] ((none,()):U1) λ_ _=>F4 (power' size (2*s1+n1) (2*s1+n1+n1+n) size)
  match t.1 with
  |some r=>pure (ForInStep.done (some r,lo))
  |none=>do
   modify λs=>setPending s ((pendingOf s).modify ((pendingOf s).size-1) λx=>(x.1,x.2.1,power' size (2*s1+n1) (2*s1+n1+n1+n) size))
   modify λs=>setPending s ((pendingOf s).push (lo,n,0))
   pure (ForInStep.yield (none,lo+n))
 |_=>do
  modify λs=>setPending s ((pendingOf s).push (lo,n,0))
  pure (ForInStep.yield (none,lo+n))
def Ae(size lo:Nat):StateT SortSt Sem (ForInStep (Option Unit×Nat)):=
 if lo≥size then pure (ForInStep.done (none,lo))
 else do
  let x ←countRun' lo (size-lo)
  match x with
  |some found=>
   if found<minRun' size size 0 then do
    liftM (rule "list.sort.binary-insertion")
    let ok ←binarySort' lo (min (size-lo) (minRun' size size 0)) found
    if (!ok)=true then pure (ForInStep.done (some (),lo)) else lG size lo (min (size-lo) (minRun' size size 0))
   else lG size lo found
  |_=>pure (ForInStep.done (some (),lo))
def ET:StateT SortSt Sem (ForInStep U1):=do
 let st ←get
 if (pendingOf st).size≤1 then pure (ForInStep.done (none,()))
 else do
  let ok ←mergeAt' (if (if (pendingOf st).size-2>0 then (pendingOf st)[(pendingOf st).size-2-1]?.map (·.2.1) else none).any (·<((pendingOf st)[(pendingOf st).size-2+1]?.elim 0 (·.2.1))) then (pendingOf st).size-2-1 else (pendingOf st).size-2)
  if (!ok)=true then pure (ForInStep.done (some (),())) else pure (ForInStep.yield (none,()))
theorem vV:sortRuns'=(do
 let st ←get
 let c ←forIn [0:(arrOf st).size] ((none,0):Option Unit×Nat) λ_ c=>Ae (arrOf st).size c.2
 match c.1 with
 |some r=>pure r
 |none=>do
  let t ←forIn [0:(arrOf st).size] ((none,()):U1) λ_ _=>ET
  match t.1 with
  |some r=>pure r
  |none=>pure ()):=by
 rw [sortRuns'_eq];dsimp only;refine bnd rfl λst=>bnd (zy λ_ c=>?_) λc=>?_
 ·unfold Ae
  refine eZ (λ_=>rfl) (λ_=>bnd rfl λx=>?_);cases x with
  |none=>rfl
  |some f=>
   dsimp only;have jp:∀n:Nat,lG (arrOf st).size c.2 n=lG (arrOf st).size c.2 n:=λ_=>rfl;refine eZ (λ_=>bnd rfl λ_=>bnd rfl λok=>eZ (λ_=>rfl) (λ_=>?_)) (λ_=>?_)
   all_goals
    unfold lG;refine bnd rfl λiO=>?_;cases (pendingOf iO).back? with
    |none=>rfl
    |some e=>
     obtain ⟨s1,n1,p1⟩:=e;dsimp only;refine bnd (zy λ_ c=>?_) λt=>?_
     ·unfold F4
      refine bnd rfl λqa=>?_;cases (if (pendingOf qa).size>1 then (pendingOf qa)[(pendingOf qa).size-2]? else none) with
      |none=>rfl
      |some e=>rfl
     ·obtain ⟨t1,t2⟩:=t
      cases t1<;>rfl
 ·obtain ⟨c1,c2⟩:=c
  cases c1 with
  |some r=>rfl
  |none=>
   dsimp only;refine bnd (zy λ_ c=>?_) λt=>?_
   ·rfl
   ·obtain ⟨t1,t2⟩:=t
    cases t1<;>rfl
section
variable {O:KeyOrd} {key:Keyed→O.α} {S:Keyed→Prop} {k0:SortKind} {prog:Program} {w:World} {A:Around} {E:Value→Shared→Prop} {s:Shared} {st bM:SortSt}
def iX(O:KeyOrd)(key:Keyed→O.α)(xs:Array Keyed):Nat→List (Nat×Nat)→Nat→Prop
 |a,[],b=>a=b
 |a,e::r,b=>e.1=a∧1≤e.2∧iJ O key xs a (a+e.2)∧iX O key xs (a+e.2) r b
theorem iX.app{xs:Array Keyed}:∀{l1 l2:List (Nat×Nat)}{a b:Nat},iX O key xs a (l1++l2) b↔∃c,iX O key xs a l1 c∧iX O key xs c l2 b
 | [],l2,a,b=>⟨λh=>⟨a,rfl,h⟩,λ⟨c,h1,h2⟩=>by cases h1;exact h2⟩
 |e::l1,l2,a,b=>by
  constructor
  ·rintro ⟨h1,h2,h3,h4⟩
   obtain ⟨c,c1,c2⟩:=iX.app.mp h4;exact ⟨c,⟨h1,h2,h3,c1⟩,c2⟩
  ·rintro ⟨c,⟨h1,h2,h3,c1⟩,c2⟩
   exact ⟨h1,h2,h3,iX.app.mpr ⟨c,c1,c2⟩⟩
theorem iX.le{xs:Array Keyed}:∀{l:List (Nat×Nat)}{a b:Nat},iX O key xs a l b→a+l.length≤b
 | [],a,b,h=>by cases h;simp
 |e::l,a,b,⟨_,h2,_,h4⟩=>by
  have:=iX.le h4
  rw [dB];omega
theorem vX{xs ys:Array Keyed}{a b:Nat}(h:∀i,a≤i→i<b→ys[i]? =xs[i]?)(hs:iJ O key xs a b):iJ O key ys a b:=λi j h1 h2 h3=>by
 rw [gZ (h i h1 (by omega)),gZ (h j (by omega) h3)];exact hs i j h1 h2 h3
theorem iX.congr{xs ys:Array Keyed}:∀{l:List (Nat×Nat)}{a b:Nat},(∀i,a≤i→i<b→ys[i]? =xs[i]?)→iX O key xs a l b→iX O key ys a l b
 | [],a,b,_,h=>h
 |e::l,a,b,hc,⟨h1,h2,h3,h4⟩=>by
  have:=iX.le h4
  exact ⟨h1,h2,vX (λi a1 a2=>hc i a1 (by omega)) h3,iX.congr (λi a1 a2=>hc i (by omega) a2) h4⟩
def pl(st:SortSt):List (Nat×Nat):=(pendingOf st).toList.map λe=>(e.1,e.2.1)
structure SI (O:KeyOrd) (key:Keyed→O.α) (S:Keyed→Prop) (k0:SortKind) (a0:Array Keyed) (st:SortSt) (lo:Nat):Prop where
 ok:Ok S k0 st
 failed:failedOf st=none
 perm:(arrOf st).Perm a0
 cov:iX O key (arrOf st) 0 (pl st) lo
 le:lo≤a0.size
theorem SI.size{a0:Array Keyed}{lo:Nat}(h:SI O key S k0 a0 st lo):(arrOf st).size=a0.size:=h.perm.size_eq
theorem CT(C:gf O key S k0 (model prog w) A E s){a0:Array Keyed}{lo i:Nat}{Q:Bool→SortSt→Prop}(h:SI O key S k0 a0 st lo)(hi:i+1<(pendingOf st).size)
  (q:∀ao,SI O key S k0 a0 ao lo→(pendingOf ao).size=(pendingOf st).size-1→(∀j,lo≤j→(arrOf ao)[j]? =(arrOf st)[j]?)→Q true ao):wpS (model prog w) A E s (mergeAt' i) Q st:=by
 have e1:(pendingOf st)[i]? =some (pendingOf st)[i]:=getElem?_pos _ i (by omega)
 have e2:(pendingOf st)[i+1]? =some (pendingOf st)[i+1]:=getElem?_pos _ (i+1) hi
 have hl:(pendingOf st).toList=(pendingOf st).toList.take i++((pendingOf st)[i]::(pendingOf st)[i+1]::(pendingOf st).toList.drop (i+2)):=by
  conv=>lhs;rw [←iq i (pendingOf st).toList]
  congr 1
  rw [rD (by rw [dZ];omega),rD (by rw [dZ];omega)]
  rfl
 generalize hx:(pendingOf st)[i]=x at*;generalize hy:(pendingOf st)[i+1]=y at*;obtain ⟨sa,na,pw⟩:=x;obtain ⟨sb,nb,Vw⟩:=y;have hc:=h.cov;unfold pl at hc;rw [hl,eJ,gL,gL] at hc;obtain ⟨c,c1,c2⟩:=iX.app.mp hc;obtain ⟨d1,d2,d3,d4,d5,d6,d7⟩:=c2;dsimp only at d1 d2 d3 d4 d5 d6 d7;subst d1;subst d4;have hle:=d7.le;have fb:=h.size;have BP:=h.le;refine AX C h.ok h.failed e1 e2 d2 d5 (by omega) d3 d6 λao b1 b2 b3 b4 b5 b6=>?_
 have gn:(pendingOf ao).toList=(pendingOf st).toList.take i++((sa,na+nb,pw)::(pendingOf st).toList.drop (i+2)):=by
  rw [b4,Array.toList_eraseIdxIfInBounds,Array.toList_setIfInBounds]
  conv=>lhs;rw [hl]
  have hlen:((pendingOf st).toList.take i).length=i:=by rw [b8,dZ];omega
  rw [List.set_append_right _ _ (by omega),List.eraseIdx_append_of_length_le (by omega),hlen,jQ,show i+1-i=1 by omega]
  rfl
 refine q ao ⟨⟨λp hp=>h.ok.mem p ((Gb.mp b1).mem_iff.mp hp),b2.trans h.ok.kind⟩,b3,b1.trans h.perm,?_,h.le⟩ ?_ λj hj=>b5 j (.inr (by omega))
 ·unfold pl
  rw [gn,eJ,gL];refine iX.app.mpr ⟨sa,iX.congr (λj a1 a2=>b5 j (.inl a2)) c1,rfl,?_,b6,?_⟩
  ·show 1≤na+nb;omega
  ·show iX O key (arrOf ao) (sa+(na+nb)) _ lo
   rw [←Nat.add_assoc];exact iX.congr (λj a1 a2=>b5 j (.inr a1)) d7
 ·rw [←dZ,gn,cy,dB,b8,dY,dZ];omega
def Kp(bM st:SortSt)(lo:Nat):Prop:=∀j,lo≤j→(arrOf st)[j]? =(arrOf bM)[j]?
theorem HG(C:gf O key S k0 (model prog w) A E s){a0:Array Keyed}{lo pw:Nat}(h:SI O key S k0 a0 st lo)(hk:Kp bM st lo):wpS (model prog w) A E s (F4 pw) (λr ao=>match r with| .done c=>c=(none,())∧SI O key S k0 a0 ao lo∧Kp bM ao lo| .yield c=>c=(none,())∧SI O key S k0 a0 ao lo∧Kp bM ao lo) st:=by
 unfold F4;refine wpS_bind (wpS_get ?_)
 by_cases hp:(pendingOf st).size>1
 ·rw [if_pos hp]
  cases e:(pendingOf st)[(pendingOf st).size-2]? with
  |none=>exact wpS_pure ⟨rfl,h,hk⟩
  |some x=>
   obtain ⟨x1,x2,x3⟩:=x;dsimp only
   by_cases hle:x3≤pw
   ·rw [if_pos hle];exact wpS_pure ⟨rfl,h,hk⟩
   ·rw [if_neg hle]
    refine wpS_bind (CT C h (by omega) λao h' _ kg=>?_)
    exact wpS_pure ⟨rfl,h',λj hj=>(kg j hj).trans (hk j hj)⟩
 ·rw [if_neg hp]
  exact wpS_pure ⟨rfl,h,hk⟩
theorem J8{lo n:Nat}:pl (setPending st ((pendingOf st).push (lo,n,0)))=pl st++ [(lo,n)]:=by
 unfold pl;show ((pendingOf st).push (lo,n,0)).toList.map _=_;rw [wJ,eJ];rfl
theorem Ey{i pw:Nat}:pl (setPending st ((pendingOf st).modify i λx=>(x.1,x.2.1,pw)))=pl st:=by
 unfold pl;show ((pendingOf st).modify i λx=>(x.1,x.2.1,pw)).toList.map _=_;apply wu;intro j;rw [e7,e7,gJ,gJ,Array.getElem?_modify]
 by_cases e:i=j
 ·rw [if_pos e]
  cases (pendingOf st)[j]? <;>rfl
 ·rw [if_neg e]
theorem SI.FU{a0:Array Keyed}{lo n:Nat}(h:SI O key S k0 a0 st lo)(hn:1≤n)(hl:lo+n≤a0.size)(hs:iJ O key (arrOf st) lo (lo+n)):SI O key S k0 a0 (setPending st ((pendingOf st).push (lo,n,0))) (lo+n):=by
 refine ⟨⟨h.ok.mem,h.ok.kind⟩,h.failed,h.perm,?_,hl⟩;rw [J8];exact iX.app.mpr ⟨lo,h.cov,rfl,hn,hs,rfl⟩
theorem tQ(C:gf O key S k0 (model prog w) A E s){a0:Array Keyed}{lo n:Nat}(h:SI O key S k0 a0 st lo)(hn:1≤n)(hl:lo+n≤a0.size)(hs:iJ O key (arrOf st) lo (lo+n)):
  wpS (model prog w) A E s (lG a0.size lo n) (λr ao=>match r with| .done c=>False| .yield c=>c=(none,lo+n)∧SI O key S k0 a0 ao (lo+n)) st:=by
 unfold lG;refine wpS_bind (wpS_get ?_);cases (pendingOf st).back? with
 |none=>exact wpS_bind (wpS_modify (wpS_pure ⟨rfl,h.FU hn hl hs⟩))
 |some e=>
  obtain ⟨s1,n1,p1⟩:=e;dsimp only;refine wpS_bind (wpS_mono (wpS_forRange (I:=λ(x:Nat)(c:U1)(ao:SortSt)=>c=(none,())∧SI O key S k0 a0 ao lo∧Kp st ao lo) (Q:=λc ao=>c=(none,())∧SI O key S k0 a0 ao lo∧Kp st ao lo) (λx c ao _ _ hh=>?_) (λc ao hh=>hh) ⟨rfl,h,λ_ _=>rfl⟩) ?_)
  ·refine wpS_mono (HG C hh.2.1 hh.2.2) λr cO o=>?_
   cases r with
   |done d=>exact o
   |yield d=>exact o
  ·rintro c ao ⟨rfl,h',kg⟩
   dsimp only;refine wpS_bind (wpS_modify (wpS_bind (wpS_modify (wpS_pure ⟨rfl,?_⟩))))
   have h2:SI O key S k0 a0 (setPending ao ((pendingOf ao).modify ((pendingOf ao).size-1) λx=>(x.1,x.2.1,power' a0.size (2*s1+n1) (2*s1+n1+n1+n) a0.size))) lo:=
    ⟨⟨h'.ok.mem,h'.ok.kind⟩,h'.failed,h'.perm,by rw [Ey];exact h'.cov,h'.le⟩
   exact h2.FU hn hl (vX (λi a1 a2=>kg i a1) hs)
theorem SI.V8{a0:Array Keyed}{lo hi:Nat}{ao:SortSt}(h:SI O key S k0 a0 st lo)(t:gm st ao lo hi):SI O key S k0 a0 ao lo:=
 ⟨h.ok.step t,t.failed.trans h.failed,t.perm.trans h.perm,by
  have:pl ao=pl st:=by unfold pl;rw [t.pend]
  rw [this];exact iX.congr (λi _ a2=>t.out i (.inl a2)) h.cov,h.le⟩
theorem E8(C:gf O key S k0 (model prog w) A E s){a0:Array Keyed}{lo:Nat}(h:SI O key S k0 a0 st lo):
  wpS (model prog w) A E s (Ae a0.size lo) (λr ao=>match r with| .done c=>c=(none,lo)∧a0.size≤lo∧SI O key S k0 a0 ao lo| .yield c=>∃n,1≤n∧c=(none,lo+n)∧SI O key S k0 a0 ao (lo+n)) st:=by
 unfold Ae;have fb:=h.size;have hle:=h.le
 by_cases m7:lo≥a0.size
 ·rw [if_pos m7];exact wpS_pure ⟨rfl,m7,h⟩
 ·rw [if_neg m7]
  refine wpS_bind (wpS_countRun C h.ok (by omega) (by omega) λm Ag t1 m1 m2 sm=>?_)
  dsimp only;have h1:=h.V8 t1;have aai:=h1.size
  by_cases bN:m<minRun' a0.size a0.size 0
  ·rw [if_pos bN]
   refine wpS_bind (wpS_lift (wpAny_rule ⟨rfl,?_⟩));refine wpS_bind (wpS_binarySort C h1.ok (by omega) (by omega) sm λiO t2 s2=>?_)
   rw [if_neg (by decide)]
   refine wpS_mono (tQ C (h1.V8 t2) (by omega) (by omega) s2) λr ao o=>?_
   cases r with
   |done d=>exact o.elim
   |yield d=>exact ⟨_,by omega,o.1,o.2⟩
  ·rw [if_neg bN]
   refine wpS_mono (tQ C h1 m1 (by omega) sm) λr ao o=>?_
   cases r with
   |done d=>exact o.elim
   |yield d=>exact ⟨_,m1,o.1,o.2⟩
theorem ite_le{c:Prop} [Decidable c] {p:Nat}:(if c then p-1 else p)≤p:=by split<;>omega
theorem E7(C:gf O key S k0 (model prog w) A E s){a0:Array Keyed}{x:Nat}(h:SI O key S k0 a0 st a0.size)(hp:(pendingOf st).size≤max 1 (a0.size-x)):
  wpS (model prog w) A E s ET (λr ao=>match r with| .done c=>c=(none,())∧SI O key S k0 a0 ao a0.size∧(pendingOf ao).size≤1| .yield c=>c=(none,())∧SI O key S k0 a0 ao a0.size∧(pendingOf ao).size≤max 1 (a0.size-(x+1))) st:=by
 unfold ET;refine wpS_bind (wpS_get ?_)
 by_cases h1:(pendingOf st).size≤1
 ·rw [if_pos h1];exact wpS_pure ⟨rfl,h,h1⟩
 ·rw [if_neg h1]
  refine wpS_bind (CT C h (Nat.lt_of_le_of_lt (Nat.succ_le_succ ite_le) (by omega)) λao h' e _=>?_)
  exact wpS_pure ⟨rfl,h',by omega⟩
theorem wpS_sortRuns(C:gf O key S k0 (model prog w) A E s){Q:Unit→SortSt→Prop}(o:Ok S k0 st)(hf:failedOf st=none)(hp:pendingOf st= #[])(h1:1≤(arrOf st).size)
  (q:∀ao,(arrOf ao).Perm (arrOf st)→failedOf ao=none→iJ O key (arrOf ao) 0 (arrOf st).size→Q () ao):wpS (model prog w) A E s sortRuns' Q st:=by
 rw [vV];refine wpS_bind (wpS_get ?_);have h0:SI O key S k0 (arrOf st) st 0:=⟨o,hf, .refl _,by unfold pl;rw [hp];rfl,cH _⟩
 refine wpS_bind (wpS_mono (wpS_forRange (I:=λ(x:Nat)(c:Option Unit×Nat)(ao:SortSt)=>∃lo,c=(none,lo)∧min x (arrOf st).size≤lo∧SI O key S k0 (arrOf st) ao lo) (Q:=λc ao=>c=(none,(arrOf st).size)∧SI O key S k0 (arrOf st) ao (arrOf st).size) (λx c ao _ _ hh=>?_) (λc ao hh=>?_) ⟨0,rfl,by omega,h0⟩) ?_)
 ·obtain ⟨lo,rfl,hx,hs⟩:=hh
  refine wpS_mono (E8 C hs) λr cO o=>?_;cases r with
  |done d=>
   obtain ⟨e,e1,e2⟩:=o
   have:=e2.le
   have el:lo=(arrOf st).size:=by omega
   rw [el] at e e2;exact ⟨e,e2⟩
  |yield d=>
   obtain ⟨n,n1,e,e2⟩:=o;exact ⟨lo+n,e,by omega,e2⟩
 ·obtain ⟨lo,rfl,hx,hs⟩:=hh
  have:=hs.le
  have el:lo=(arrOf st).size:=by omega
  rw [el] at hs ⊢;exact ⟨rfl,hs⟩
 ·rintro c ao ⟨rfl,hs⟩
  dsimp only
  have hlen:(pendingOf ao).size≤(arrOf st).size:=by
   have:=hs.cov.le
   unfold pl at this;rw [aI,dZ] at this;omega
  refine wpS_bind (wpS_mono (wpS_forRange (I:=λ(x:Nat)(c:U1)(ao:SortSt)=>c=(none,())∧SI O key S k0 (arrOf st) ao (arrOf st).size∧(pendingOf ao).size≤max 1 ((arrOf st).size-x)) (Q:=λc ao=>c=(none,())∧SI O key S k0 (arrOf st) ao (arrOf st).size∧(pendingOf ao).size≤1) (λx c ao _ _ hh=>?_) (λc ao hh=>?_) ⟨rfl,hs,by omega⟩) ?_)
  ·refine wpS_mono (E7 C hh.2.1 hh.2.2) λr cO o=>?_
   cases r with
   |done d=>exact o
   |yield d=>exact o
  ·exact ⟨hh.1,hh.2.1,by have:=hh.2.2;omega⟩
  ·rintro c cO ⟨rfl,ja,Tr⟩
   refine wpS_pure (q cO ja.perm ja.failed ?_);have hc:=ja.cov;have YG:(pl cO).length≤1:=by unfold pl;rw [aI,dZ];exact Tr
   match gn:pl cO,YG with
   | [],_=>rw [gn] at hc;exact absurd hc (by show ¬(0=(arrOf st).size);omega)
   | [e],_=>
    rw [gn] at hc;obtain ⟨a1,a2,a3,a4⟩:=hc
    have:0+e.2=(arrOf st).size:=a4
    rw [←this];exact a3
end
section
variable {O:KeyOrd} {key:Keyed→O.α} {S:Keyed→Prop} {k0:SortKind} {prog:Program} {w:World} {A:Around} {E:Value→Shared→Prop} {s:Shared}
def Keeps(s s':Shared):Prop:=∀b o,s.heap.get? b=some o→s'.heap.get? b=some o
theorem sP(vs:List Value):(vs.toArray.zip vs.toArray).toList=vs.map λv=>(v,v):=by
 rw [Array.toList_zip];show List.zip vs vs=_
 induction vs with
 |nil=>rfl
 |cons v r ih=>rw [List.zip_cons_cons,gL,ih]
theorem MK{xs:Array Keyed}(h:iJ O key xs 0 xs.size):xs.toList.Pairwise (LE O key):=by
 rw [A4];intro i j hi hj cK;rw [dZ] at hi hj;exact e6 h (cH _) (nT cK) hj (jw (bz _)) (jw (bz _))
theorem vp{a:Addr}{vs:List Value}{n:Nat}{P:PySem.Fin→Shared→Prop}(ho:s.heap.get? a=some (seqObj "list" vs.toArray n))(h2:2≤vs.length)(hz:vs.length≤1000)(ne:∀b o,s.heap.get? b=some o→b≠a→True)
  {s0:Shared} (ZS:∀b o,s0.heap.get? b=some o→b≠a∧s.heap.get? b=some o)
  (hk:∀(E:Value→Shared→Prop)(s':Shared)(Q':SortKind→Shared→Prop),Keeps s0 s'→Q' k0 s'→wpAny (model prog w) A (keyKind' vs.toArray) Q' E s')
  (C:∀(E:Value→Shared→Prop)(s':Shared),Keeps s0 s'→gf O key S k0 (model prog w) A E s') (mem:∀v∈vs,S (v,v))
  (h:∀out:Array Keyed,out.toList.Perm (vs.map λv=>(v,v))→out.toList.Pairwise (LE O key)→P (.done (.ret .none)) {s with heap:=sortedHeap s.heap a vs (out.map (·.2))}):
  wpAny (model prog w) A (Builtin.«list.sort» ⟨[.ref a],[]⟩) P E s:=by
 rw [list_sort_plain];have ha:a<s.heap.objs.size:=Heap.lt_size ho;have dj:1000<sizeLine:=by decide
 refine wpAny_bind (listItems_at ho rfl ?_);refine wpAny_bind (listUpdate_at ho rfl ?_ (by rw [cJ];omega) (cH _))
 obtain ⟨e1,mF⟩:∃e1,(s.heap.update a (Obj.mapSeq λ_=> #[])).get? a=some (seqObj "list" #[] e1):=⟨_,get?_update_seq ho (λ_=> #[])⟩;refine wpAny_bind (seqEpoch_at mF rfl ?_);refine wpAny_bind (wpAny_newTuple ?_ (by show vs.length≤_;omega))
 refine wpAny_bind (wpAny_newList ?_ (cH _));refine wpAny_holding ?_
 have DV:(((s.heap.update a (Obj.mapSeq λ_=> #[])).push (seqObj "tuple" vs.toArray 0)).push (seqObj "list" #[] 0)).get? a=some (seqObj "list" #[] e1):=by
  rw [Heap.get?_push_ne _ _ _ (by rw [size_push',Heap.size_update];exact bV (wK ha)),Heap.get?_push_ne _ _ _ (by rw [Heap.size_update];exact bV ha)]
  exact mF
 show wpAny (model prog w) A _ P E {s with heap:=((s.heap.update a (Obj.mapSeq λ_=> #[])).push (seqObj "tuple" vs.toArray 0)).push (seqObj "list" #[] 0)}
 have kp:Keeps s0 {s with heap:=((s.heap.update a (Obj.mapSeq λ_=> #[])).push (seqObj "tuple" vs.toArray 0)).push (seqObj "list" #[] 0)}:=λb o e=>by
  obtain ⟨n1,e'⟩:=ZS b o e;refine Heap.get?_push_of_some _ (Heap.get?_push_of_some _ ?_);rw [Heap.get?_update_ne _ _ _ _ n1];exact e'
 dsimp only;have fb:vs.toArray.size=vs.length:=by simp
 have xa:¬vs.toArray.size<2:=by omega
 rw [if_neg xa,if_neg xa];refine wpAny_bind (hk _ _ _ kp ?_);have hsz2:(vs.toArray.zip vs.toArray).size=vs.length:=by rw [←dZ,sP,aI]
 refine wpAny_bind (wpAny_mono (wpS_sortRuns (C _ _ kp) (st:=SortSt.mk' k0 (vs.toArray.zip vs.toArray) #[] 7 none)
   (Q:=λ_ ao=>(arrOf ao).Perm (vs.toArray.zip vs.toArray)∧failedOf ao=none∧iJ O key (arrOf ao) 0 (vs.toArray.zip vs.toArray).size)
   ⟨λp hp=>?_,rfl⟩ rfl rfl (by show 1≤(vs.toArray.zip vs.toArray).size;omega) λao a1 a2 a3=>⟨a1,a2,a3⟩) ?_ λ_ _ e=>e)
 ·have jV:p∈(vs.toArray.zip vs.toArray).toList:=hp
  rw [sP] at jV;obtain ⟨v,hv,rfl⟩:=bK.mp jV;exact mem v hv
 rintro ⟨⟨⟩,ao⟩ s' ⟨rfl,hp,hf,hs⟩;dsimp only;have hps:(arrOf ao).size=vs.length:=by rw [hp.size_eq,hsz2]
 refine wpAny_bind (seqEpoch_at DV rfl ?_);refine wpAny_bind (listUpdate_at DV rfl ?_ (cH _) (by rw [Array.size_map];omega))
 rw [hf];simp only [bne_self_eq_false,mm,if_false];refine wpAny_pure (h (arrOf ao) ?_ ?_)
 ·rw [←sP];exact Gb.mp hp
 ·refine MK ?_
  rw [hp.size_eq];exact hs
theorem CD{l:Addr}{vs:List Value}{Q:Value→Shared→Prop}(hl:s.heap.IsList l vs.toArray)(h2:2≤vs.length)(hz:vs.length≤1000)
  (hk:∀(E:Value→Shared→Prop)(s':Shared)(Q':SortKind→Shared→Prop),Keeps s s'→Q' k0 s'→wpAny (model prog w) A.in1.in1 (keyKind' vs.toArray) Q' E s')
  (C:∀(E:Value→Shared→Prop)(s':Shared),Keeps s s'→gf O key S k0 (model prog w) A.in1.in1 E s') (mem:∀v∈vs,S (v,v))
  (h:∀out:Array Keyed,out.toList.Perm (vs.map λv=>(v,v))→out.toList.Pairwise (LE O key)→Q (.ref (s.heap.objs.size+1)) {s with heap:=sortedAll s.heap vs (out.map (·.2))}):
  wpAny (model prog w) A (call (.builtin "sorted") [.ref l]) Q E s:=by
 have dj:1000<sizeLine:=by decide
 refine Calls.call_function_entry kind_sorted plain_sorted entry_sorted (args_sorted1 _) ?_;unfold Builtin.«sorted»;refine wpAny_bind (m:=checkCount "sorted" 1 1 _) (wpAny_pure ?_);refine wpAny_bind (collect_list hl ?_ (by omega))
 refine wpAny_bind (wpAny_newList ?_ (by show vs.length≤_;omega))
 have fb:((s.heap.push (seqObj "list" #[] 0)).update s.heap.objs.size (Obj.mapSeq (·++vs.toArray))).objs.size=s.heap.objs.size+1:=by
  rw [Heap.size_update,size_push']
 have BS:(((s.heap.push (seqObj "list" #[] 0)).update s.heap.objs.size (Obj.mapSeq (·++vs.toArray))).push (seqObj "list" vs.toArray 0)).get? (s.heap.objs.size+1)=some (seqObj "list" vs.toArray 0):=by
  rw [←fb];exact Heap.get?_push_size _ rfl
 have keep:∀b o,s.heap.get? b=some o→(((s.heap.push (seqObj "list" #[] 0)).update s.heap.objs.size (Obj.mapSeq (·++vs.toArray))).push (seqObj "list" vs.toArray 0)).get? b=some o:=λb o q=>by
  have bN:b<s.heap.objs.size:=Heap.lt_size q;rw [Heap.get?_push_ne _ _ _ (by rw [fb];exact bV (wK bN)),Heap.get?_update_ne _ _ _ _ (bV bN),Heap.get?_push_ne _ _ _ (bV bN)]
  exact q
 show wpAny _ _ _ _ _ {s with heap:=((s.heap.push (seqObj "list" #[] 0)).update s.heap.objs.size (Obj.mapSeq (·++vs.toArray))).push (seqObj "list" vs.toArray 0)}
 rw [fb];refine wpAny_bind (wpAny_holding (wpAny_call_entry slot_list_sort ⟨_,BS,rfl⟩ entry_list_sort (vp (s0:=s) BS h2 hz (λ_ _ _ _=>trivial) (λb o e=>⟨bV (wK (Heap.lt_size e)),keep b o e⟩) hk C mem λout a1 a2=>⟨_,rfl,?_⟩) (args_list_sort _)));exact wpAny_pure ⟨_,rfl,h out a1 a2⟩
end
end TS
namespace L2
open PySem PySem.Spec PyProof.Rows
def lexOrd:KeyOrd where
 α:=Nat×Nat
 blt:=jc
 irrefl:=λa=>by unfold jc;rw [if_pos rfl];simp
 trans:=λa b c h1 h2=>JA _ _ _ h1 h2
 negTrans:=λa b c h=>GU _ _ _ h
 total:=λa b h1 h2=>Wb.xU (vi h2) (vi h1)
def keyOf(L:List (Addr×(Nat×Nat)))(v:Keyed):Nat×Nat:=match v.1 with
 | .ref a=>((L.find? λe=>e.1==a).map (·.2)).getD (0,0)
 |_=>(0,0)
theorem Eu{k k':Nat×Nat}(h:sE k=sE k'):k=k':=by
 unfold sE at h
 injection h with h1 h2
 injection h2 with h2 _
 injection h1 with h1
 injection h2 with h2
 exact Prod.ext (by omega) (by omega)
theorem kX{H:Hp}{L:List (Addr×(Nat×Nat))}(hL:C5 H L){e:Addr×(Nat×Nat)}(he:e∈L)(v:Value):keyOf L (.ref e.1,v)=e.2:=by
 unfold keyOf;dsimp only;cases hf:L.find? λx=>x.1==e.1 with
 |none=>exact absurd (List.find?_eq_none.mp hf e he) (by simp)
 |some x=>
  have hx:=List.mem_of_find?_eq_some hf;have hb:=List.find?_some hf;have e1:x.1=e.1:=by simpa using hb
  have a1:=hL x hx;have a2:=hL e he;rw [e1,a2] at a1
  injection a1 with a1
  injection a1 with a1
  exact (Eu a1).symm
theorem qU{α β:Type} [DecidableEq α] (f:α→β):∀(l:List β)(L:List α),l.Perm (L.map f)→∃M:List α,M.Perm L∧l=M.map f
 | [],L,h=>by
  have:=h.length_eq
  rw [aI] at this
  have:L= []:=CZ.mp this.symm
  subst this;exact ⟨[], .refl _,rfl⟩
 |x::r,L,h=>by
  obtain ⟨e,he,rfl⟩:=bK.mp (h.mem_iff.mp cD);have p1:=List.perm_cons_erase he;have p2:(f e::r).Perm (f e::(L.erase e).map f):=h.trans (p1.map f);obtain ⟨M,m1,rfl⟩:=qU f r (L.erase e) ((List.perm_cons _).mp p2);exact ⟨e::M,(m1.cons e).trans p1.symm,rfl⟩
section
variable {X:Cx}
theorem wX:cP X (.builtin "sorted") (λxs H Q=>∃(p:Addr)(L:List (Addr×(Nat×Nat))),xs= [.ref p]∧cQ X.K H p (L.map λe=>V.ref e.1)∧C5 H L∧L.length≤1000∧
  ∀(q:Addr)(M:List (Addr×(Nat×Nat))),H q=none→M.Perm L→(M.map (·.2)).Pairwise Wb.lexLe→Q (.ref q) (upd H q (.lst (M.map λe=>V.ref e.1)))):=by
 intro pins s σ H xs us Q I rv h;obtain ⟨p,L,rfl,hp,hL,hz,q⟩:=h;obtain ⟨u,rfl,ru⟩:=rv.one;cases ru;obtain ⟨its,r,pl,_⟩:=I.list hp;have hl:=r.length;rw [aI] at hl;have dj:1000<sizeLine:=by decide
 have ei:its=L.map λe=>Value.ref e.1:=by
  have:=vY (as:=L.map (·.1)) (us:=its) (by rw [gd];exact r)
  rw [this,gd];rfl
 by_cases h2:L.length<2
 ·refine KS.xl pl.isList (by omega) ?_
  obtain ⟨e,he⟩:=sortedAll_at s.heap its its.toArray;have fr:H (s.heap.objs.size+1)=none:=I.hok.fresh (nU _);refine ⟨.ref (s.heap.objs.size+1),_,I.laid (t':=s.toks) (λb o hb=>sortedAll_old hb) (nU _) (o:= .lst (L.map λe=>V.ref e.1)) ⟨by rw [aI];omega,its,e,r,he⟩,rfl,q _ L fr (.refl _) ?_⟩
  match L,h2 with
  | [],_=>exact .nil
  | [_],_=>exact List.pairwise_singleton _ _
 ·have tup:∀e∈L,∀s':Shared,TS.Keeps s s'→∃t u,IsTup s'.heap e.1 [.int (e.2.1:Nat) t, .int (e.2.2:Nat) u].toArray:=λe he s' kp=>by
   obtain ⟨t,u,o,ho,hc,n,hd⟩:=Hd I (hL e he);exact ⟨t,u,o,kp _ _ ho,hc,n,hd⟩
  refine TS.CD (O:=lexOrd) (key:=keyOf L) (S:=λp=>∃e∈L,p=(Value.ref e.1,Value.ref e.1)) (k0:=tuples' true) pl.isList (by omega) (by omega) (λE' s' Q' kp hq=>?_) (λE' s' kp x y st Q' sx sy hk hq=>?_) (λv hv=>?_) λout u7 LJ=>?_
  ·have go:∀(M:List (Addr×(Nat×Nat))),(∀e∈M,e∈L)→∃fs:List Value,PySem.W.KatTups s'.heap (M.map λe=>Value.ref e.1) fs∧fs.length=M.length∧∀v∈fs,∃i t,v= .int i t:=by
    intro M
    induction M with
    |nil=>exact λ_=>⟨[],PySem.W.KatTups.nil,rfl,λv hv=>by cases hv⟩
    |cons e M ih=>
     intro hM;obtain ⟨fs,a,b,c⟩:=ih λx hx=>hM x (cM _ hx);obtain ⟨t,u,o,ho,hc,n,hd⟩:=tup e (hM e cD) s' kp;refine ⟨.int (e.2.1:Nat) t::fs,PySem.W.KatTups.cons ho hc hd rfl a,by simp [b],λv hv=>?_⟩
     rcases cv.mp hv with z|z
     ·exact ⟨_,_,z⟩
     ·exact c v z
   obtain ⟨fs,kt,kl,ki⟩:=go L λ_ h=>h;rw [ei];refine PySem.W.kat_kind (T:= .type "int") kt (by omega) (λv hv=>by obtain ⟨i,t,rfl⟩:=ki v hv;exact .now) (by decide) ?_
   have hb:(Value.type "int" !=Value.type "tuple")=true:=by decide
   rw [hb];exact hq
  ·obtain ⟨e1,m1,rfl⟩:=sx
   obtain ⟨e2,m2,rfl⟩:=sy;rw [lt'_eq];refine wpS_bind (wpS_get ?_);rw [hk];obtain ⟨t1,t2,k1⟩:=tup e1 m1 s' kp;obtain ⟨u1,u2,k2⟩:=tup e2 m2 s' kp;refine wpS_bind (wpS_lift (wpAny_attempt (LQ k1 k2 ⟨rfl,?_⟩)))
   have eb:(if ((e1.2.1:Nat):Int)=((e2.2.1:Nat):Int) then decide (((e1.2.2:Nat):Int)<((e2.2.2:Nat):Int)) else decide (((e1.2.1:Nat):Int)<((e2.2.1:Nat):Int)))=lexOrd.blt (keyOf L (.ref e1.1, .ref e1.1)) (keyOf L (.ref e2.1, .ref e2.1)):=by
    rw [kX hL m1,kX hL m2];show _=jc e1.2 e2.2;unfold jc;simp only [Int.ofNat_inj,Int.ofNat_lt]
   rw [eb];exact wpS_pure hq
  ·rw [ei] at hv
   obtain ⟨e,he,rfl⟩:=bK.mp hv;exact ⟨e,he,rfl⟩
  ·rw [ei,gd] at u7
   obtain ⟨M,mp,em⟩:=qU (λe:Addr×(Nat×Nat)=>((Value.ref e.1,Value.ref e.1):Keyed)) out.toList L u7
   have Tt:(out.map (·.2)).toList=M.map λe=>Value.ref e.1:=by
    rw [Array.toList_map,em,gd];rfl
   obtain ⟨c,hc⟩:=sortedAll_at s.heap its (out.map (·.2));have fr:H (s.heap.objs.size+1)=none:=I.hok.fresh (nU _);have GJ:=mp.length_eq;refine ⟨.ref (s.heap.objs.size+1),_,I.laid (t':=s.toks) (λb o hb=>sortedAll_old hb) (nU _) (o:= .lst (M.map λe=>V.ref e.1)) ⟨by rw [aI];omega,(out.map (·.2)).toList,c,?_,by rw [Array.toArray_toList];exact hc⟩,rfl,q _ M fr mp ?_⟩
   ·rw [Tt,show (λe:Addr×(Nat×Nat)=>V.ref e.1)=V.ref∘(·.1) from rfl,show (λe:Addr×(Nat×Nat)=>Value.ref e.1)=Value.ref∘(·.1) from rfl,←gd,←gd]
    exact vN _
   ·rw [em,jM] at LJ
    rw [jM];refine List.Pairwise.imp_of_mem ?_ LJ;intro e1 e2 m1 m2 hle;have NG:jc (keyOf L (.ref e2.1, .ref e2.1)) (keyOf L (.ref e1.1, .ref e1.1))=false:=hle;rw [kX hL (mp.mem_iff.mp m1),kX hL (mp.mem_iff.mp m2)] at NG;exact vi NG
end
end L2
namespace PySem.SetTable
def oR(xs:Array Nat):Prop:=∀i j (hj:j<xs.size),i<j→xs[i]! <xs[j]!
theorem IQ{xs:Array Nat}{i d:Nat}(h:i<xs.size):xs.getD i d=xs[i]! :=by
 simp [Array.getD,h]
theorem uY{xs:Array Nat}(R:oR xs)(j:Nat):∀(fuel lo hi:Nat),hi-lo≤fuel→lo≤hi→hi≤xs.size→(∀i,i<lo→xs[i]! <j)→(∀i,hi≤i→i<xs.size→j≤xs[i]!)→
  lo≤below.go xs j fuel lo hi∧below.go xs j fuel lo hi≤hi∧(∀i,i<below.go xs j fuel lo hi→xs[i]! <j)∧∀i,below.go xs j fuel lo hi≤i→i<xs.size→j≤xs[i]!
 |0,lo,hi,h1,h2,h3,a,b=>by
  have:lo=hi:=by omega
  subst this;rw [below.go];exact ⟨bC _,bC _,a,b⟩
 |fuel+1,lo,hi,h1,h2,h3,a,b=>by
  rw [below.go]
  by_cases c:lo<hi
  ·rw [if_pos c]
   have hm:(lo+hi) / 2<xs.size:=by omega
   dsimp only;rw [IQ hm]
   by_cases d:xs[(lo+hi) / 2]! <j
   ·rw [if_pos d]
    have:=uY R j fuel ((lo+hi) / 2+1) hi (by omega) (by omega) h3 (λi iK=>by
     by_cases e:i=(lo+hi) / 2
     ·rw [e];exact d
     ·have:=R i ((lo+hi) / 2) hm (by omega);omega) b
    exact ⟨by omega,this.2.1,this.2.2⟩
   ·rw [if_neg d]
    have:=uY R j fuel lo ((lo+hi) / 2) (by omega) (by omega) (by omega) a (λi h4 h5=>by
     by_cases e:i=(lo+hi) / 2
     ·rw [e];omega
     ·have:=R ((lo+hi) / 2) i h5 (by omega);omega)
    exact ⟨this.1,by omega,this.2.2⟩
  ·rw [if_neg c]
   have:lo=hi:=by omega
   subst this;exact ⟨bC _,bC _,a,b⟩
theorem hZ{xs:Array Nat}(R:oR xs)(j:Nat):below xs j≤xs.size∧(∀i,i<below xs j→xs[i]! <j)∧∀i,below xs j≤i→i<xs.size→j≤xs[i]! :=by
 have:=uY R j xs.size 0 xs.size (by omega) (cH _) (bC _) (λi h=>by omega) (λi h1 h2=>by omega)
 exact ⟨this.2.1,this.2.2⟩
theorem below_at{xs:Array Nat}(R:oR xs){i j:Nat}(h:xs[i]? =some j):below xs j=i:=by
 obtain ⟨hi,e⟩:=CW.mp h;have e':xs[i]! =j:=by simp [hi,e]
 obtain ⟨b1,b2,b3⟩:=hZ R j;apply Nat.le_antisymm
 ·apply Classical.byContradiction
  intro c
  have:=b2 i (by omega)
  omega
 ·apply Classical.byContradiction
  intro c;have h1:=b3 (below xs j) (bC _) (by omega)
  have h2:=R (below xs j) i hi (by omega)
  omega
theorem EM{t:SetTable}(R:oR t.place){i j:Nat}(h:t.place[i]? =some j):t.slot j= .live i:=by
 unfold slot;rw [below_at R h];simp [h]
theorem CA{t:SetTable}(R:oR t.place)(hd:t.dummies= #[]){j:Nat}(h:∀i:Nat,t.place[i]? ≠some j):t.slot j= .empty:=by
 unfold slot
 have h1:(t.place[below t.place j]? ==some j)=false:=by
  rw [beq_eq_false_iff_ne];exact h _
 dsimp only;rw [if_neg (by rw [h1];exact cW)]
 unfold has;rw [hd];rfl
def mD(mask:Nat)(p:Probe):Probe:=
 if p.more>0 then {p with j:=p.j+1,more:=p.more-1} else
 let (i,perturb):=leap mask p.i p.perturb
 {p with j:=i,more:=runEnd mask i-i,i,perturb}
def bM(mask:Nat)(h:Int):Probe:={j:=bits h%(mask+1),more:=runEnd mask (bits h%(mask+1))-bits h%(mask+1),i:=bits h%(mask+1),perturb:=bits h,dummy:=none}
theorem Hy(t:SetTable)(h:Int):t.probeStart h=bM t.mask h:=rfl
def xm(mask:Nat)(h:Int):Nat→Probe
 |0=>bM mask h
 |k+1=>mD mask (xm mask h k)
def ck(mask:Nat)(h:Int)(k:Nat):Nat:=(xm mask h k).j
theorem Ia(h:Int):bits h<2^64:=by
 unfold bits;have h1:0≤h%(2^64:Int):=Int.emod_nonneg _ (by decide)
 have h2:h%(2^64:Int)<2^64:=Int.emod_lt_of_pos _ (by decide)
 omega
def dP(mask:Nat)(i p:Nat):Nat→Nat×Nat
 |0=>(i,p)
 |r+1=>leap mask (dP mask i p r).1 (dP mask i p r).2
theorem jY(mask i p:Nat):∀r,(dP mask i p r).2=p / 32^r
 |0=>by simp [dP]
 |r+1=>by
  show (dP mask i p r).2 / 32=_;rw [jY mask i p r,Nat.div_div_eq_div_mul,Nat.pow_succ]
def LX(mask:Nat)(i:Nat):Nat:=(i*5+1)%(mask+1)
def jD(mask:Nat)(i:Nat):Nat→Nat
 |0=>i
 |r+1=>LX mask (jD mask i r)
theorem kj(mask i:Nat)(a:Nat):∀b,jD mask i (a+b)=jD mask (jD mask i a) b
 |0=>rfl
 |b+1=>by
  show LX mask (jD mask i (a+b))=_;rw [kj mask i a b];rfl
theorem sN{mask i p r0:Nat}(h:(dP mask i p r0).2=0):∀r,dP mask i p (r0+r)=(jD mask (dP mask i p r0).1 r,0)
 |0=>by rw [Nat.add_zero,jD];exact Prod.ext rfl h
 |r+1=>by
  show leap mask (dP mask i p (r0+r)).1 (dP mask i p (r0+r)).2=_;rw [sN h r];unfold leap;simp [jD,LX]
def uB(mask:Nat):Prop:=mask=7∨mask=31∨mask=127∨mask=511
def P8(mask:Nat):Nat→Nat→List Nat
 |_,0=> []
 |i,n+1=>i::P8 mask (LX mask i) n
theorem Ca{mask s:Nat}:∀{i n:Nat},s∈P8 mask i n→∃r,r<n∧jD mask i r=s
 |i,0,h=>by cases h
 |i,n+1,h=>by
  rcases cv.mp h with rfl|h
  ·exact ⟨0,by omega,rfl⟩
  ·obtain ⟨r,hr,e⟩:=Ca h
   refine ⟨r+1,by omega,?_⟩
   have:=kj mask i 1 r
   rw [show 1+r=r+1 by omega] at this
   rw [this];exact e
theorem P9{mask:Nat}(h:uB mask):(∀s,s≤mask→∃r,r≤mask∧jD mask 0 r=s)∧jD mask 0 (mask+1)=0:=by
 have key:∀m,(List.range (m+1)).all (λs=>(P8 m 0 (m+1)).contains s)=true→∀s,s≤m→∃r,r≤m∧jD m 0 r=s:=λm hm s hs=>by
  have:=List.all_eq_true.mp hm s (cE.mpr (by omega))
  obtain ⟨r,hr,e⟩:=Ca (List.contains_iff_mem.mp this);exact ⟨r,by omega,e⟩
 rcases h with rfl|rfl|rfl|rfl
 ·exact ⟨key 7 (by decide+kernel),by decide+kernel⟩
 ·exact ⟨key 31 (by decide+kernel),by decide+kernel⟩
 ·exact ⟨key 127 (by decide+kernel),by decide+kernel⟩
 ·exact ⟨key 511 (by decide+kernel),by decide+kernel⟩
theorem cover{mask:Nat}(h:uB mask){i s:Nat}(hi:i≤mask)(hs:s≤mask):∃r,r≤mask∧jD mask i r=s:=by
 obtain ⟨o,per⟩:=P9 h;obtain ⟨a,ha,rfl⟩:=o i hi;obtain ⟨b,hb,rfl⟩:=o s hs
 by_cases c:a≤b
 ·refine ⟨b-a,by omega,?_⟩
  rw [←kj,show a+(b-a)=b by omega]
 ·refine ⟨mask+1-a+b,by omega,?_⟩
  rw [←kj,show a+(mask+1-a+b)=mask+1+b by omega,kj,per]
def cF(mask:Nat)(p:Probe):Nat→Probe
 |0=>p
 |k+1=>mD mask (cF mask p k)
theorem j8(mask:Nat)(p:Probe)(a:Nat):∀b,cF mask p (a+b)=cF mask (cF mask p a) b
 |0=>rfl
 |b+1=>by
  show mD mask (cF mask p (a+b))=_;rw [j8 mask p a b];rfl
theorem ot(mask:Nat)(h:Int):∀k,xm mask h k=cF mask (bM mask h) k
 |0=>rfl
 |k+1=>by
  show mD mask _=mD mask _;rw [ot mask h k]
theorem rL(mask:Nat)(p:Probe):∀c,c≤p.more→cF mask p c={p with j:=p.j+c,more:=p.more-c}
 |0,_=>rfl
 |c+1,hc=>by
  show mD mask (cF mask p c)=_;rw [rL mask p c (by omega)]
  unfold mD;rw [if_pos (by show p.more-c>0;omega)]
  show ({p with j:=p.j+c+1,more:=p.more-c-1}:Probe)={p with j:=p.j+(c+1),more:=p.more-(c+1)}
  rw [show p.more-c-1=p.more-(c+1) by omega,show p.j+c+1=p.j+(c+1) by omega]
def ML(mask:Nat)(p:Probe)(ip:Nat×Nat):Probe:={p with j:=ip.1,more:=runEnd mask ip.1-ip.1,i:=ip.1,perturb:=ip.2}
theorem more_le(mask i:Nat):runEnd mask i-i≤9:=by
 unfold runEnd
 split<;>omega
theorem pG(mask:Nat)(p:Probe):cF mask p (p.more+1)=ML mask p (leap mask p.i p.perturb):=by
 show mD mask (cF mask p p.more)=_;rw [rL mask p p.more (bC _)];unfold mD;rw [if_neg (by show ¬p.more-p.more>0;omega)]
 rfl
theorem uF(mask:Nat)(p:Probe):∀r,∃k,k≤p.more+1+10*r∧cF mask p k=ML mask p (dP mask p.i p.perturb (r+1))
 |0=>⟨p.more+1,by omega,pG mask p⟩
 |r+1=>by
  obtain ⟨k,hk,e⟩:=uF mask p r;have h9:=more_le mask (dP mask p.i p.perturb (r+1)).1;refine ⟨k+((runEnd mask (dP mask p.i p.perturb (r+1)).1-(dP mask p.i p.perturb (r+1)).1)+1),by omega,?_⟩
  rw [j8,e];exact pG mask (ML mask p (dP mask p.i p.perturb (r+1)))
theorem Cv(mask i p:Nat)(r:Nat):(dP mask i p (r+1)).1≤mask:=by
 show (((dP mask i p r).1*5+1+(dP mask i p r).2 / 32)%(mask+1))≤mask
 have:=jR ((dP mask i p r).1*5+1+(dP mask i p r).2 / 32) (show 0<mask+1 by omega)
 omega
theorem F0{mask i:Nat}(h:i≤mask):i+(runEnd mask i-i)≤mask:=by
 unfold runEnd
 split<;>omega
structure t4 (mask:Nat) (p:Probe):Prop where
 le:p.j+p.more≤mask
 more:p.more≤9
 per:p.perturb<2^64
 dum:p.dummy=none
theorem t4.mD{mask:Nat}{p:Probe}(o:t4 mask p):t4 mask (mD mask p):=by
 unfold SetTable.mD
 split
 ·next h=>exact ⟨by show p.j+1+(p.more-1)≤mask;have:=o.le;omega,by show p.more-1≤9;have:=o.more;omega,o.per,o.dum⟩
 ·refine ⟨F0 (by have:=jR (p.i*5+1+p.perturb / 32) (show 0<mask+1 by omega);show (p.i*5+1+p.perturb / 32)%(mask+1)≤mask;omega),more_le _ _,?_,o.dum⟩
  show p.perturb / 32<2^64
  have:=o.per
  omega
theorem t4.start(mask:Nat)(h:Int):t4 mask (bM mask h):=⟨F0 (mask:=mask) (i:=bits h%(mask+1)) (by have:=jR (bits h) (show 0<mask+1 by omega);omega),more_le _ _,Ia h,rfl⟩
theorem t4.cF{mask:Nat}{p:Probe}(o:t4 mask p):∀k,t4 mask (cF mask p k)
 |0=>o
 |k+1=>(o.cF k).mD
theorem meets{mask:Nat}(f:uB mask){p:Probe}(o:t4 mask p){s:Nat}(hs:s≤mask):∃k,k<10*turns mask∧(cF mask p k).j=s:=by
 have z:(dP mask p.i p.perturb 13).2=0:=by
  rw [jY];exact Nat.div_eq_of_lt (gP o.per (by decide))
 obtain ⟨r,hr,e⟩:=cover f (Cv mask p.i p.perturb 12) hs;obtain ⟨k,hk,e2⟩:=uF mask p (12+r);refine ⟨k,?_,?_⟩
 ·have:=o.more
  unfold turns;omega
 ·rw [e2]
  show (dP mask p.i p.perturb (12+r+1)).1=s;rw [show 12+r+1=13+r by omega,sN z]
  exact e
theorem yg{t:SetTable}(R:oR t.place)(hd:t.dummies= #[])(hashAt:Nat→Int)(h:Int):∀(K fuel:Nat)(p:Probe),p.dummy=none→K<fuel→(∀i:Nat,t.place[i]? ≠some (cF t.mask p K).j)→
  ∃k0,k0≤K∧(∀k',k'<k0→∃i:Nat,t.place[i]? =some (cF t.mask p k').j∧hashAt i≠h)∧
   (((∀i:Nat,t.place[i]? ≠some (cF t.mask p k0).j)∧probe.go t hashAt h fuel p=some (.empty (cF t.mask p k0).j none))∨
    (∃i:Nat,t.place[i]? =some (cF t.mask p k0).j∧hashAt i=h∧probe.go t hashAt h fuel p=some (.candidate (cF t.mask p k0).j i (cF t.mask p (k0+1)))))
 |K,0,p,_,hK,_=>by omega
 |K,fuel+1,p,dn,hK,he=>by
  by_cases c:∃i:Nat,t.place[i]? =some p.j
  ·obtain ⟨i,hi⟩:=c
   have sl:=EM R hi
   by_cases c2:hashAt i=h
   ·refine ⟨0,cH _,λk' h'=>by omega, .inr ⟨i,hi,c2,?_⟩⟩
    rw [probe.go,sl];dsimp only;rw [if_pos (by simpa using c2)]
    rfl
   ·cases K with
    |zero=>exact absurd hi (he i)
    |succ K=>
     have X1:(mD t.mask p).dummy=none:=by
      unfold mD
      split<;>exact dn
     have e1:∀k,cF t.mask (mD t.mask p) k=cF t.mask p (k+1):=λk=>by
      have:=j8 t.mask p 1 k
      rw [show 1+k=k+1 by omega] at this
      exact this.symm
     obtain ⟨k0,zH,a,b⟩:=yg R hd hashAt h K fuel (mD t.mask p) X1 (by omega) (by rw [e1];exact he)
     have eg:probe.go t hashAt h (fuel+1) p=probe.go t hashAt h fuel (mD t.mask p):=by
      rw [probe.go,sl];dsimp only;rw [if_neg (by simpa using c2)]
      rfl
     refine ⟨k0+1,by omega,λk' h'=>?_,?_⟩
     ·cases k' with
      |zero=>exact ⟨i,hi,c2⟩
      |succ k'=>
       have:=a k' (by omega)
       rw [e1] at this;exact this
     ·rw [e1,e1] at b
      rw [eg];exact b
  ·have c:∀i:Nat,t.place[i]? ≠some p.j:=λi hi=>c ⟨i,hi⟩
   refine ⟨0,cH _,λk' h'=>by omega, .inl ⟨c,?_⟩⟩
   rw [probe.go,CA R hd c];dsimp only;rw [dn];rfl
structure TOk (t:SetTable) (hs:List Int):Prop where
 few:uB t.mask
 dum:t.dummies= #[]
 rise:oR t.place
 size:t.place.size=hs.length
 le:∀(i j:Nat),t.place[i]? =some j→j≤t.mask
 room:t.place.size≤t.mask
 path:∀(i:Nat)(h:Int),hs[i]? =some h→∃k,t.place[i]? =some (ck t.mask h k)∧∀k',k'<k→∃i':Nat,t.place[i']? =some (ck t.mask h k')
theorem Ac(mask:Nat)(h:Int)(k:Nat):ck mask h k≤mask:=by
 unfold ck;rw [ot]
 have:=((t4.start mask h).cF k).le
 omega
theorem TOk.empty{t:SetTable}{hs:List Int}(T:TOk t hs):∃s,s≤t.mask∧∀i:Nat,t.place[i]? ≠some s:=by
 apply Classical.byContradiction;intro c
 have all:∀s∈List.range (t.mask+1),s∈t.place.toList:=λs hs=>by
  apply Classical.byContradiction;intro n;refine c ⟨s,by have:=cE.mp hs;omega,λi hi=>n ?_⟩
  rw [←gJ] at hi;exact f9 hi
 have:=Wb.aX pC all
 rw [iu,dZ] at this
 have:=T.room
 omega
theorem TOk.probe{t:SetTable}{hs:List Int}(T:TOk t hs)(hashAt:Nat→Int)(h:Int)(k:Nat):
  ∃k0,k≤k0∧(∀k',k≤k'→k'<k0→∃i:Nat,t.place[i]? =some (ck t.mask h k')∧hashAt i≠h)∧
   (((∀i:Nat,t.place[i]? ≠some (ck t.mask h k0))∧t.probe hashAt h (xm t.mask h k)=some (.empty (ck t.mask h k0) none))∨
    (∃i:Nat,t.place[i]? =some (ck t.mask h k0)∧hashAt i=h∧t.probe hashAt h (xm t.mask h k)=some (.candidate (ck t.mask h k0) i (xm t.mask h (k0+1))))):=by
 obtain ⟨s,eQ,he⟩:=T.empty;have o:=(t4.start t.mask h).cF k;rw [←ot] at o;obtain ⟨K,hK,eK⟩:=meets T.few o eQ;have e1:∀c,cF t.mask (xm t.mask h k) c=xm t.mask h (k+c):=λc=>by rw [ot,ot,←j8]
 obtain ⟨k0,h0,a,b⟩:=yg T.rise T.dum hashAt h K (10*turns t.mask) (xm t.mask h k) o.dum hK (by rw [eK];exact he)
 refine ⟨k+k0,by omega,λk' h1 h2=>?_,?_⟩
 ·have:=a (k'-k) (by omega)
  rw [e1,show k+(k'-k)=k' by omega] at this
  exact this
 ·rw [e1,e1] at b
  exact b
theorem jW{α:Type}{xs:Array α}{p:Nat}(x:α)(hp:p≤xs.size)(i:Nat):(insertAt xs p x)[i]? =if i<p then xs[i]? else if i=p then some x else xs[i-1]? :=by
 rw [←gJ,SetTable.toList_insertAt];have lt:(xs.toList.take p).length=p:=by rw [b8,dZ];omega
 by_cases c:i<p
 ·rw [if_pos c,eI (by omega),pk c,gJ]
 ·rw [if_neg c]
  by_cases d:i=p
  ·subst d
   rw [if_pos rfl,f7 (by omega),lt,jQ];rfl
  ·rw [if_neg d,f7 (by omega),lt]
   obtain ⟨m,hm⟩:∃m,i-p=m+1:=⟨i-p-1,by omega⟩
   rw [hm,tS,pz,gJ]
   congr 1;omega
theorem gy{α:Type}(xs:Array α)(p:Nat)(x:α):(insertAt xs p x).size=xs.size+1:=by
 rw [←dZ,(SetTable.insertAt_perm xs p x).length_eq];simp
theorem iS{xs:Array Nat}{i j:Nat}(h:xs[i]? =some j):xs[i]! =j:=by
 obtain ⟨hi,e⟩:=CW.mp h;simp [hi,e]
theorem Hl{xs:Array Nat}(R:oR xs){j:Nat}(h:∀i:Nat,xs[i]? ≠some j):oR (insertAt xs (below xs j) j):=by
 obtain ⟨b1,b2,b3⟩:=hZ R j;have g:=jW (xs:=xs) j b1;intro a b hb zC;rw [gy] at hb
 have val:∀i,i<xs.size+1→∃v,(insertAt xs (below xs j) j)[i]? =some v∧((i<below xs j∧xs[i]? =some v)∨(i=below xs j∧v=j)∨(below xs j<i∧xs[i-1]? =some v)):=λi hi=>by
  rw [g i]
  by_cases c:i<below xs j
  ·rw [if_pos c,tR (by omega)]
   exact ⟨_,rfl, .inl ⟨c,rfl⟩⟩
  ·rw [if_neg c]
   by_cases d:i=below xs j
   ·rw [if_pos d];exact ⟨j,rfl, .inr (.inl ⟨d,rfl⟩)⟩
   ·rw [if_neg d,tR (by omega)]
    exact ⟨_,rfl, .inr (.inr ⟨by omega,rfl⟩)⟩
 obtain ⟨va,ha,ca⟩:=val a (by omega)
 obtain ⟨vb,LC,cb⟩:=val b (by omega)
 rw [iS ha,iS LC];have lo:∀i v,i<below xs j→xs[i]? =some v→v<j:=λi v h1 h2=>by have:=b2 i h1;rw [iS h2] at this;exact this
 have hi:∀i v,below xs j≤i→xs[i]? =some v→j<v:=λi v h1 h2=>by
  have:=b3 i h1 (CW.mp h2).1
  rw [iS h2] at this
  have:v≠j:=λz=>h i (by rw [h2,z])
  omega
 have mid:∀i k v u,xs[i]? =some v→xs[k]? =some u→i<k→v<u:=λi k v u h1 h2 h3=>by
  have:=R i k (CW.mp h2).1 h3
  rw [iS h1,iS h2] at this;exact this
 rcases ca with ⟨a1,a2⟩ | ⟨a1,rfl⟩ | ⟨a1,a2⟩
 ·rcases cb with ⟨c1,c2⟩ | ⟨c1,rfl⟩ | ⟨c1,c2⟩
  ·exact mid _ _ _ _ a2 c2 zC
  ·exact lo _ _ a1 a2
  ·have:=lo _ _ a1 a2;have:=hi (b-1) _ (by omega) c2;omega
 ·rcases cb with ⟨c1,c2⟩ | ⟨c1,rfl⟩ | ⟨c1,c2⟩
  ·omega
  ·omega
  ·exact hi (b-1) _ (by omega) c2
 ·rcases cb with ⟨c1,c2⟩ | ⟨c1,rfl⟩ | ⟨c1,c2⟩
  ·omega
  ·omega
  ·exact mid _ _ _ _ a2 c2 (by omega)
theorem Kh{xs:Array Nat}(R:oR xs){j s:Nat}:(∃i:Nat,(insertAt xs (below xs j) j)[i]? =some s)↔s=j∨∃i:Nat,xs[i]? =some s:=by
 obtain ⟨b1,_,_⟩:=hZ R j;have g:=jW (xs:=xs) j b1
 constructor
 ·rintro ⟨i,h⟩
  rw [g i] at h
  split at h
  ·exact .inr ⟨i,h⟩
  ·split at h
   ·exact .inl (Option.some.inj h).symm
   ·exact .inr ⟨_,h⟩
 ·rintro (rfl| ⟨i,h⟩)
  ·exact ⟨below xs s,by rw [g,if_neg (by omega),if_pos rfl]⟩
  ·by_cases c:i<below xs j
   ·exact ⟨i,by rw [g,if_pos c];exact h⟩
   ·exact ⟨i+1,by rw [g,if_neg (by omega),if_neg (by omega)];exact h⟩
theorem TOk.put{t:SetTable}{hs:List Int}(T:TOk t hs){h:Int}{k:Nat}(he:∀i:Nat,t.place[i]? ≠some (ck t.mask h k))(hp:∀k',k'<k→∃i:Nat,t.place[i]? =some (ck t.mask h k'))(room:t.place.size+1≤t.mask):
  (t.put (ck t.mask h k)).2=below t.place (ck t.mask h k)∧below t.place (ck t.mask h k)≤hs.length∧
  TOk (t.put (ck t.mask h k)).1 (hs.take (below t.place (ck t.mask h k))++h::hs.drop (below t.place (ck t.mask h k))):=by
 obtain ⟨b1,b2,b3⟩:=hZ T.rise (ck t.mask h k);have g:=jW (xs:=t.place) (ck t.mask h k) b1;have sz:=T.size;have pm:=λs=>Kh (s:=s) (j:=ck t.mask h k) T.rise;refine ⟨rfl,by omega,T.few,?_,Hl T.rise he,?_,?_,?_,?_⟩
 ·show (if has t.dummies _=true then _ else t.dummies)= #[]
  rw [T.dum];rfl
 ·show (insertAt t.place _ _).size=_
  rw [gy,cy,b8,dB,dY];omega
 ·intro i j hj
  have hj:(insertAt t.place (below t.place (ck t.mask h k)) (ck t.mask h k))[i]? =some j:=hj
  rcases (pm j).mp ⟨i,hj⟩ with rfl| ⟨i',h'⟩
  ·exact Ac _ _ _
  ·exact T.le _ _ h'
 ·show (insertAt t.place _ _).size≤_
  rw [gy];exact room
 ·intro i h' hi
  show ∃k1,(insertAt t.place (below t.place (ck t.mask h k)) (ck t.mask h k))[i]? =some (ck t.mask h' k1)∧∀k',k'<k1→∃i':Nat,(insertAt t.place (below t.place (ck t.mask h k)) (ck t.mask h k))[i']? =some (ck t.mask h' k');have lt:(hs.take (below t.place (ck t.mask h k))).length=below t.place (ck t.mask h k):=by rw [b8];omega
  by_cases c:i<below t.place (ck t.mask h k)
  ·rw [eI (by omega),pk c] at hi
   obtain ⟨k1,e1,e2⟩:=T.path i h' hi;exact ⟨k1,by rw [g,if_pos c];exact e1,λk' kg=>(pm _).mpr (.inr (e2 k' kg))⟩
  ·rw [f7 (by omega),lt] at hi
   by_cases d:i=below t.place (ck t.mask h k)
   ·rw [d,jQ] at hi
    cases (Option.some.inj hi);exact ⟨k,by rw [d,g,if_neg (by omega),if_pos rfl],λk' kg=>(pm _).mpr (.inr (hp k' kg))⟩
   ·obtain ⟨m,hm⟩:∃m,i-below t.place (ck t.mask h k)=m+1:=⟨i-below t.place (ck t.mask h k)-1,by omega⟩
    rw [hm,tS,pz] at hi;obtain ⟨k1,e1,e2⟩:=T.path _ h' hi;refine ⟨k1,?_,λk' kg=>(pm _).mpr (.inr (e2 k' kg))⟩;rw [g,if_neg c,if_neg d,show i-1=below t.place (ck t.mask h k)+m by omega]
    exact e1
theorem tI(mask i p:Nat):∀r,dP mask i p (r+1)=dP mask (leap mask i p).1 (leap mask i p).2 r
 |0=>rfl
 |r+1=>by
  show leap mask (dP mask i p (r+1)).1 (dP mask i p (r+1)).2=_;rw [tI mask i p r];rfl
def Own(o:Array (Option Nat))(s:Nat):Prop:=(o.getD s (some 0)).isNone=false
theorem uW{mask:Nat}(owner:Array (Option Nat)):∀(fuel:Nat)(p:Probe),p.j=p.i→p.more=runEnd mask p.i-p.i→p.i≤runEnd mask p.i→(∃r,r<fuel∧¬Own owner (dP mask p.i p.perturb r).1)→
  ∃k0,layClean.free mask owner fuel p.i p.perturb=some (cF mask p k0).j∧¬Own owner (cF mask p k0).j∧∀k',k'<k0→Own owner (cF mask p k').j
 |0,p,_,_,_,⟨r,hr,_⟩=>by omega
 |fuel+1,p,e1,e2,e3,⟨r,hr,he⟩=>by
  have run:∀c,c≤p.more→(cF mask p c).j=p.i+c:=λc hc=>by rw [rL mask p c hc];show p.j+c=_;rw [e1]
  cases hf:(List.range (runEnd mask p.i+1-p.i)).find? λk=>(owner.getD (p.i+k) (some 0)).isNone with
  |some k=>
   obtain ⟨h1,as,bs,h2,h3⟩:=List.find?_eq_some_iff_append.mp hf;have hk:k<runEnd mask p.i+1-p.i:=cE.mp (by rw [h2];simp)
   have las:as.length=k:=by
    have hl:as.length<(List.range (runEnd mask p.i+1-p.i)).length:=by rw [h2];simp
    have:=wq (n:=runEnd mask p.i+1-p.i) (i:=as.length) (by simpa using hl)
    rw [h2,f7 (bC _),jQ] at this;exact (Option.some.inj this).symm
   refine ⟨k,?_,?_,λk' kg=>?_⟩
   ·rw [layClean.free,hf,run k (by omega)]
   ·rw [run k (by omega)]
    unfold Own;rw [h1];exact Bool.noConfusion
   ·rw [run k' (by omega)]
    have hm:k'∈as:=by
     have:=wq (n:=runEnd mask p.i+1-p.i) (i:=k') (by omega)
     rw [h2,eI (by omega)] at this
     exact f9 this
    have:=h3 k' hm
    unfold Own;exact Bool.not_eq_true' _▸this
  |none=>
   have all:=List.find?_eq_none.mp hf
   have own:∀c,c≤p.more→Own owner (p.i+c):=λc hc=>by
    have:=all c (cE.mpr (by omega))
    unfold Own;exact wx.mpr this
   cases r with
   |zero=>exact absurd (own 0 (cH _)) he
   |succ r=>
    have lp:=pG mask p
    obtain ⟨k0,a,b,c⟩:=uW owner fuel (ML mask p (leap mask p.i p.perturb)) rfl rfl (by
     show (leap mask p.i p.perturb).1≤runEnd mask (leap mask p.i p.perturb).1;unfold runEnd;split<;>omega) ⟨r,by omega,by rw [tI] at he;exact he⟩
    rw [←lp] at a b c;have e4:∀k,cF mask (cF mask p (p.more+1)) k=cF mask p (p.more+1+k):=λk=>(j8 mask p (p.more+1) k).symm;refine ⟨p.more+1+k0,?_,?_,λk' kg=>?_⟩
    ·rw [layClean.free,hf,←e4,←a,lp];rfl
    ·rw [←e4];exact b
    ·by_cases d:k'≤p.more
     ·rw [run k' d];exact own k' d
     ·have:=c (k'-(p.more+1)) (by omega)
      rw [e4,show p.more+1+(k'-(p.more+1))=k' by omega] at this
      exact this
structure Laid (mask:Nat) (hs:List Int) (owner:Array (Option Nat)) (ss:List Nat):Prop where
 size:owner.size=mask+1
 len:ss.length=hs.length
 nd:ss.Nodup
 le:∀s∈ss,s≤mask
 get:∀s,s≤mask→∀k,owner.getD s (some 0)=some k↔ss[k]? =some s
 path:∀(k:Nat)(h:Int),hs[k]? =some h→∃c,ss[k]? =some (ck mask h c)∧∀c',c'<c→ck mask h c'∈ss
theorem Laid.own{mask:Nat}{hs:List Int}{owner:Array (Option Nat)}{ss:List Nat}(L:Laid mask hs owner ss){s:Nat}(h:s≤mask):Own owner s↔s∈ss:=by
 unfold Own
 constructor
 ·intro e
  cases o:owner.getD s (some 0) with
  |none=>rw [o] at e;cases e
  |some k=>exact f9 ((L.get s h k).mp o)
 ·intro e
  obtain ⟨k,hk⟩:=wF e;rw [(L.get s h k).mpr hk];rfl
theorem D8{mask:Nat}(f:uB mask){hs:List Int}{owner:Array (Option Nat)}{ss:List Nat}(L:Laid mask hs owner ss)(room:hs.length≤mask)(h:Int):
  ∃j,layClean.free mask owner (turns mask) (bits h%(mask+1)) (bits h)=some j∧Laid mask (hs++ [h]) (owner.setIfInBounds j (some hs.length)) (ss++ [j]):=by
 have o:=t4.start mask h
 obtain ⟨s,qG,ja⟩:∃s,s≤mask∧s∉ss:=by
  apply Classical.byContradiction;intro c
  have all:∀s∈List.range (mask+1),s∈ss:=λs hs=>by
   apply Classical.byContradiction;intro n;exact c ⟨s,by have:=cE.mp hs;omega,n⟩
  have:=Wb.aX pC all
  rw [iu,L.len] at this;omega
 have z:(dP mask (bM mask h).i (bM mask h).perturb 13).2=0:=by
  rw [jY];exact Nat.div_eq_of_lt (gP o.per (by decide))
 obtain ⟨r,hr,e⟩:=cover f (Cv mask (bM mask h).i (bM mask h).perturb 12) qG
 have hi:(bM mask h).i≤mask:=by
  have:=jR (bits h) (show 0<mask+1 by omega)
  show bits h%(mask+1)≤mask;omega
 obtain ⟨k0,a,b,c⟩:=uW owner (turns mask) (bM mask h) rfl rfl (by unfold runEnd;split<;>omega) ⟨13+r,by unfold turns;omega,by
  rw [sN z];show ¬Own owner (jD mask _ r);rw [e,L.own qG];exact ja⟩
 have sl:∀k,(cF mask (bM mask h) k).j=ck mask h k:=λk=>by unfold ck;rw [ot]
 rw [sl] at a b;have hle:=Ac mask h k0;rw [L.own hle] at b;refine ⟨ck mask h k0,a,?_,?_,?_,?_,?_,?_⟩
 ·rw [Array.size_setIfInBounds];exact L.size
 ·rw [cy,cy,L.len];rfl
 ·exact fN.mpr ⟨L.nd,by simp,λx hx y hy z=>b (by rw [←gQ.mp hy,←z];exact hx)⟩
 ·intro x hx
  rcases dh.mp hx with hx|hx
  ·exact L.le x hx
  ·rw [gQ.mp hx];exact hle
 ·intro x hx k
  have e1:(owner.setIfInBounds (ck mask h k0) (some hs.length)).getD x (some 0)=if ck mask h k0=x then some hs.length else owner.getD x (some 0):=by
   rw [CV,CV,Array.getElem?_setIfInBounds]
   by_cases d:ck mask h k0=x
   ·rw [if_pos d,if_pos d,if_pos (by rw [L.size];omega)];rfl
   ·rw [if_neg d,if_neg d]
  rw [e1]
  by_cases d:ck mask h k0=x
  ·rw [if_pos d]
   constructor
   ·intro e
    cases (Option.some.inj e);rw [←L.len,f7 (bC _),jQ,←d];rfl
   ·intro e
    by_cases q:k<ss.length
    ·rw [eI q] at e
     exact absurd (by rw [d];exact f9 e) b
    ·have:k<(ss++ [ck mask h k0]).length:=(eU.mp e).1
     rw [cy] at this
     have:k<ss.length+1:=this
     rw [show k=ss.length by omega,L.len]
  ·rw [if_neg d,L.get x hx k]
   constructor
   ·intro e
    rw [eI (eU.mp e).1];exact e
   ·intro e
    by_cases q:k<ss.length
    ·rw [eI q] at e;exact e
    ·have:k<(ss++ [ck mask h k0]).length:=(eU.mp e).1
     rw [cy] at this
     have:k<ss.length+1:=this
     rw [show k=ss.length by omega,f7 (bC _),jQ] at e
     exact absurd (Option.some.inj e) d
 ·intro k h' hk
  by_cases q:k<hs.length
  ·rw [eI q] at hk
   obtain ⟨c1,e1,e2⟩:=L.path k h' hk;exact ⟨c1,by rw [eI (by rw [L.len];exact q)];exact e1,λc' rV=>fL _ (e2 c' rV)⟩
  ·have:k<(hs++ [h]).length:=(eU.mp hk).1
   rw [cy] at this
   have:k<hs.length+1:=this
   have ek:k=hs.length:=by omega
   subst ek;rw [f7 (bC _),jQ] at hk;cases (Option.some.inj hk);refine ⟨k0,by rw [←L.len,f7 (bC _),jQ];rfl,λc' rV=>fL _ ?_⟩
   have:=c c' rV
   rw [sl] at this;exact (L.own (Ac _ _ _)).mp this
theorem D9(mask:Nat):Laid mask [] (Array.replicate (mask+1) none) [] where
 size:=by simp
 len:=rfl
 nd:=mw
 le:=λs h=>by cases h
 get:=λs hs k=>by
  rw [CV,Array.getElem?_replicate,if_pos (by omega)]
  simp
 path:=λk h e=>by cases e
def xR(mask:Nat)(acc:Option (Array (Option Nat)×Nat))(h:Int):Option (Array (Option Nat)×Nat):=do
 let (owner,k) ←acc
 let j ←layClean.free mask owner (turns mask) (bits h%(mask+1)) (bits h)
 pure (owner.setIfInBounds j (some k),k+1)
theorem xS{mask:Nat}(f:uB mask):∀(rest done:List Int)(owner:Array (Option Nat))(ss:List Nat),Laid mask done owner ss→done.length+rest.length≤mask+1→
  ∃qR Qt,rest.foldl (xR mask) (some (owner,done.length))=some (qR,done.length+rest.length)∧Laid mask (done++rest) qR Qt
 | [],done,owner,ss,L,_=>⟨owner,ss,rfl,by rw [jO];exact L⟩
 |h::rest,done,owner,ss,L,hl=>by
  rw [dB] at hl;obtain ⟨j,e,L'⟩:=D8 f L (by omega) h
  have ef:xR mask (some (owner,done.length)) h=some (owner.setIfInBounds j (some done.length),done.length+1):=by
   unfold xR;simp [e]
  obtain ⟨qR,Qt,e2,L2⟩:=xS f rest (done++ [h]) _ _ L' (by rw [cy];show done.length+1+rest.length≤_;omega)
  refine ⟨qR,Qt,?_,by rw [rF] at L2;exact L2⟩
  rw [List.foldl_cons,ef];rw [cy] at e2;have e2:rest.foldl (xR mask) (some (owner.setIfInBounds j (some done.length),done.length+1))=some (qR,done.length+1+rest.length):=e2;rw [e2,dB]
  congr 2;omega
theorem zQ{mask:Nat}(f:uB mask)(hs:List Int)(room:hs.length≤mask+1):∃owner ss,layClean mask hs.toArray=some owner∧Laid mask hs owner ss:=by
 obtain ⟨owner,ss,e,L⟩:=xS f hs [] _ _ (D9 mask) (by simpa using room)
 refine ⟨owner,ss,?_,by simpa using L⟩
 have:layClean mask hs.toArray=(hs.foldl (xR mask) (some (Array.replicate (mask+1) none,0))).map (·.1):=by
  unfold layClean;rw [List.foldl_toArray];rfl
 have e:hs.foldl (xR mask) (some (Array.replicate (mask+1) none,0))=some (owner,[].length+hs.length):=e;rw [this,e];rfl
def dM(mask:Nat)(owner:Array (Option Nat)):List (Nat×Nat):=(List.range (mask+1)).filterMap λj=>(owner.getD j none).map (j,·)
theorem GY{mask:Nat}{hs:List Int}{owner:Array (Option Nat)}{ss:List Nat}(L:Laid mask hs owner ss){j k:Nat}:(j,k)∈dM mask owner↔ss[k]? =some j:=by
 unfold dM;rw [List.mem_filterMap]
 have dflt:∀s,s≤mask→owner.getD s none=owner.getD s (some 0):=λs hs=>by
  rw [CV,CV,tR (by rw [L.size];omega)];rfl
 constructor
 ·rintro ⟨s,eQ,e⟩
  have eQ:=cE.mp eQ;rw [dflt s (by omega)] at e
  cases o:owner.getD s (some 0) with
  |none=>rw [o] at e;cases e
  |some k'=>
   rw [o] at e;have e:=Option.some.inj e;have e1:s=j:=(Prod.mk.inj e).1;have e2:k'=k:=(Prod.mk.inj e).2;rw [←e1,←e2];exact (L.get s (by omega) k').mp o
 ·intro e
  have hj:=L.le j (f9 e);refine ⟨j,cE.mpr (by omega),?_⟩
  rw [dflt j hj,(L.get j hj k).mpr e];rfl
theorem Ee(mask:Nat)(owner:Array (Option Nat)):((dM mask owner).map (·.1)).Pairwise (·<·):=by
 unfold dM;rw [jM,List.pairwise_filterMap];refine List.pairwise_lt_range.imp λ {a b} h x hx y hy=>?_;cases oa:owner.getD a none with
 |none=>rw [oa] at hx;cases hx
 |some ka=>
  cases ob:owner.getD b none with
  |none=>rw [ob] at hy;cases hy
  |some kb=>
   rw [oa] at hx;rw [ob] at hy;cases (Option.some.inj hx);cases (Option.some.inj hy);exact h
theorem Jx{mask:Nat}(f:uB mask)(hs:List Int)(room:hs.length≤mask)(finger moves:Nat)(led plain:Bool):
  ∃t order,laid mask finger moves led plain hs.toArray=some (t,order)∧t.mask=mask∧t.led=led∧t.plain=plain∧t.moves=moves∧order.toList.Perm (List.range hs.length)∧TOk t (order.toList.map λk=>hs.getD k 0):=by
 obtain ⟨owner,ss,e,L⟩:=zQ f hs (by omega)
 have lm:=λ {j k:Nat}=>GY (j:=j) (k:=k) L;have ri:=Ee mask owner
 have xf:((dM mask owner).map (·.2)).Nodup:=by
  rw [CY,jM];rw [jM] at ri;refine ri.imp_of_mem λ {a b} ha hb zC z=>?_;obtain ⟨aj,ak⟩:=a;obtain ⟨bj,bk⟩:=b;have h1:=lm.mp ha;have h2:=lm.mp hb;have z:ak=bk:=z;rw [z,h2] at h1
  have:=Option.some.inj h1
  have zC:aj<bj:=zC;omega
 have perm:((dM mask owner).map (·.2)).Perm (List.range hs.length):=by
  refine (Ga xf pC).mpr λk=>?_;rw [bK,cE]
  constructor
  ·rintro ⟨⟨j,k'⟩,h,rfl⟩
   have:=(eU.mp (lm.mp h)).1
   rw [L.len] at this;exact this
  ·intro hk
   have kg:k<ss.length:=by rw [L.len];exact hk
   exact ⟨(ss[k],k),lm.mpr (bz kg),rfl⟩
 have ll:(dM mask owner).length=hs.length:=by
  have:=perm.length_eq
  simpa using this
 refine ⟨{mask,place:=((dM mask owner).map (·.1)).toArray,dummies:= #[],finger,led,moves,plain},((dM mask owner).map (·.2)).toArray,?_,rfl,rfl,rfl,rfl,by simpa using perm,?_⟩
 ·unfold laid
  rw [e];rfl
 have J5:∀(i j:Nat),((dM mask owner).map (·.1)).toArray[i]? =some j↔∃k,(dM mask owner)[i]? =some (j,k):=λi j=>by
  rw [List.getElem?_toArray,e7];cases o:(dM mask owner)[i]? with
  |none=>simp
  |some x=>
   obtain ⟨a,b⟩:=x;simp
 have GN:∀s,s∈ss→∃i:Nat,((dM mask owner).map (·.1)).toArray[i]? =some s:=λs eQ=>by
  obtain ⟨k,hk⟩:=wF eQ;obtain ⟨i,hi⟩:=wF (lm.mpr hk);exact ⟨i,(J5 i s).mpr ⟨k,hi⟩⟩
 refine ⟨f,rfl,?_,?_,?_,?_,?_⟩
 ·intro a b hb zC
  have hb:b<((dM mask owner).map (·.1)).length:=by simpa using hb
  have:=A4.mp ri a b (by omega) hb zC
  simp [show a<(dM mask owner).length by simpa using (show a<((dM mask owner).map (·.1)).length by omega),show b<(dM mask owner).length by simpa using hb]
  simpa using this
 ·simp
 ·intro i j h
  obtain ⟨k,hk⟩:=(J5 i j).mp h;exact L.le j (f9 (lm.mp (f9 hk)))
 ·show ((dM mask owner).map (·.1)).toArray.size≤mask
  simp [ll];exact room
 ·intro i h' hi
  rw [e7] at hi;cases o:(dM mask owner)[i]? with
  |none=>
   have:(((dM mask owner).map (·.2)).toArray.toList)[i]? =none:=by simp [o]
   rw [this] at hi;cases hi
  |some x=>
   obtain ⟨j,k⟩:=x;have e1:(((dM mask owner).map (·.2)).toArray.toList)[i]? =some k:=by simp [o]
   rw [e1] at hi;have sk:=lm.mp (f9 o);have hk:k<hs.length:=by rw [←L.len];exact (eU.mp sk).1
   have eh:hs[k]? =some h':=by
    rw [←Option.some.inj hi];show _=some (hs.getD k 0);rw [aL,bz hk];rfl
   obtain ⟨c,p1,p2⟩:=L.path k h' eh;rw [sk] at p1;refine ⟨c,(J5 i _).mpr ⟨k,by rw [o,Option.some.inj p1]⟩,λc' rV=>GN _ (p2 c' rV)⟩
end PySem.SetTable
namespace PySem
open SetTable PyProof.Rows
def e9(w:World):Bool:=w.params.followText "set-order"
structure hU (bt:Bool) (o:Obj) (es:Array (Int×Value)) (ep:Nat) (t:SetTable):Prop where
 ex:o.ExactSet
 dat:o.data= .set es ep t
 tok:TOk t (es.toList.map (·.1))
 pl:t.plain=true
 ld:t.led= !bt
 few:5*es.size<3*t.mask
theorem TOk.fits{t:SetTable}{hs:List Int}(T:TOk t hs):t.fits hs.length=true:=by
 simp only [SetTable.fits,SetTable.fill,T.dum,T.size,tW,beq_iff_eq,decide_eq_true_eq,true_and]
 have:=T.room
 rw [T.size] at this;simpa using this
theorem hU.fits{w:Bool}{o:Obj}{es:Array (Int×Value)}{ep:Nat}{t:SetTable}(S:hU w o es ep t):t.fits es.size=true:=by
 have:=TOk.fits S.tok
 simpa using this
theorem Gw{mask n:Nat}(f:uB mask)(h:5*n<3*mask):n+1≤mask:=by
 rcases f with rfl|rfl|rfl|rfl<;>omega
theorem Ec{t:SetTable}{es:Array (Int×Value)}(T:TOk t (es.toList.map (·.1)))(few:5*es.size<3*t.mask)(h:Int)(x:Value):
  ∃p t',layNew t es h x=(SetTable.insertAt es p (h,x),t',false,false)∧TOk t' ((SetTable.insertAt es p (h,x)).toList.map (·.1))∧t'.mask=t.mask∧t'.plain=t.plain∧t'.led=t.led:=by
 obtain ⟨k0,_,a,b⟩:=TOk.probe T (λ_=>h+1) h 0;obtain ⟨b1,b2⟩:=b.resolve_right (λ⟨i,_,c,_⟩=>by have c:h+1=h:=c;omega)
 have fs:t.freeSlot h=some (ck t.mask h k0,false):=by
  unfold SetTable.freeSlot;rw [Hy,show bM t.mask h=xm t.mask h 0 from rfl,b2];rfl
 have sz:t.place.size=es.size:=by rw [T.size];simp
 obtain ⟨p1,p2,p3⟩:=TOk.put T (h:=h) (k:=k0) b1 (λk' kg=>let ⟨i,hi,_⟩:=a k' (cH _) kg;⟨i,hi⟩) (by rw [sz];exact Gw T.few few)
 have e:(SetTable.insertAt es (below t.place (ck t.mask h k0)) (h,x)).toList.map (·.1)=(es.toList.map (·.1)).take (below t.place (ck t.mask h k0))++h::(es.toList.map (·.1)).drop (below t.place (ck t.mask h k0)):=by
  rw [SetTable.toList_insertAt];simp
 rw [←e] at p3;refine ⟨below t.place (ck t.mask h k0),(t.put (ck t.mask h k0)).1,?_,p3,rfl,rfl,rfl⟩
 have ft:(t.put (ck t.mask h k0)).1.fits (SetTable.insertAt es (below t.place (ck t.mask h k0)) (h,x)).size=true:=by
  have:=TOk.fits p3
  rw [aI,dZ] at this;exact this
 unfold layNew;rw [fs];show (SetTable.insertAt es (t.put (ck t.mask h k0)).2 (h,x),(t.put (ck t.mask h k0)).1.orStandIn (SetTable.insertAt es (t.put (ck t.mask h k0)).2 (h,x)).size,false,!(t.put (ck t.mask h k0)).1.fits (SetTable.insertAt es (t.put (ck t.mask h k0)).2 (h,x)).size)=_;rw [p1];unfold SetTable.orStandIn;rw [if_pos ft,ft];rfl
theorem DD{mask n:Nat}(f:uB mask)(h1:3*mask≤5*n)(h2:5*(n-1)<3*mask)(h3:n≤306):uB (sizeAbove (grown n)-1)∧5*n<3*(sizeAbove (grown n)-1)∧n≤sizeAbove (grown n)-1∧sizeAbove (grown n)≤512:=by
 rcases f with rfl|rfl|rfl|rfl
 ·have:n=5:=by omega
  subst this;exact ⟨.inr (.inl rfl),by decide,by decide,by decide⟩
 ·have:n=19:=by omega
  subst this;exact ⟨.inr (.inr (.inl rfl)),by decide,by decide,by decide⟩
 ·have:n=77:=by omega
  subst this;exact ⟨.inr (.inr (.inr rfl)),by decide,by decide,by decide⟩
 ·omega
theorem EB{t:SetTable}{es:Array (Int×Value)}(T:TOk t (es.toList.map (·.1)))(full:t.tooFull=true)(near:5*(es.size-1)<3*t.mask)(small:es.size≤306):
  ∃t' order,t.relaid (es.map (·.1)) (grown es.size)=some (t',order)∧order.toList.Perm (List.range es.size)∧(order.filterMap (es[·]?)).toList.Perm es.toList∧(order.filterMap (es[·]?)).size=es.size∧
   TOk t' ((order.filterMap (es[·]?)).toList.map (·.1))∧t'.plain=t.plain∧t'.led=t.led∧5*es.size<3*t'.mask∧sizeAbove (grown es.size)≤512:=by
 have sz:t.place.size=es.size:=by rw [T.size];simp
 have f1:3*t.mask≤5*es.size:=by
  unfold SetTable.tooFull SetTable.fill at full;rw [T.dum,sz] at full;simp at full;omega
 obtain ⟨g1,g2,g3,g4⟩:=DD T.few f1 near small;obtain ⟨t',order,e,em,el,ep,_,pm,tk⟩:=Jx g1 (es.toList.map (·.1)) (by simpa using g3) t.finger (t.movedTo (sizeAbove (grown es.size)-1)) t.led t.plain
 rw [aI,dZ] at pm
 have pf:(order.filterMap (es[·]?)).toList.Perm es.toList:=by
  rw [Array.toList_filterMap];exact (pm.filterMap _).trans (by rw [filterMap_getElem?_range])
 have sf:(order.filterMap (es[·]?)).size=es.size:=by rw [←dZ,pf.length_eq,dZ]
 refine ⟨t',order,?_,pm,pf,sf,?_,ep,el,by rw [em];exact g2,g4⟩
 ·unfold SetTable.relaid
  rw [show es.map (·.1)=(es.toList.map (·.1)).toArray by apply Array.toList_inj.mp;simp]
  exact e
 ·have:(order.filterMap (es[·]?)).toList.map (·.1)=order.toList.map λk=>(es.toList.map (·.1)).getD k 0:=by
   rw [Array.toList_filterMap];have lt:∀k∈order.toList,k<es.size:=λk hk=>cE.mp (pm.mem_iff.mp hk);generalize order.toList=l at lt
   induction l with
   |nil=>rfl
   |cons k l ih=>
    have hk:=lt k (cD ..);rw [List.filterMap_cons_some (b:=es[k]) (by simp [hk]),gL,gL,ih λj hj=>lt j (cM _ hj)]
    simp [hk]
  rw [this];exact tk
theorem Ab{t:SetTable}{es:Array (Int×Value)}(T:TOk t (es.toList.map (·.1)))(full:t.tooFull=true)(near:5*(es.size-1)<3*t.mask)(small:es.size≤306):
  ∃jU t',relayAll t es (grown es.size)=(jU,t',false)∧jU.toList.Perm es.toList∧TOk t' (jU.toList.map (·.1))∧t'.plain=t.plain∧t'.led=t.led∧5*es.size<3*t'.mask:=by
 obtain ⟨t',order,e,pm,pf,sf,tk,h1,h2,h3,_⟩:=EB T full near small;refine ⟨_,t',?_,pf,tk,h1,h2,h3⟩;unfold relayAll;rw [e];dsimp only;have c:coversAll order es.size=true:=List.isPerm_iff.mpr pm
 have ft:t'.fits (order.filterMap (es[·]?)).size=true:=by
  have:=TOk.fits tk
  rw [aI,dZ] at this;exact this
 rw [c,ft];rfl
end PySem
set_option maxHeartbeats 1000000
namespace PySem
open SetTable PyProof.Rows
section
variable {prog:Program} {w:World} {A:Around} {E:Value→Shared→Prop} {s:Shared}
theorem tL{h:Heap}{a:Addr}{o:Obj}{es:Array (Int×Value)}{ep:Nat}{t:SetTable}(ho:h.get? a=some o)(hd:o.data= .set es ep t)(jU:Array (Int×Value))(t':SetTable):
  (h.update a (Obj.putSet jU t')).get? a=some {o with data:= .set jU (ep+1) t'}:=by
 have:=Heap.get?_update_self (Obj.putSet jU t') ho (by rw [putSet_of jU t' hd];rfl)
 rw [putSet_of jU t' hd] at this;exact this
theorem AU{a:Addr}{o:Obj}{es:Array (Int×Value)}{ep:Nat}{t:SetTable}{k:Int}{x:Value}{Q:Bool→Shared→Prop}(ho:s.heap.get? a=some o)(S:hU (e9 w) o es ep t)(S0:ElemsOf (intKind prog w) es.toList)
  (Fx:(intKind prog w).is k x=true) (room:es.size≤305)
  (hm:(∃e∈es.toList,(intKind prog w).is k e.2=true)→Q false s)
  (hn:¬(∃e∈es.toList,(intKind prog w).is k e.2=true)→∀h' o' jU Dt t',Heap.SameBut a s.heap h'→h'.get? a=some o'→hU (e9 w) o' jU Dt t'→jU.toList.Perm (es.toList++ [((intKind prog w).hash k,x)])→Q true {s with heap:=h'}):
  wpAny (model prog w) A (setAddHashed a x ((intKind prog w).hash k)) Q E s:=by
 have hd:=S.dat;have hf:=S.fits;obtain ⟨tk,rfl⟩:=Value.isInt_shape Fx;have Tz:(Value.int k tk).scannable=true:=rfl;have hb:es.size<scanBound:=by show es.size<4096;omega
 unfold setAddHashed setAddHashedIn;refine wpAny_holding (wpAny_bind (wpAny_setState_of ho hd hf ?_));dsimp only;rw [byScan_of Tz hb S0];simp only [↓reduceIte];unfold setAddByScan;refine wpAny_bind ?_;refine wpAny_bind (wpAny_rule ?_);refine wpAny_bind (wpAny_setScan_of Fx ho hd hf S0 ?_);cases hr:List.findIdx? (λe=>(intKind prog w).is k e.2) es.toList with
 |some j=>
  dsimp only;obtain ⟨hj,YT,_⟩:=List.findIdx?_eq_some_iff_getElem.mp hr;exact wpAny_pure (wpAny_pure (hm ⟨es.toList[j],rH hj,YT⟩))
 |none=>
  dsimp only
  have nm:¬∃e∈es.toList,(intKind prog w).is k e.2=true:=by
   rintro ⟨e,he,hp⟩
   have:=List.findIdx?_eq_none_iff.mp hr e he
   rw [hp] at this;exact Bool.noConfusion this
  obtain ⟨p,t1,eL,T1,m1,p1,l1⟩:=Ec S.tok S.few ((intKind prog w).hash k) (.int k tk);rw [eL];dsimp only;refine wpAny_bind (wpAny_pure ?_);rw [show t1.plain=true by rw [p1];exact S.pl]
  simp only [↓reduceIte];refine wpAny_bind ?_;rw [hashByValue_scannable 8 Tz];refine wpAny_pure ?_;simp only [plainKind, ↓reduceIte];have mI:(SetTable.insertAt es p ((intKind prog w).hash k,Value.int k tk)).size=es.size+1:=SetTable.gy ..;have J9:=SetTable.insertAt_perm es p ((intKind prog w).hash k,Value.int k tk);rw [wJ] at J9;refine wpAny_bind (wpAny_storeSet_of ho hd ?_ (by rw [mI];refine fits_of_scanBound ?_;show es.size+1<4096;omega))
  have mF:=tL ho hd (SetTable.insertAt es p ((intKind prog w).hash k,Value.int k tk)) t1;have VO:=Heap.SameBut.update s.heap a (Obj.putSet (SetTable.insertAt es p ((intKind prog w).hash k,Value.int k tk)) t1)
  by_cases full:t1.tooFull=true
  ·rw [full]
   simp only [Bool.not_false,Bool.and_true, ↓reduceIte];obtain ⟨IJ,t2,eR,Cn,T2,p2,l2,f2⟩:=Ab T1 full (by rw [mI,m1];have:=S.few;omega) (by rw [mI];omega)
   rw [eR];dsimp only;have Wd:IJ.size=es.size+1:=by rw [←dZ,Cn.length_eq,dZ,mI]
   refine wpAny_bind (wpAny_pure ?_);refine wpAny_bind (wpAny_storeSet_of mF rfl ?_ (by rw [Wd];refine fits_of_scanBound ?_;show es.size+1<4096;omega))
   have BR:=tL mF rfl IJ t2;refine wpAny_pure (wpAny_pure (hn nm _ _ IJ _ t2 (VO.trans (Heap.SameBut.update _ a _)) BR ⟨S.ex,rfl,T2,by rw [p2,p1];exact S.pl,by rw [l2,l1];exact S.ld,by rw [Wd];rw [mI] at f2;exact f2⟩ (Cn.trans J9)))
  ·have ff:t1.tooFull=false:=by simpa using full
   rw [ff];simp only [Bool.not_false,Bool.and_false,mm, ↓reduceIte];refine wpAny_pure (wpAny_pure (hn nm _ _ _ _ t1 VO mF ⟨S.ex,rfl,T1,by rw [p1];exact S.pl,by rw [l1];exact S.ld,?_⟩ J9))
   unfold SetTable.tooFull SetTable.fill at ff;rw [T1.dum,T1.size] at ff;simp at ff;omega
theorem uO{Q₁:Value→Shared→Prop}
  (h:Q₁ (.ref s.heap.objs.size) {s with heap:=s.heap.push {cls:= .type "set",dict:=none,data:= .set #[] 0 (.fresh 0 0 (!e9 w))}}):
  codeAny (model prog w) A (.call (.builtin "set.__new__") ⟨[.type "set"],[]⟩) (wants Q₁ E) s:=by
 refine codeAny_of_tree ?_;show wpAny _ A.in1 (do checkBuiltinCall "set.__new__" ⟨[.type "set"],[]⟩;again (.builtin "set.__new__" ⟨[.type "set"],[]⟩)) _ _ s
 refine wpAny_bind (wpAny_of_eq F.newCall_set_0 (wpAny_pure ⟨plainId_quiet F.plain_set_new _,codeAny_builtin F.entry_set_new ?_⟩));rw [Around.under_plainId F.plain_set_new _];unfold Builtin.«set.__new__» Builtin.Frozenset.newClass;have TB:=sub_set_self;obtain ⟨hp,g,d,tk,os⟩:=s;dsimp only
 wp_walk
 refine wpAny_askSetting (wpAny_pure ?_);dsimp only;simp only [newObj];refine wpAny_bind (wpAny_alloc (wpAny_pure ?_));exact wpAny_pure h
theorem zh{Q:Value→Shared→Prop}
  (h:Q (.ref s.heap.objs.size) {s with heap:=s.heap.push {cls:= .type "set",dict:=none,data:= .set #[] 0 (.fresh 0 0 (!e9 w))}}):
  wpAny (model prog w) A (call (.type "set") []) Q E s:=by
 obtain ⟨c,tl,aag⟩:=F.called_set.mro;have YJ:=F.called_set.made;have TB:=F.called_set.sub;refine wpAny_call (codeAny_of_tree ?_);show wpAny _ _ (callAny (.type "set") _) _ _ _;refine wpAny_pure ⟨Code.quiet_builtin _ (by decide+kernel),codeAny_builtin F.entry_type_call ?_⟩
 rw [Around.under_plain (weight_type_call_type "set" [] []) rfl];have h1:=F.called_set.notType;have h2:=F.called_set.canCreate;have hct:=F.typeCall_set_0
 repeat (any_goals (first|assumption|wp_step))
 refine codeAny_mono (uO (E:=E) (Q₁:=λobj s₁=>obj= .ref s.heap.objs.size∧s₁={s with heap:=s.heap.push {cls:= .type "set",dict:=none,data:= .set #[] 0 (.fresh 0 0 (!e9 w))}}) ⟨rfl,rfl⟩) λr s₁ hr=>?_
 cases r with
 |error e=>exact hr
 |ok fl=>
  cases fl with
  |ret obj=>
   obtain ⟨rfl,rfl⟩:=hr;have hS:(s.heap.push {cls:= .type "set",dict:=none,data:= .set #[] 0 (.fresh 0 0 (!e9 w))}).get? s.heap.objs.size=some {cls:= .type "set",dict:=none,data:= .set #[] 0 (.fresh 0 0 (!e9 w))}:=Heap.get?_push_size _ rfl;have hT:Shared.TypeIs {s with heap:=s.heap.push {cls:= .type "set",dict:=none,data:= .set #[] 0 (.fresh 0 0 (!e9 w))}} (.ref s.heap.objs.size) "set":=⟨_,hS,rfl⟩
   have hli:=F.called_set.init.lookup;have hbi:=F.called_set.init.bind (.ref s.heap.objs.size)
   repeat (any_goals (first|assumption|wp_step))
   refine codeAny_mono (codeAny_call_builtin (R:=wants (λr F6=>r= .none∧Q (.ref s.heap.objs.size) F6) E) F.called_set.init.plain F.entry_set_init (check_set_init hT ?_)) λVJ F6 DX=>?_
   ·unfold Builtin.«set.__init__» noKeywords
    wp_walk
    exact ⟨rfl,h⟩
   ·cases VJ with
    |error e=>exact DX
    |ok OZ=>
     cases OZ with
     |ret r=>
      obtain ⟨rfl,hq⟩:=DX
      repeat (any_goals (first|assumption|wp_step))
     |_=>exact DX.elim
  |_=>exact hr.elim
theorem hU.new(w:World):hU (e9 w) {cls:= .type "set",dict:=none,data:= .set #[] 0 (.fresh 0 0 (!e9 w))} #[] 0 (.fresh 0 0 (!e9 w)) where
 ex:=⟨rfl,rfl,rfl⟩
 dat:=rfl
 tok:=⟨.inl rfl,rfl,λi j hj=>by simp [SetTable.fresh] at hj,rfl,λi j h=>by simp [SetTable.fresh] at h,by simp [SetTable.fresh],λi h e=>by simp at e⟩
 pl:=rfl
 ld:=rfl
 few:=by simp [SetTable.fresh]
end
namespace F
theorem t7:entryFor table "set.__iter__"=some Builtin.«frozenset.__iter__»:=
 entryFor_alias (id':="frozenset.__iter__") (by kernel_rfl) rfl (by decide+kernel) (by kernel_rfl)
theorem iF:Manifest.owners.lookup (String.ofList ['r','o','t','a','r','e','t','i','_','t','e','s'].reverse)=some Manifest.sig_set_iterator:=by kernel_rfl
theorem bG:Slot "set_iterator" "__next__" "set_iterator.__next__":=
 .of (owner:="set_iterator") (n:="__next__") (by rw [typeLookup_type,builtinLookup_eq_fast];kernel_rfl) (by decide+kernel) (by decide+kernel) (by decide+kernel)
  (by first|exact .inl (by decide+kernel) |exact .inr (by decide+kernel)) (by rw [isSubtype_type];kernel_rfl)
theorem fJ:entryFor table "set_iterator.__next__"=some Builtin.«set_iterator.__next__»:=entryFor_of_tree (by kernel_rfl)
theorem fG(a:Value):argsOk "set_iterator.__next__" ⟨[a],[]⟩:=by
 unfold argsOk;rw [signature?_of (id:="set_iterator.__next__") (n:= ['_','_','t','x','e','n','_','_']) (o:= ['r','o','t','a','r','e','t','i','_','t','e','s']) (by kernel_rfl) iF];kernel_rfl
theorem fX:Slot "set_iterator" "__iter__" "set_iterator.__iter__":=
 .of (owner:="set_iterator") (n:="__iter__") (by rw [typeLookup_type,builtinLookup_eq_fast];kernel_rfl) (by decide+kernel) (by decide+kernel) (by decide+kernel)
  (by first|exact .inl (by decide+kernel) |exact .inr (by decide+kernel)) (by rw [isSubtype_type];kernel_rfl)
theorem jT:entryFor table "set_iterator.__iter__"=some Builtin.«dict_keyiterator.__iter__»:=
 entryFor_alias (id':="dict_keyiterator.__iter__") (by kernel_rfl) rfl (by decide+kernel) (by kernel_rfl)
theorem js(a:Value):argsOk "set_iterator.__iter__" ⟨[a],[]⟩:=by
 unfold argsOk;rw [signature?_of (id:="set_iterator.__iter__") (n:= ['_','_','r','e','t','i','_','_']) (o:= ['r','o','t','a','r','e','t','i','_','t','e','s']) (by kernel_rfl) iF];kernel_rfl
end F
theorem tG{α:Type}:∀(l:List α)(i:Nat)(h:i<l.length),(l[i]::l.eraseIdx i).Perm l
 |y::l,0,_=> .refl _
 |y::l,i+1,h=>by
  have:=tG l i (by simpa using h)
  simp only [List.getElem_cons_succ,List.eraseIdx_cons_succ];exact (List.Perm.swap ..).trans (this.cons y)
theorem Ck{α:Type}(next:Nat→Nat):∀(fuel k:Nat)(left:List α)(out:Array α),left.length≤fuel→(pickOrder.go next fuel k left out).toList.Perm (out.toList++left)
 |0,k,left,out,h=>by
  have:left= []:=CZ.mp (by omega)
  subst this;simp [pickOrder.go]
 |fuel+1,k,[],out,h=>by
  simp [pickOrder.go]
 |fuel+1,k,y::left,out,h=>by
  have lt:next k%(y::left).length<(y::left).length:=jR _ (by simp)
  unfold pickOrder.go;rw [bz lt];dsimp only;refine (Ck next fuel (k+1) _ _ (by rw [List.length_eraseIdx_of_lt lt];simp at h ⊢;omega)).trans ?_
  rw [wJ,rF];refine List.Perm.append_left _ ?_;exact tG _ _ lt
def fj(w:World)(a:Addr)(ep:Nat)(es:Array (Int×Value)):Array (Int×Value):=if e9 w=true then pickOrder (w.params.setOrder a ep) es else es
theorem vH(w:World)(a:Addr)(ep:Nat)(es:Array (Int×Value)):(fj w a ep es).toList.Perm es.toList:=by
 unfold fj
 split
 ·unfold pickOrder
  simpa using Ck (w.params.setOrder a ep) es.size 0 es.toList #[] (by simp)
 ·exact .refl _
theorem je(w:World)(a:Addr)(ep:Nat)(es:Array (Int×Value)):(fj w a ep es).size=es.size:=by
 rw [←dZ,(vH w a ep es).length_eq,dZ]
def dN(w:World)(t:SetTable)(i:Nat):Nat:=if e9 w=true then 0 else if i=0 then 0 else t.place[i-1]! +1
section
variable {prog:Program} {w:World} {A:Around} {E:Value→Shared→Prop} {s:Shared}
theorem Bt{t:SetTable}{hs:List Int}(T:TOk t hs)(hb:e9 w=false){i:Nat}(hi:i≤hs.length):below t.place (dN w t i)=i:=by
 have sz:=T.size;obtain ⟨b1,b2,b3⟩:=hZ T.rise (dN w t i);unfold dN at*;rw [if_neg (by rw [hb];exact cW)] at*
 by_cases z:i=0
 ·rw [if_pos z] at*
  rcases Nat.eq_zero_or_pos (below t.place 0) with h|h
  ·rw [h,z]
  ·exact absurd (b2 0 h) (Nat.not_lt_zero _)
 ·rw [if_neg z] at*
  generalize below t.place (t.place[i-1]! +1)=b at*
  rcases Nat.lt_trichotomy b i with h|h|h
  ·have:=b3 (i-1) (by omega) (by omega)
   omega
  ·exact h
  ·have:=b2 i h
   have:=T.rise (i-1) i (by omega) (by omega)
   omega
theorem kI{a:Addr}{o:Obj}{es:Array (Int×Value)}{ep:Nat}{t:SetTable}{i:Nat}{Q:Option (Value×Nat)→Shared→Prop}(ho:s.heap.get? a=some o)(S:hU (e9 w) o es ep t)(hi:i≤es.size)
  (h:Q (((fj w a ep es)[i]?).map λe=>(e.2,dN w t (i+1))) s):wpAny (model prog w) A (setNext a (dN w t i) i ep) Q E s:=by
 have hd:=S.dat;have hf:=S.fits;unfold setNext;refine wpAny_bind (wpAny_setState_of ho hd hf ?_);dsimp only;unfold setsByText;refine wpAny_bind (wpAny_bind (wpAny_askSetting (wpAny_pure ?_)));cases hb:e9 w with
 |true=>
  refine wpAny_ite_true (decide_eq_true (show w.params.followText "set-order"=true from hb)) ?_;rw [if_neg (by simp)]
  unfold setWalk setsByText;refine wpAny_bind (wpAny_bind (wpAny_setState_of ho hd hf ?_));dsimp only;refine wpAny_bind (wpAny_bind (wpAny_askSetting (wpAny_pure ?_)));refine wpAny_ite_true (decide_eq_true (show w.params.followText "set-order"=true from hb)) ?_;refine wpAny_bind (wpAny_askSetting (wpAny_pure (wpAny_pure ?_)));unfold fj dN at h;rw [if_pos hb,if_pos hb] at h;unfold dN;rw [if_pos hb];exact h
 |false=>
  refine wpAny_ite_false (decide_eq_false (show ¬w.params.followText "set-order"=true from by rw [show w.params.followText "set-order"=false from hb];exact cW)) ?_
  refine wpAny_ite_false ?_ ?_
  ·refine decide_eq_false ?_
   show ¬((!t.plain&&decide (es.size>1))=true);rw [S.pl];simp
  refine wpAny_bind ?_;show wpAny _ _ (if (!t.led&& !es.isEmpty)=true then _ else _) _ _ _;rw [if_neg (by rw [S.ld,hb];simp)]
  refine wpAny_pure ?_;have bn:=Bt (w:=w) S.tok hb (i:=i) (by simpa using hi)
  rw [bn];refine wpAny_pure ?_;have sz:t.place.size=es.size:=by rw [S.tok.size];simp
  unfold fj at h;rw [if_neg (by rw [hb];exact cW)] at h
  by_cases lt:i<es.size
  ·have lp:i<t.place.size:=by omega
   rw [tR lt] at h ⊢;rw [tR lp];dsimp only
   have e:dN w t (i+1)=t.place[i]+1:=by
    unfold dN;rw [if_neg (by rw [hb];exact cW),if_neg (by omega)]
    simp [lp]
   rw [Option.map_some,e] at h;exact h
  ·rw [A7 (by omega)] at h ⊢
   exact h
end
def gU(w:World)(h:Heap)(I a:Addr)(t:SetTable)(i n ep:Nat):Prop:=
 ∃o,h.get? I=some o∧o.cls= .type "set_iterator"∧o.data= .fields #[.int (dN w t i:Nat) 0, .int i 0, .ref a, .int n 0, .int ep 0]
section
variable {prog:Program} {w:World} {A:Around} {E:Value→Shared→Prop} {s:Shared}
theorem gU.typeIs{I a:Addr}{t:SetTable}{i n ep:Nat}(x:gU w s.heap I a t i n ep):s.TypeIs (.ref I) "set_iterator":=let ⟨o,ho,hc,_⟩:=x;⟨o,ho,hc⟩
theorem rq{a:Addr}{o:Obj}{es:Array (Int×Value)}{ep:Nat}{t:SetTable}{Q:Value→Shared→Prop}(ho:s.heap.get? a=some o)(S:hU (e9 w) o es ep t)
  (hQ:Q (.ref s.heap.objs.size) {s with heap:=s.heap.push {cls:= .type "set_iterator",data:= .fields #[.int (dN w t 0:Nat) 0, .int (0:Nat) 0, .ref a, .int es.size 0, .int ep 0]}}):
  wpAny (model prog w) A (pyIter (.ref a)) Q E s:=by
 have hd:=S.dat;have hf:=S.fits;have hT:s.TypeIs (.ref a) "set":=⟨o,ho,S.ex.1⟩;refine wpAny_pyIter_slot hT F.slot_set_iter (wpAny_call_entry F.slot_set_iter hT F.t7 ?_ (F.args_set_iter_1 _));unfold Builtin.«frozenset.__iter__» Builtin.Frozenset.slot0 slotArgs;simp only [List.isEmpty_nil,Bool.not_true,mm, ↓reduceIte,bind_assoc,jr,bne_self_eq_false];unfold Builtin.Frozenset.addrOf Builtin.Frozenset.sizeOf;refine wpAny_bind (wpAny_pure ?_)
 try dsimp only
 refine wpAny_bind (wpAny_pure ?_);refine wpAny_bind (wpAny_bind (wpAny_setEntries_of ho hd hf (wpAny_pure ?_)));unfold setDrawn setsByText;refine wpAny_bind (wpAny_bind (wpAny_setState_of ho hd hf ?_));dsimp only;refine wpAny_bind (wpAny_bind (wpAny_askSetting (wpAny_pure ?_)));refine wpAny_pure ?_;refine wpAny_ite_false ?_ ?_
 ·refine decide_eq_false ?_
  show ¬((!w.params.followText "set-order"&&(!t.plain&&decide (es.size>1)))=true);rw [S.pl];simp
 refine wpAny_bind (wpAny_pure ?_);refine wpAny_bind ?_;unfold setEpoch;refine wpAny_bind (wpAny_setState_of ho hd hf (wpAny_pure ?_));refine wpAny_bind (wpAny_newObj_type (wpAny_pure ⟨_,rfl,"set_iterator",_,⟨_,Heap.get?_push_size _ rfl,rfl⟩,F.bG.lookup,?_⟩));have e:dN w t 0=0:=by unfold dN;simp
 rw [e] at hQ;exact hQ
theorem rz{I a:Addr}{o:Obj}{es:Array (Int×Value)}{ep:Nat}{t:SetTable}{i:Nat}{x:Int×Value}{Q:Option Value→Shared→Prop}(hit:gU w s.heap I a t i es.size ep)(ho:s.heap.get? a=some o)(S:hU (e9 w) o es ep t)
  (hx:(fj w a ep es)[i]? =some x) (hQ:∀h',gU w h' I a t (i+1) es.size ep→Heap.SameBut I s.heap h'→Q (some x.2) {s with heap:=h'}):wpAny (model prog w) A (pyNext (.ref I)) Q E s:=by
 obtain ⟨oi,GK,hc,hd⟩:=id hit
 have hi:i<es.size:=by
  have:=(CW.mp hx).1
  rwa [je] at this
 unfold pyNext
 refine wpAny_bind (wpAny_attempt (wpAny_callSpecial?_slot (name:=Str.ofString "__next__") hit.typeIs F.bG
  (wpAny_call_entry F.bG hit.typeIs F.fJ ?_ (F.fG _))))
 unfold Builtin.«set_iterator.__next__»;refine wpAny_bind (m:=slotArgs "__next__" 0 _) (wpAny_pure ?_);refine wpAny_bind (wpAny_fieldsOf GK hd ?_);dsimp only;refine wpAny_bind (wpAny_setEntries_of ho S.dat S.fits ?_);rw [if_neg (by simp)]
 refine wpAny_bind ?_;rw [sT,sT,sT];refine kI ho S (nT hi) ?_;rw [hx];dsimp only [Option.map_some];refine wpAny_bind (wpAny_setField GK hd (by simp) ?_)
 have mF:=Heap.get?_update_self (Obj.mapFields (·.setIfInBounds 0 (rawInt (dN w t (i+1):Nat)))) GK (Obj.isFreed_of_fields (Obj.data_mapFields hd _));have Pl:=Obj.data_mapFields hd (·.setIfInBounds 0 (rawInt (dN w t (i+1):Nat)));refine wpAny_bind (wpAny_setField mF Pl (by simp) ?_)
 have BR:=Heap.get?_update_self (Obj.mapFields (·.setIfInBounds 1 (rawInt ((i:Int)+1)))) mF (Obj.isFreed_of_fields (Obj.data_mapFields Pl _));refine wpAny_pure ⟨_,rfl,wpAny_pure (hQ _ ⟨_,BR,?_,?_⟩ ((Heap.SameBut.update ..).trans (Heap.SameBut.update ..)))⟩
 ·exact (Obj.cls_mapFields ..).trans ((Obj.cls_mapFields ..).trans hc)
 ·rw [Obj.data_mapFields Pl];simp [rawInt]
theorem mJ{I a:Addr}{o:Obj}{es:Array (Int×Value)}{ep:Nat}{t:SetTable}{Q:Option Value→Shared→Prop}(hh:A.handled=none)(hit:gU w s.heap I a t es.size es.size ep)(ho:s.heap.get? a=some o)(S:hU (e9 w) o es ep t)
  (hQ:∀h',Heap.ExtBut I s.heap h'→Q none {s with heap:=h'}):wpAny (model prog w) A (pyNext (.ref I)) Q E s:=by
 obtain ⟨oi,GK,hc,hd⟩:=id hit;unfold pyNext
 refine wpAny_bind (wpAny_attempt (wpAny_callSpecial?_slot (name:=Str.ofString "__next__") hit.typeIs F.bG
  (wpAny_call_entry F.bG hit.typeIs F.fJ ?_ (F.fG _))))
 unfold Builtin.«set_iterator.__next__»;refine wpAny_bind (m:=slotArgs "__next__" 0 _) (wpAny_pure ?_);refine wpAny_bind (wpAny_fieldsOf GK hd ?_);dsimp only;refine wpAny_bind (wpAny_setEntries_of ho S.dat S.fits ?_);rw [if_neg (by simp)]
 refine wpAny_bind ?_;rw [sT,sT,sT];refine kI ho S (bC _) ?_;rw [A7 (by rw [je];exact bC _)]
 dsimp only [Option.map_none];refine wpAny_bind (wpAny_setField GK hd (by simp) ?_)
 show wpAny _ _ (newExc (.type "StopIteration") []>>=_) _ _ _;refine wpAny_bind ?_;simp only [newExc,newTuple];refine wpAny_bind (wpAny_newObj_type ?_ (by size_fits))
 refine wpAny_bind (m:=firstArgMember _ _) (wpAny_of_eq (a:=Value.none) (by first|rfl| (simp only [firstArgMember];rfl)) ?_)
 refine wpAny_newObj_type ?_ (by size_fits)
 simp only [raiseNew];refine wpAny_bind (wpAny_handled ?_);rw [show A.in1.handled=none from hh];refine wpAny_bind (wpAny_pure (wpAny_throw ?_));refine wpAny_bind (wpAny_isInstance (T:="StopIteration") (b:=true) ⟨_,Heap.get?_push_size _ rfl,rfl⟩ isSubtype_stop ?_);exact wpAny_pure (hQ _ (((Heap.SameBut.update ..).extBut.push _).push _))
theorem Walks.sets(hh:A.handled=none)(I a:Addr)(zK:a≠I){o:Obj}{es:Array (Int×Value)}{ep:Nat}{t:SetTable}(S:hU (e9 w) o es ep t):
  Walks prog w A I [I,a] [I] es.size (λi v=>∃x,(fj w a ep es)[i]? =some x∧v=x.2) (λi h=>gU w h I a t i es.size ep∧h.get? a=some o) where
 sub:=λb hb=>by simp at hb;simp [hb]
 frame:=λi h h' st hk=>⟨let ⟨oi,ho,r⟩:=st.1;⟨oi,hk I (by simp) _ ho,r⟩,hk a (by simp) _ st.2⟩
 item:=λi s Q E hi st hQ=>by
  have hx:(fj w a ep es)[i]? =some ((fj w a ep es)[i]'(by rw [je];exact hi)):=tR _
  refine rz st.1 st.2 S hx λh' Jf eQ=>?_;exact hQ _ h' s.toks ⟨_,hx,rfl⟩ ⟨Jf,(eQ.2 a zK).trans st.2⟩ λb o hb e=>eQ.extBut b o (λh=>hb (by simp [h])) e
 done:=λs Q E st hQ=>mJ hh st.1 st.2 S λh' Pn=>hQ h' s.toks λb o hb e=>Pn b o (λh=>hb (by simp [h])) e
 self:=λi s Q E st hQ=>by
  refine wpAny_pyIter_slot st.1.typeIs F.fX (wpAny_call_entry F.fX st.1.typeIs F.jT ?_ (F.js _));unfold Builtin.«dict_keyiterator.__iter__»;refine wpAny_bind (m:=slotArgs "__iter__" 0 _) (wpAny_pure ?_);exact wpAny_pure ⟨_,rfl,"set_iterator",_,st.1.typeIs,F.bG.lookup,hQ⟩
end
section
variable {prog:Program} {w:World} {A:Around} {E:Value→Shared→Prop} {s:Shared}
theorem qh{a:Addr}{o:Obj}{es:Array (Int×Value)}{ep:Nat}{t:SetTable}{Q:List Value→Shared→Prop}(hh:A.handled=none)(ho:s.heap.get? a=some o)(S:hU (e9 w) o es ep t)
  (hQ:∀h' tk,s.heap.objs.size<h'.objs.size→(∀b o,s.heap.get? b=some o→h'.get? b=some o)→Q ((fj w a ep es).toList.map (·.2)) {s with heap:=h',toks:=tk}) (hn:es.size≤sizeLine:=by size_fits):
  wpAny (model prog w) A (collect (.ref a)) Q E s:=by
 have ha:a<s.heap.objs.size:=Heap.lt_size ho;unfold collect;refine wpAny_bind (wpAny_runValue (codeAny_builtin F.entry_proto_collect ?_));rw [Around.under_plainId F.plain_proto_collect _];show wpAny _ A.in1 (newList []>>=λl=>again (.builtin "list.__iadd__" ⟨[l, .ref a],[]⟩)) _ _ s;refine wpAny_bind (wpAny_newObj_type ?_);refine wpAny_pure ⟨plainId_quiet F.plain_list_iadd _,codeAny_builtin F.entry_list_iadd ?_⟩;rw [Around.under_plainId F.plain_list_iadd _];have mF:(s.heap.push {cls:= .type "list",data:= .seq ([]:List Value).toArray}).get? a=some o:=Heap.get?_push_of_some _ ho;show wpAny _ A.in1 (Builtin.List.listExtendWith (.ref s.heap.objs.size) (.ref a) (.ref s.heap.objs.size)) _ _ {s with heap:=s.heap.push {cls:= .type "list",data:= .seq ([]:List Value).toArray}}
 unfold Builtin.List.listExtendWith;have hT:Shared.TypeIs {s with heap:=s.heap.push {cls:= .type "list",data:= .seq ([]:List Value).toArray}} (.ref a) "set":=⟨o,mF,S.ex.1⟩
 refine wpAny_bind (wpAny_typeOf hT ?_);have h1:Builtin.List.listSameRef (.ref s.heap.objs.size) (.ref a)=false:=by simp [Builtin.List.listSameRef,Nat.ne_of_gt ha]
 have h2:(Value.type "set"==Value.type "list")=false:=by decide
 have h3:(Value.type "set"==Value.type "tuple")=false:=by decide
 simp only [h1,h2,h3,Bool.or_false,mm,if_false];refine wpAny_bind (rq mF S ?_);generalize hI:(s.heap.push {cls:= .type "list",data:= .seq ([]:List Value).toArray}).objs.size=I;have Pa:I=s.heap.objs.size+1:=by rw [←hI,size_push']
 have Ym:a≠I:=by rw [Pa];exact bV (wK ha)
 have LB:s.heap.objs.size≠I:=by rw [Pa];exact bV (wy _)
 have SQ:s.heap.objs.size≠a:=Nat.ne_of_gt ha;have Pd:((s.heap.push {cls:= .type "list",data:= .seq ([]:List Value).toArray}).push {cls:= .type "set_iterator",data:= .fields #[.int (dN w t 0:Nat) 0, .int (0:Nat) 0, .ref a, .int es.size 0, .int ep 0]}).get? s.heap.objs.size=some {cls:= .type "list",data:= .seq ([]:List Value).toArray}:=Heap.get?_push_of_some _ (Heap.get?_push_size _ rfl);have Gy:((s.heap.push {cls:= .type "list",data:= .seq ([]:List Value).toArray}).push {cls:= .type "set_iterator",data:= .fields #[.int (dN w t 0:Nat) 0, .int (0:Nat) 0, .ref a, .int es.size 0, .int ep 0]}).get? I=some {cls:= .type "set_iterator",data:= .fields #[.int (dN w t 0:Nat) 0, .int (0:Nat) 0, .ref a, .int es.size 0, .int ep 0]}:=by rw [←hI];exact Heap.get?_push_size _ rfl
 have Pg:((s.heap.push {cls:= .type "list",data:= .seq ([]:List Value).toArray}).push {cls:= .type "set_iterator",data:= .fields #[.int (dN w t 0:Nat) 0, .int (0:Nat) 0, .ref a, .int es.size 0, .int ep 0]}).get? a=some o:=Heap.get?_push_of_some _ mF;have NP:∀b o,s.heap.get? b=some o→((s.heap.push {cls:= .type "list",data:= .seq ([]:List Value).toArray}).push {cls:= .type "set_iterator",data:= .fields #[.int (dN w t 0:Nat) 0, .int (0:Nat) 0, .ref a, .int es.size 0, .int ep 0]}).get? b=some o:=λb o e=>Heap.get?_push_of_some _ (Heap.get?_push_of_some _ e);generalize ((s.heap.push {cls:= .type "list",data:= .seq ([]:List Value).toArray}).push {cls:= .type "set_iterator",data:= .fields #[.int (dN w t 0:Nat) 0, .int (0:Nat) 0, .ref a, .int es.size 0, .int ep 0]})=h2 at Pd Gy Pg NP ⊢;have Pf:Shared.TypeIs {s with heap:=h2} (.ref a) "set":=⟨o,Pg,S.ex.1⟩
 refine wpAny_bind (wpAny_holding ?_);unfold Builtin.List.listLengthHint;refine wpAny_bind (wpAny_specialOf Pf F.slot_set_len.lookup ?_)
 (generalize GF:("set.__len__":String)=LL;(fail_if_success (clear GF LL));wp_delta;rw [show splitId LL=some ("set","__len__") from by subst GF;decide+kernel];subst GF)
 refine wpAny_bind (wpAny_isInstance (b:=true) Pf sub_set_self ?_);dsimp only;refine wpAny_ite_false (by decide) ?_
 refine wpAny_ite_true (by decide+kernel) ?_
 refine wpAny_bind (wpAny_typeOf Pf ?_);refine wpAny_pure ?_;refine wpAny_ite_true (by decide+kernel) ?_
 refine wpAny_bind (wpAny_rule ?_);refine wpAny_bind ?_;show wpAny _ A.in1 (updateSeq s.heap.objs.size (·.push .none)>>=λ_=>updateSeq s.heap.objs.size (·.pop)) _ _ _;refine wpAny_bind (wpAny_updateSeq Pd rfl ?_);have zB:=Heap.get?_update_self (Obj.mapSeq (·.push Value.none)) Pd rfl;refine wpAny_updateSeq zB rfl ?_;have Pe:=Heap.get?_update_self (Obj.mapSeq (·.pop)) zB rfl
 have Hc:∀b o,b≠s.heap.objs.size→h2.get? b=some o→
   ((h2.update s.heap.objs.size (Obj.mapSeq (·.push Value.none))).update s.heap.objs.size (Obj.mapSeq (·.pop))).get? b=some o:=
  λb o hb e=>(Heap.get?_update_other _ _ (Ne.symm hb)).trans ((Heap.get?_update_other _ _ (Ne.symm hb)).trans e)
 have W:=(Walks.sets (prog:=prog) (A:=A.in1) hh I a Ym S).toS;have ne1:s.heap.objs.size∉ [I,a]:=by simp [LB,SQ]
 refine wpAny_pure ⟨plainId_quiet F.plain_extend_loop _,codeAny_extend_loopS W hn _ ne1 _ es.size 0 _ _ _ rfl (cH _)
  ⟨⟨_,Hc _ _ (Ne.symm LB) Gy,rfl,rfl⟩,Hc _ _ (Ne.symm SQ) Pg⟩ Pe (ItemsOf.nil _) λs' cm c' hm zA qC=>?_⟩
 show wpAny _ A (load s.heap.objs.size>>=_) _ _ s';refine wpAny_bind (wpAny_load zA ?_)
 have jU:s'={s with heap:=s'.heap,toks:=s'.toks}:=by
  obtain ⟨jV,g',d',tk',Qa⟩:=s';obtain ⟨_,hg,hd,zM,_⟩:=hm;have hg:g'=s.gens:=hg;have hd:d'=s.drawn:=hd;have zM:Qa=s.os:=zM;subst hg hd zM;rfl
 have ea:cm.toList=(fj w a ep es).toList.map (·.2):=by
  refine wu λj=>?_;rw [gJ,e7,gJ];have sz:cm.size=(fj w a ep es).size:=by rw [qC.1,je]
  by_cases lt:j<cm.size
  ·obtain ⟨x,hx,hv⟩:=qC.2 j cm[j] (tR lt)
   rw [hx,tR lt,hv];rfl
  ·rw [A7 (by omega),A7 (by omega)];rfl
 rw [jU];show wpAny _ _ (pure cm.toList) Q E _;rw [ea];refine wpAny_pure (hQ _ _ (Heap.lt_size zA) λb o e=>?_);have hb:=Heap.lt_size e;have b1:b≠s.heap.objs.size:=bV hb;have b2:b≠I:=by rw [Pa];exact bV (wK hb)
 exact hm.heap b o (by simp [b1,b2]) (Hc b o b1 (NP b o e))
theorem vd{vs us:List Value}(p:us.Perm vs):∀{ns:List Int},IntsAre vs ns→∃ms,IntsAre us ms∧ms.Perm ns:=by
 induction p with
 |nil=>intro ns h;exact ⟨ns,h, .refl _⟩
 |cons x _ ih=>
  intro ns h;cases h with
  |cons n t h=>
   obtain ⟨ms,a,b⟩:=ih h;exact ⟨n::ms, .cons n t a,b.cons n⟩
 |swap x y l=>
  intro ns h;cases h with
  |cons n t h=>
   cases h with
   |cons m u h=>exact ⟨_, .cons m u (.cons n t h), .swap ..⟩
 |trans _ _ Y3 Y4=>
  intro ns h;obtain ⟨ms,a,b⟩:=Y4 h;obtain ⟨ls,c,d⟩:=Y3 a;exact ⟨ls,c,d.trans b⟩
theorem CF{a:Addr}{o:Obj}{es:Array (Int×Value)}{ep:Nat}{t:SetTable}{ns:List Int}{Q:Value→Shared→Prop}(hh:A.handled=none)(ho:s.heap.get? a=some o)(S:hU (e9 w) o es ep t)(hI:IntsAre (es.toList.map (·.2)) ns)(Yi:es.size<64)
  (h:∀h' tk q (out:Array Value) (e:Nat) (ms:List Int),(∀b o,s.heap.get? b=some o→h'.get? b=some o)→s.heap.objs.size≤q→h'.get? q=some {cls:= .type "list",data:= .seq out e}→IntsAre out.toList ms→ms.Perm ns→ms.Pairwise (·≤·)→Q (.ref q) {s with heap:=h',toks:=tk}):
  wpAny (model prog w) A (call (.builtin "sorted") [.ref a]) Q E s:=by
 have pm:=(vH w a ep es).map (λe:Int×Value=>e.2);obtain ⟨PZ,i1,i2⟩:∃PZ,IntsAre ((fj w a ep es).toList.map (·.2)) PZ∧PZ.Perm ns:=vd pm hI;have sz:((fj w a ep es).toList.map (·.2)).length=es.size:=by rw [aI,dZ,je]
 refine Calls.call_function_entry kind_sorted plain_sorted entry_sorted (args_sorted1 _) ?_;unfold Builtin.«sorted»;refine wpAny_bind (m:=checkCount "sorted" 1 1 _) (wpAny_pure ?_);have line:64≤sizeLine:=by decide
 refine wpAny_bind (qh hh ho S (λh1 QF mG Vc=>?_) (by omega))
 refine wpAny_bind (wpAny_newList ?_ (by rw [sz];omega))
 have BS:(h1.push (seqObj "list" ((fj w a ep es).toList.map (·.2)).toArray 0)).get? h1.objs.size=some (seqObj "list" ((fj w a ep es).toList.map (·.2)).toArray 0):=Heap.get?_push_size _ rfl;refine wpAny_bind (wpAny_holding (wpAny_call_entry slot_list_sort ⟨_,BS,rfl⟩ entry_list_sort (list_sort_tree BS i1 (by rw [sz];exact Yi) λout ms a1 a2 a3=>⟨_,rfl,?_⟩) (args_list_sort _)))
 obtain ⟨e1,mF⟩:∃e1,((h1.push (seqObj "list" ((fj w a ep es).toList.map (·.2)).toArray 0)).update h1.objs.size (Obj.mapSeq λ_=> #[])).get? h1.objs.size=some (seqObj "list" #[] e1):=⟨_,get?_update_seq BS (λ_=> #[])⟩;have fb:((h1.push (seqObj "list" ((fj w a ep es).toList.map (·.2)).toArray 0)).update h1.objs.size (Obj.mapSeq λ_=> #[])).objs.size=h1.objs.size+1:=by rw [Heap.size_update,size_push']
 have DV:((((h1.push (seqObj "list" ((fj w a ep es).toList.map (·.2)).toArray 0)).update h1.objs.size (Obj.mapSeq λ_=> #[])).push (seqObj "tuple" ((fj w a ep es).toList.map (·.2)).toArray 0)).push (seqObj "list" #[] 0)).get? h1.objs.size=some (seqObj "list" #[] e1):=
  Heap.get?_push_of_some _ (Heap.get?_push_of_some _ mF)
 have S8:=get?_update_seq DV (λ_=>out);refine wpAny_pure ⟨_,rfl,h _ _ h1.objs.size out _ ms (λb o e=>?_) (nT mG) S8 a1 (a2.trans i2) a3⟩;have eb:=Vc b o e;have nb:b≠h1.objs.size:=bV (Heap.lt_size eb);show ((((((h1.push (seqObj "list" ((fj w a ep es).toList.map (·.2)).toArray 0)).update h1.objs.size (Obj.mapSeq λ_=> #[])).push (seqObj "tuple" ((fj w a ep es).toList.map (·.2)).toArray 0)).push (seqObj "list" #[] 0)).update h1.objs.size (Obj.mapSeq λ_=>out))).get? b=some o;rw [Heap.get?_update_ne _ _ _ _ nb];refine Heap.get?_push_of_some _ (Heap.get?_push_of_some _ ?_);rw [Heap.get?_update_ne _ _ _ _ nb];exact Heap.get?_push_of_some _ eb
end
end PySem
set_option maxHeartbeats 4000000
namespace L2
open PySem PySem.Spec PyProof.Rows
inductive D where
 |bo|bl (b:Bool) |int (i:Int) |str (x:Str) |lst (l:List D) |tup (l:List D) |kH (ns:List Int) |rng (lo hi:Int) |obj (a:Addr) |fo (w:List (List Nat)) |set (b:Bool) (l:List Int)
structure DC where
 K:PySem.W.Frag
 C:Addr
def ae(n:Nat):D:= .int n
def aq(r:List Nat):D:= .lst (r.map ae)
def aN(w:List (List Nat)):D:= .lst (w.map aq)
def sZ(es:Array (Int×Value))(ns:List Int):Prop:=(∀e∈es.toList,∃k t,e=(hashInt k,Value.int k t))∧ns.Nodup∧∃ms,IntsAre (es.toList.map (·.2)) ms∧ms.Perm ns
def fF(b:Bool)(a:Addr)(ns:List Int)(h:Heap):Prop:=∃o es ep t,h.get? a=some o∧hU b o es ep t∧sZ es ns
mutual
inductive Dv (Z:DC) (H:Hp):V→D→Prop
 |bo:Dv Z H .bo .bo
 |bl (b:Bool):Dv Z H (.bl b) (.bl b)
 |int (i:Int):Dv Z H (.int i) (.int i)
 |str (x:Str) (h:PyData.strOk x=true):Dv Z H (.str x) (.str x)
 |lst {a:Addr} {xs:List V} {ds:List D}:H a=some (.lst xs)→av Z H xs ds→Dv Z H (.ref a) (.lst ds)
 |tup {a:Addr} {xs:List V} {ds:List D}:H a=some (.tup xs)→av Z H xs ds→Dv Z H (.ref a) (.tup ds)
 |obj (a:Addr):Dv Z H (.ref a) (.obj a)
 |rng {a:Addr} {lo hi:Int}:H a=some (.rng lo hi)→Dv Z H (.ref a) (.rng lo hi)
 |kH {a:Addr} {ns:List Int}:cQ Z.K H a (ns.map V.int)→ns.length≤63→Dv Z H (.ref a) (.kH ns)
 |fo {p dx R:Addr} {w:List (List Nat)}:H p=some (.ins Z.C dx [("rows", .ref R)])→Dv Z H (.ref R) (aN w)→Wb.Good w→1≤w.length→w.length≤14→Dv Z H (.ref p) (.fo w)
 |set {a:Addr} {b:Bool} {ns:List Int}:H a=some (.ext (fF b a ns))→Dv Z H (.ref a) (.set b ns)
inductive av (Z:DC) (H:Hp):List V→List D→Prop
 |nil:av Z H [] []
 |cons {v:V} {vs:List V} {d:D} {ds:List D}:Dv Z H v d→av Z H vs ds→av Z H (v::vs) (d::ds)
end
theorem cQ.mono{K:PySem.W.Frag}{H H':Hp}{a:Addr}{xs:List V}(s:aK H H')(h:cQ K H a xs):cQ K H' a xs:=by
 rcases h with (h| ⟨o,h⟩) |h
 ·exact .inl (.inl (s _ _ h))
 ·exact .inl (.inr ⟨o,s _ _ h⟩)
 ·exact .inr h
section
variable {Z:DC} {H H' G G':Hp}
theorem Dv.ofInt{v:V}{i:Int}(h:Dv Z H v (.int i)):v= .int i:=by cases h;rfl
theorem Dv.lj{v:V}{ds:List D}(h:Dv Z H v (.lst ds)):∃a xs,v= .ref a∧H a=some (.lst xs)∧av Z H xs ds:=by cases h with|lst h e=>exact ⟨_,_,rfl,h,e⟩
theorem Dv.vz{v:V}{ds:List D}(h:Dv Z H v (.tup ds)):∃a xs,v= .ref a∧H a=some (.tup xs)∧av Z H xs ds:=by cases h with|tup h e=>exact ⟨_,_,rfl,h,e⟩
theorem Dv.JQ{v:V}{ns:List Int}(h:Dv Z H v (.kH ns)):∃a,v= .ref a∧cQ Z.K H a (ns.map V.int)∧ns.length≤63:=by cases h with|kH h z=>exact ⟨_,rfl,h,z⟩
theorem av.P0{vs:List V}(h:av Z H vs []):vs= []:=by cases h;rfl
theorem av.FH{vs:List V}{d:D}{ds:List D}(h:av Z H vs (d::ds)):∃v us,vs=v::us∧Dv Z H v d∧av Z H us ds:=by cases h with|cons a b=>exact ⟨_,_,rfl,a,b⟩
theorem av.ofOne{vs:List V}{d:D}(h:av Z H vs [d]):∃v,vs= [v]∧Dv Z H v d:=by
 obtain ⟨v,us,rfl,a,b⟩:=h.FH;rw [b.P0];exact ⟨v,rfl,a⟩
theorem av.JR{vs:List V}{d e:D}(h:av Z H vs [d,e]):∃v u,vs= [v,u]∧Dv Z H v d∧Dv Z H u e:=by
 obtain ⟨v,us,rfl,a,b⟩:=h.FH;obtain ⟨u,rfl,c⟩:=b.ofOne;exact ⟨v,u,rfl,a,c⟩
mutual
theorem Dv.mono(s:aK H H'):∀{v:V}{d:D},Dv Z H v d→Dv Z H' v d
 |_,_, .bo=> .bo
 |_,_, .bl b=> .bl b
 |_,_, .int i=> .int i
 |_,_, .str x h=> .str x h
 |_,_, .lst h a=> .lst (s _ _ h) (av.mono s a)
 |_,_, .tup h a=> .tup (s _ _ h) (av.mono s a)
 |_,_, .obj a=> .obj a
 |_,_, .rng h=> .rng (s _ _ h)
 |_,_, .kH h z=> .kH (h.mono s) z
 |_,_, .fo h r g a b=> .fo (s _ _ h) (Dv.mono s r) g a b
 |_,_, .set h=> .set (s _ _ h)
theorem av.mono(s:aK H H'):∀{vs:List V}{ds:List D},av Z H vs ds→av Z H' vs ds
 |_,_, .nil=> .nil
 |_,_, .cons a as=> .cons (Dv.mono s a) (av.mono s as)
end
theorem av.length:∀{vs:List V}{ds:List D},av Z H vs ds→vs.length=ds.length
 |_,_, .nil=>rfl
 |_,_, .cons _ as=>congrArg (·+1) as.length
theorem av.get:∀{vs:List V}{ds:List D}{i:Nat}{d:D},av Z H vs ds→ds[i]? =some d→∃v,vs[i]? =some v∧Dv Z H v d
 |_,_,_,_, .nil,e=>by simp at e
 |_,_,0,_, .cons a as,e=>by simp at e;subst e;exact ⟨_,rfl,a⟩
 |_,_,i+1,d, .cons a as,e=>by
  obtain ⟨v,h1,h2⟩:=av.get (i:=i) (d:=d) as (by simpa using e)
  exact ⟨v,by simpa using h1,h2⟩
theorem av.Fv:∀{vs:List V}{ds:List D}{i:Nat}{v:V},av Z H vs ds→vs[i]? =some v→∃d,ds[i]? =some d∧Dv Z H v d
 |_,_,_,_, .nil,e=>by simp at e
 |_,_,0,_, .cons a as,e=>by simp at e;subst e;exact ⟨_,rfl,a⟩
 |_,_,i+1,d, .cons a as,e=>by
  obtain ⟨v,h1,h2⟩:=av.Fv (i:=i) (v:=d) as (by simpa using e)
  exact ⟨v,by simpa using h1,h2⟩
theorem av.append:∀{vs us:List V}{ds es:List D},av Z H vs ds→av Z H us es→av Z H (vs++us) (ds++es)
 |_,_,_,_, .nil,b=>b
 |_,_,_,_, .cons a as,b=> .cons a (as.append b)
theorem av.take:∀{vs:List V}{ds:List D}(n:Nat),av Z H vs ds→av Z H (vs.take n) (ds.take n)
 |_,_,0,_=>by simpa using av.nil
 |_,_,n+1, .nil=>by simpa using av.nil
 |_,_,n+1, .cons a as=>by simpa using av.cons a (as.take n)
theorem av.drop:∀{vs:List V}{ds:List D}(n:Nat),av Z H vs ds→av Z H (vs.drop n) (ds.drop n)
 |_,_,0,h=>h
 |_,_,n+1, .nil=>by simpa using av.nil
 |_,_,n+1, .cons a as=>by simpa using as.drop n
theorem av.set{v:V}{d:D}(h:Dv Z H v d):∀{vs:List V}{ds:List D}(n:Nat),av Z H vs ds→av Z H (vs.set n v) (ds.set n d)
 |_,_,_, .nil=> .nil
 |_,_,0, .cons a as=> .cons h as
 |_,_,n+1, .cons a as=> .cons a (av.set h n as)
theorem av.rev:∀{vs:List V}{ds:List D},av Z H vs ds→av Z H vs.reverse ds.reverse
 |_,_, .nil=> .nil
 |_,_, .cons a as=>by
  rw [List.reverse_cons,List.reverse_cons];exact as.rev.append (.cons a .nil)
theorem av.ints:∀(ns:List Int),av Z H (ns.map V.int) (ns.map D.int)
 | []=> .nil
 |n::ns=> .cons (.int n) (av.ints ns)
theorem av.snoc{vs:List V}{ds:List D}{v:V}{d:D}(a:av Z H vs ds)(b:Dv Z H v d):av Z H (vs++ [v]) (ds++ [d]):=a.append (.cons b .nil)
structure Ext (G H G' H':Hp):Prop where
 gg:aK G G'
 sub:aK G' H'
 hh:aK H H'
 off:∀b,H b≠none→G b=none→G' b=none
theorem Ext.refl(s:aK G H):Ext G H G H:=⟨.refl _,s, .refl _,λ_ _ h=>h⟩
theorem Ext.trans{G1 H1 G2 H2:Hp}(a:Ext G H G1 H1)(b:Ext G1 H1 G2 H2):Ext G H G2 H2:=
 ⟨a.gg.trans b.gg,b.sub,a.hh.trans b.hh,λx h g=>b.off x (λz=>by
  cases e:H x with
  |none=>exact h e
  |some o=>rw [a.hh x o e] at z;cases z) (a.off x h g)⟩
theorem Ext.new{p:Addr}{o:HO}(s:aK G H)(h:H p=none):Ext G H (upd G p o) (upd H p o):=by
 have hg:G p=none:=s.free h;refine ⟨aV hg o,λb u e=>?_,aV h o,λb hb hg=>?_⟩
 ·by_cases z:b=p
  ·subst z;rw [aC] at e ⊢;exact e
  ·rw [aG z] at e ⊢;exact s b u e
 ·have:b≠p:=λz=>hb (by rw [z];exact h)
  rw [aG this];exact hg
end
abbrev DN:=List (Option D)
structure dq (Z:DC) (G:Hp) (σ:St) (ρ:DN):Prop where
 len:ρ.length=σ.length
 at_:∀(i:Nat)(d:D),ρ[i]? =some (some d)→∃v,σ[i]? =some (some v)∧Dv Z G v d
section
variable {Z:DC} {G G' H H':Hp} {σ:St} {ρ:DN}
theorem dq.mono(e:dq Z G σ ρ)(s:aK G G'):dq Z G' σ ρ:=⟨e.len,λi d h=>let ⟨v,a,b⟩:=e.at_ i d h;⟨v,a,b.mono s⟩⟩
theorem dq.set{i:Nat}{v:V}{d:D}(e:dq Z G σ ρ)(h:Dv Z G v d):dq Z G (σ.set i (some v)) (ρ.set i (some d)):=by
 refine ⟨by rw [mn,mn];exact e.len,λj c hj=>?_⟩
 by_cases z:i=j
 ·subst z
  by_cases hi:i<ρ.length
  ·rw [rE hi] at hj
   cases hj;exact ⟨v,by rw [rE (by rw [←e.len];exact hi)],h⟩
  ·rw [A5 (pA hi)] at hj
   rw [mh (pA hi)] at hj;cases hj
 ·rw [y8 z] at hj ⊢
  exact e.at_ j c hj
end
abbrev br:=DN→(D→Prop)→Prop
abbrev dE:=DN→(Bool→Prop)→Prop
abbrev iY:=DN→(List D→Prop)→Prop
abbrev gh:=D→D→(D→Prop)→Prop
abbrev dR:=D→DN→(DN→Prop)→Prop
abbrev hJ:=DN→(List D→Prop)→Prop
def dJ(Z:DC)(t:br):TE:=λσ H Q=>∃(G:Hp)(ρ:DN)(P:D→Prop),aK G H∧dq Z G σ ρ∧t ρ P∧∀d,P d→∀v G' H',Ext G H G' H'→Dv Z G' v d→Q v H'
def liftT(Z:DC)(t:dE):TT:=λσ H Q=>∃(G:Hp)(ρ:DN)(P:Bool→Prop),aK G H∧dq Z G σ ρ∧t ρ P∧∀b,P b→∀G' H',Ext G H G' H'→Q b H'
def Ed(Z:DC)(t:iY):TA:=λσ H Q=>∃(G:Hp)(ρ:DN)(P:List D→Prop),aK G H∧dq Z G σ ρ∧t ρ P∧∀ds,P ds→∀vs G' H',Ext G H G' H'→av Z G' vs ds→Q vs H'
def bW(Z:DC)(r:gh):R2:=λx y H Q=>∃(G:Hp)(a b:D)(P:D→Prop),aK G H∧Dv Z G x a∧Dv Z G y b∧r a b P∧∀d,P d→∀v G' H',Ext G H G' H'→Dv Z G' v d→Q v H'
def iz(Z:DC)(r:List D→(D→Prop)→Prop):List V→Hp→VK→Prop:=λvs H Q=>∃(G:Hp)(ds:List D)(P:D→Prop),aK G H∧av Z G vs ds∧r ds P∧∀d,P d→∀v G' H',Ext G H G' H'→Dv Z G' v d→Q v H'
abbrev dD:=List D→(D→Prop)→Prop
def aT(Z:DC)(sd:dD):Sp:=λvs H Q _=>iz Z sd vs H Q
def DE(Z:DC)(X:Cx)(e:Expr)(t:br):Prop:=PE X e (dJ Z t)
def DT(Z:DC)(X:Cx)(e:Expr)(t:dE):Prop:=PT X e (liftT Z t)
def DA(Z:DC)(X:Cx)(es:List Expr)(t:iY):Prop:=PA X es (Ed Z t)
theorem PE.imp{X:Cx}{e:Expr}{t t':TE}(h:PE X e t)(f:∀σ H Q,t' σ H Q→t σ H Q):PE X e t':=λpins s σ H Q I q=>h pins s σ H Q I (f _ _ _ q)
theorem PT.imp{X:Cx}{e:Expr}{t t':TT}(h:PT X e t)(f:∀σ H Q,t' σ H Q→t σ H Q):PT X e t':=λpins s σ H Q I q=>h pins s σ H Q I (f _ _ _ q)
theorem PW.imp{X:Cx}{e:Expr}{t t':TT}(h:PW X e t)(f:∀σ H Q,t' σ H Q→t σ H Q):PW X e t':=λwh pins s σ H Q I q=>h wh pins s σ H Q I (f _ _ _ q)
theorem PA.imp{X:Cx}{es:List Expr}{t t':TA}(h:PA X es t)(f:∀σ H Q,t' σ H Q→t σ H Q):PA X es t':=λpos pins s σ H Q I q=>h pos pins s σ H Q I (f _ _ _ q)
theorem OpR.imp{X:Cx}{f:Value→Value→Sem Value}{r r':R2}(h:OpR X f r)(g:∀x y H Q,r' x y H Q→r x y H Q):OpR X f r':=λpins s σ H x y v u Q I a b q=>h pins s σ H x y v u Q I a b (g _ _ _ _ q)
theorem cP.imp{X:Cx}{f:Value}{r r':List V→Hp→VK→Prop}(h:cP X f r)(g:∀xs H Q,r' xs H Q→r xs H Q):cP X f r':=λpins s σ H xs us Q I a q=>h pins s σ H xs us Q I a (g _ _ _ q)
def Nu(i:Nat):br:=λρ P=>∃d,ρ[i]? =some (some d)∧P d
def dC(d:D):br:=λ_ P=>P d
section
variable {Z:DC} {X:Cx}
theorem aa(i:Nat){x:Str}{pos:Pos}(hN:X.N[i]? =some x:=by rfl)(hv:uE X.env.scope x:=by first|exact Or.inl rfl|exact Or.inr (Or.inl rfl) |exact Or.inr (Or.inr rfl))(hd:(x==("__debug__":Str))=false:=by decide)
  (gY:(x==("__classdict__":Str))=false:=by decide):DE Z X (.Name x pos) (Nu i):=
 (FN hN hv hd gY).imp λσ H Q ⟨G,ρ,P,s,e,⟨d,hd,p⟩,q⟩=>let ⟨v,hv,dv⟩:=e.at_ i d hd;⟨v,hv,q d p v G H (.refl s) dv⟩
theorem aw{i j pos}:DE Z X (.Constant (.int i) j pos) (dC (.int i)):=Mq.imp λσ H Q ⟨G,ρ,P,s,e,p,q⟩=>q _ p _ G H (.refl s) (.int i)
theorem mT{b j pos}:DE Z X (.Constant (.bool b) j pos) (dC (.bl b)):=Qb.imp λσ H Q ⟨G,ρ,P,s,e,p,q⟩=>q _ p _ G H (.refl s) (.bl b)
theorem fO{j pos}:DE Z X (.Constant .none j pos) (dC .bo):=Ms.imp λσ H Q ⟨G,ρ,P,s,e,p,q⟩=>q _ p _ G H (.refl s) .bo
theorem qq{x j pos}(h:PyData.strOk x=true:=by decide+kernel):DE Z X (.Constant (.str x) j pos) (dC (.str x)):=Mv.imp λσ H Q ⟨G,ρ,P,s,e,p,q⟩=>q _ p _ G H (.refl s) (.str x h)
theorem Gp{x:Str}{i:Int}{pos:Pos}(hg:Gl X x)(hm:∃tk,X.mg x=some (.int i tk))(hd:(x==("__debug__":Str))=false:=by decide):DE Z X (.Name x pos) (dC (.int i)):=by
 obtain ⟨tk,hm⟩:=hm;exact (JZ hg hm (v:= .int i) ⟨tk,rfl⟩ hd).imp λσ H Q ⟨G,ρ,P,s,e,p,q⟩=>q _ p _ G H (.refl s) (.int i)
def Gk(r:gh)(ta tb:br):br:=λρ P=>ta ρ λa=>tb ρ λb=>r a b P
variable {a b c:Expr} {ta tb tc:br} {pos:Pos}
theorem zS{r:gh}:∀σ H Q,dJ Z (Gk r ta tb) σ H Q→KQ (bW Z r) (dJ Z ta) (dJ Z tb) σ H Q:=by
 rintro σ H Q ⟨G,ρ,P,s,e,h,q⟩;refine ⟨G,ρ,_,s,e,h,λa ha v G1 H1 x1 dv=>?_⟩;refine ⟨G1,ρ,_,x1.sub,e.mono x1.gg,ha,λb hb u G2 H2 x2 du=>?_⟩;exact ⟨G2,a,b,P,x2.sub,dv.mono x2.gg,du,hb,λd hd v' G' H' x3 zv=>q d hd v' G' H' ((x1.trans x2).trans x3) zv⟩
theorem aA{op:Operator}{r:gh}(ho:OpR X (binaryOp op) (bW Z r))(ha:DE Z X a ta)(hb:DE Z X b tb):DE Z X (.BinOp a op b pos) (Gk r ta tb):=(J3 ho ha hb).imp zS
theorem Fi{op:CmpOp}{r:gh}(ho:OpR X (compareOp op) (bW Z r))(ha:DE Z X a ta)(hb:DE Z X b tb)(hm:behindInMarks op b=false):DE Z X (.Compare a [op] [b] pos) (Gk r ta tb):=(JY ho ha hb hm).imp zS
def zp(t:br):dE:=λρ P=>t ρ λd=>∃k,d= .bl k∧P k
theorem xV{t:br}:∀σ H Q,liftT Z (zp t) σ H Q→EU (dJ Z t) σ H Q:=by
 rintro σ H Q ⟨G,ρ,P,s,e,h,q⟩;refine ⟨G,ρ,_,s,e,h,?_⟩;rintro _ ⟨k,rfl,p⟩ v G1 H1 x1 dv;cases dv;exact ⟨k,rfl,q k p G1 H1 x1⟩
theorem aU{op:CmpOp}{r:gh}(ho:OpR X (compareOp op) (bW Z r))(ha:DE Z X a ta)(hb:DE Z X b tb)(hm:behindInMarks op b=false):DT Z X (.Compare a [op] [b] pos) (zp (Gk r ta tb)):=
 (Ke ho ha hb hm).imp λσ H Q h=>by
  obtain h:=xV σ H Q h;exact zS σ H _ h
def zo(r r':gh)(ta tb tc:br):br:=λρ P=>ta ρ λx=>tb ρ λy=>r x y λz=>∃k,z= .bl k∧(if k=true then tc ρ λw'=>r' y w' P else P (.bl false))
theorem vj{r r':gh}:∀σ H Q,dJ Z (zo r r' ta tb tc) σ H Q→Aj (bW Z r) (bW Z r') (dJ Z ta) (dJ Z tb) (dJ Z tc) σ H Q:=by
 rintro σ H Q ⟨G,ρ,P,s,e,h,q⟩;refine ⟨G,ρ,_,s,e,h,λa ha v G1 H1 x1 dv=>?_⟩;refine ⟨G1,ρ,_,x1.sub,e.mono x1.gg,ha,λb hb u G2 H2 x2 du=>?_⟩;refine ⟨G2,a,b,_,x2.sub,dv.mono x2.gg,du,hb,?_⟩;rintro _ ⟨k,rfl,hk⟩ v' G3 H3 x3 zv;cases zv;refine ⟨k,rfl,?_⟩;have x:=(x1.trans x2).trans x3;cases k with
 |false=>exact dg (q _ hk _ G3 H3 x (.bl false))
 |true=>
  refine eY ⟨G3,ρ,_,x3.sub,e.mono x.gg,hk,λc hc w' G4 H4 x4 dw=>?_⟩;exact ⟨G4,b,c,P,x4.sub,(du.mono x3.gg).mono x4.gg,dw,hc,λd hd v'' G' H' x5 d5=>q d hd v'' G' H' ((x.trans x4).trans x5) d5⟩
theorem Gn{op pZ:CmpOp}{r r':gh}(ho:OpR X (compareOp op) (bW Z r))(mE:OpR X (compareOp pZ) (bW Z r'))(ha:DE Z X a ta)(hb:DE Z X b tb)(hc:DE Z X c tc)
  (hm:lastMarks [op,pZ] [b,c]=false:=by with_unfolding_all rfl):DE Z X (.Compare a [op,pZ] [b,c] pos) (zo r r' ta tb tc):=(He ho mE ha hb hc hm).imp vj
theorem Gu{op pZ:CmpOp}{r r':gh}(ho:OpR X (compareOp op) (bW Z r))(mE:OpR X (compareOp pZ) (bW Z r'))(ha:DE Z X a ta)(hb:DE Z X b tb)(hc:DE Z X c tc)
  (hm:lastMarks [op,pZ] [b,c]=false:=by with_unfolding_all rfl):DT Z X (.Compare a [op,pZ] [b,c] pos) (zp (zo r r' ta tb tc)):=
 (Hj ho mE ha hb hc hm).imp λσ H Q h=>by
  obtain h:=xV σ H Q h;exact vj σ H _ h
def yo:D→Bool
 | .bo=>false
 | .bl b=>b
 | .int i=>i !=0
 | .str x=>x.length !=0
 | .lst l=>!l.isEmpty
 | .tup l=>!l.isEmpty
 | .kH l=>!l.isEmpty
 | .rng lo hi=>decide (lo<hi)
 | .obj _=>true
 | .fo _=>true
 | .set _ l=>!l.isEmpty
def TN:D→Bool
 | .bl _=>true
 | .int _=>true
 | .lst _=>true
 | .tup _=>true
 | .bo=>true
 |_=>false
def R7(t:br):dE:=λρ P=>t ρ λd=>TN d=true∧P (yo d)
theorem tD{G:Hp}{vs:List V}{ds:List D}(h:av Z G vs ds):vs.isEmpty=ds.isEmpty:=by cases h<;>rfl
theorem kS(ha:DE Z X a ta)(he:∀whole,isTrue a X.env whole=(do let v ←whole;standAt a.pos;holding [v] (truthy v)):=by intro _;rfl):DT Z X a (R7 ta):=by
 refine (Hk ha he).imp ?_;rintro σ H Q ⟨G,ρ,P,s,e,h,q⟩;refine ⟨G,ρ,_,s,e,h,?_⟩;rintro d ⟨hd,p⟩ v G1 H1 x1 dv;refine ⟨yo d,?_,q _ p G1 H1 x1⟩;cases dv with
 |bo=>rfl
 |bl b=>rfl
 |int i=>rfl
 |lst h a=>exact .inl ⟨_,cQ.of (x1.sub _ _ h),by rw [tD a];rfl⟩
 |tup h a=>exact .inr (.inl ⟨_,gr.of (x1.sub _ _ h),by rw [tD a];rfl⟩)
 |_=>cases hd
def RN(t u:dE):dE:=λρ P=>t ρ λc=>if c=true then u ρ P else P false
def XM(t u:dE):dE:=λρ P=>t ρ λc=>if c=true then P true else u ρ P
def R0(t:dE):dE:=λρ P=>t ρ λc=>P (!c)
variable {tA Ai:dE} {rest:List Expr}
def DW(Z:DC)(X:Cx)(e:Expr)(t:dE):Prop:=PW X e (liftT Z t)
theorem DW.dt{e:Expr}{t:dE}(h:DW Z X e t):DT Z X e t:=PW.pt h
theorem qv(ha:DT Z X a tA):DW Z X (.BoolOp .And [a] pos) tA:=Ki ha
theorem n5(ha:DT Z X a tA):DW Z X (.BoolOp .Or [a] pos) tA:=MA ha
theorem uq(ha:DT Z X a tA)(hb:DW Z X (.BoolOp .And (b::rest) pos) Ai):DW Z X (.BoolOp .And (a::b::rest) pos) (RN tA Ai):=by
 refine (Mz ha hb).imp ?_;rintro σ H Q ⟨G,ρ,P,s,e,h,q⟩;refine ⟨G,ρ,_,s,e,h,λc hc G1 H1 x1=>?_⟩;cases c with
 |true=>exact eY ⟨G1,ρ,P,x1.sub,e.mono x1.gg,hc,λb hb G2 H2 x2=>q b hb G2 H2 (x1.trans x2)⟩
 |false=>exact dg (q _ hc G1 H1 x1)
theorem pL(ha:DT Z X a tA)(hb:DW Z X (.BoolOp .Or (b::rest) pos) Ai):DW Z X (.BoolOp .Or (a::b::rest) pos) (XM tA Ai):=by
 refine (Qf ha hb).imp ?_;rintro σ H Q ⟨G,ρ,P,s,e,h,q⟩;refine ⟨G,ρ,_,s,e,h,λc hc G1 H1 x1=>?_⟩;cases c with
 |false=>exact dg ⟨G1,ρ,P,x1.sub,e.mono x1.gg,hc,λb hb G2 H2 x2=>q b hb G2 H2 (x1.trans x2)⟩
 |true=>exact eY (q _ hc G1 H1 x1)
theorem nZ(ha:DT Z X a tA):DT Z X (.UnaryOp .Not a pos) (R0 tA):=by
 refine (My ha).imp ?_;rintro σ H Q ⟨G,ρ,P,s,e,h,q⟩;exact ⟨G,ρ,_,s,e,h,λc hc G1 H1 x1=>q _ hc G1 H1 x1⟩
def OD(ta tb:br):br:=λρ P=>ta ρ λx=>∃c,x= .bl c∧if c=true then tb ρ P else P (.bl false)
def OI(ta:br):br:=λρ P=>ta ρ λx=>∃c,x= .bl c∧P (.bl (!c))
theorem Lq{op}(h:DE Z X a ta):DE Z X (.BoolOp op [a] pos) ta:=Mu h
theorem Fh(ha:DE Z X a ta)(hb:DE Z X (.BoolOp .And (b::rest) pos) tb):DE Z X (.BoolOp .And (a::b::rest) pos) (OD ta tb):=by
 refine (Mm ha hb).imp ?_;rintro σ H Q ⟨G,ρ,P,s,e,h,q⟩;refine ⟨G,ρ,_,s,e,h,?_⟩;rintro _ ⟨c,rfl,hc⟩ v G1 H1 x1 dv;cases dv;refine ⟨c,rfl,?_⟩;cases c with
 |true=>exact eY ⟨G1,ρ,P,x1.sub,e.mono x1.gg,hc,λb hb v G2 H2 x2 d2=>q b hb v G2 H2 (x1.trans x2) d2⟩
 |false=>exact dg (q _ hc _ G1 H1 x1 (.bl false))
theorem Lp(ha:DE Z X a ta):DE Z X (.UnaryOp .Not a pos) (OI ta):=by
 refine (Mt ha).imp ?_;rintro σ H Q ⟨G,ρ,P,s,e,h,q⟩;refine ⟨G,ρ,_,s,e,h,?_⟩;rintro _ ⟨c,rfl,hc⟩ v G1 H1 x1 dv;cases dv;exact ⟨c,rfl,q _ hc _ G1 H1 x1 (.bl _)⟩
def xu:iY:=λ_ P=>P []
def OE(ta:br)(t:iY):iY:=λρ P=>ta ρ λx=>t ρ λxs=>P (x::xs)
variable {es:List Expr} {t:iY} {e:Expr}
theorem ag:DA Z X [] xu:=lu.imp λσ H Q ⟨G,ρ,P,s,e,p,q⟩=>q _ p _ G H (.refl s) .nil
theorem ab(ha:DE Z X e ta)(hr:DA Z X es t)(hs:starEach (e::es) X.env=(false,eval e X.env)::starEach es X.env:=by rfl):DA Z X (e::es) (OE ta t):=by
 refine (gE ha hr hs).imp ?_;rintro σ H Q ⟨G,ρ,P,s,e,h,q⟩;refine ⟨G,ρ,_,s,e,h,λa ha v G1 H1 x1 dv=>?_⟩;exact ⟨G1,ρ,_,x1.sub,e.mono x1.gg,ha,λds hd vs G2 H2 x2 bB=>q _ hd _ G2 H2 (x1.trans x2) (.cons (dv.mono x2.gg) bB)⟩
def R8(t:iY):br:=λρ P=>t ρ λxs=>xs.length≤sizeLine∧P (.tup xs)
def RX(t:iY):br:=λρ P=>t ρ λxs=>xs.length≤sizeLine∧P (.lst xs)
theorem fP{x1}(h:DA Z X es t):DE Z X (.Tuple es x1 pos) (R8 t):=by
 refine (Mw h).imp ?_;rintro σ H Q ⟨G,ρ,P,s,e,h,q⟩;refine ⟨G,ρ,_,s,e,h,?_⟩;rintro ds ⟨hl,hp⟩ vs G1 H1 x1 bB;exact ⟨by rw [bB.length];exact hl,λp jV=>q _ hp _ _ _ (x1.trans (.new x1.sub jV)) (.tup aC (bB.mono (aV (x1.sub.free jV) _)))⟩
theorem eX(h:DA Z X es t):DE Z X (.List es pos) (RX t):=by
 refine (FL h).imp ?_;rintro σ H Q ⟨G,ρ,P,s,e,h,q⟩;refine ⟨G,ρ,_,s,e,h,?_⟩;rintro ds ⟨hl,hp⟩ vs G1 H1 x1 bB;exact ⟨by rw [bB.length];exact hl,λp jV=>q _ hp _ _ _ (x1.trans (.new x1.sub jV)) (.lst aC (bB.mono (aV (x1.sub.free jV) _)))⟩
def uR(r:List D→(D→Prop)→Prop)(t:iY):br:=λρ P=>t ρ λds=>r ds P
theorem sg{r:List D→(D→Prop)→Prop}:∀σ H Q,dJ Z (uR r t) σ H Q→Ed Z t σ H λvs H1=>iz Z r vs H1 Q:=by
 rintro σ H Q ⟨G,ρ,P,s,e,h,q⟩;exact ⟨G,ρ,_,s,e,h,λds hd vs G1 H1 x1 bB=>⟨G1,ds,P,x1.sub,bB,hd,λd hp v G2 H2 x2 dv=>q d hp v G2 H2 (x1.trans x2) dv⟩⟩
theorem Iw{sd:dD}{k:Nat}{f:Addr}{fd:FuncData}{ps:List Str}{x:Str}{p:Pos}(F:FnOk X.prog X.w X.K X.mg X.base di k f fd ps (aT Z sd))(hr:dr k X.A)(hg:Gl X x)(hm:X.mg x=some (.ref f))(hk:PySem.W.keepIn X.K (.ref f)=true)(hb:Binds X.K fd ps [])
  (ha:DA Z X (e::es) t) (m6:(x==("__debug__":Str))=false:=by decide) (he:starEach (e::es) X.env=(false,eval e X.env)::starEach es X.env:=by rfl) (gn:(backTo pos (starEach es X.env)).any (·.1)=false:=by rfl):
  DE Z X (.Call (.Name x p) (e::es) [] pos) (uR sd t):=
 (JX F hr hg hm hk hb .nil Ew ha m6 he gn).imp λσ H Q h=>by
  have h:=sg σ H Q h;obtain ⟨G,ρ,P,s,e,h,q⟩:=h;exact ⟨G,ρ,P,s,e,h,λds hd vs G1 H1 x1 bB=>by show aT Z sd (vs++ []) H1 Q E0;rw [jO];exact q ds hd vs G1 H1 x1 bB⟩
theorem ax{id:String}{x:Str}{p:Pos}{r:List D→(D→Prop)→Prop}(hc:cP X (.builtin id) (iz Z r))(hg:Gl X x)(hm:X.mg x=none)(hv:bootBuiltins x=some (.builtin id))(ha:DA Z X (e::es) t)(hn:x≠"__name__":=by decide)(m6:(x==("__debug__":Str))=false:=by decide)
  (he:starEach (e::es) X.env=(false,eval e X.env)::starEach es X.env:=by rfl) (gn:(backTo pos (starEach es X.env)).any (·.1)=false:=by rfl):
  DE Z X (.Call (.Name x p) (e::es) [] pos) (uR r t):=(yc hc hg hm hv ha hn m6 he gn).imp sg
theorem pH{T:String}{x:Str}{p:Pos}{r:List D→(D→Prop)→Prop}(hc:cP X (.type T) (iz Z r))(hg:Gl X x)(hm:X.mg x=none)(hv:bootBuiltins x=some (.type T))(ha:DA Z X (e::es) t)(hn:x≠"__name__":=by decide)(m6:(x==("__debug__":Str))=false:=by decide)
  (he:starEach (e::es) X.env=(false,eval e X.env)::starEach es X.env:=by rfl) (gn:(backTo pos (starEach es X.env)).any (·.1)=false:=by rfl):
  DE Z X (.Call (.Name x p) (e::es) [] pos) (uR r t):=(Ex hc hg hm hv ha hn m6 he gn).imp sg
end
end L2
namespace L2
open PySem PySem.Spec PyProof.Rows
section
variable {Z:DC} {X:Cx}
def Nm:gh:=λx y P=>match x,y with
 | .int i, .int j=>P (.int (i+j))
 | .lst a, .lst b=>a.length+b.length≤sizeLine∧P (.lst (a++b))
 | .tup a, .tup b=>a≠ []∧a.length+b.length≤sizeLine∧b≠ []∧P (.tup (a++b))
 |_,_=>False
def dI(c:Int→Int→Prop)(g:Int→Int→Int):gh:=λx y P=>match x,y with
 | .int i, .int j=>c i j∧P (.int (g i j))
 |_,_=>False
def OF(g:Int→Int→Int):gh:=λx y P=>match x,y with
 | .int i, .int j=>P (.int (g i j))
 |_,_=>False
def R6:gh:=OF λi j=>i-j
def Nt:gh:=λx y P=>match x,y with
 | .int i, .int j=>Fc i j∧P (.int (i*j))
 | .lst a, .int k=> -(2^63)≤k∧k<2^63∧a.length*k.toNat≤sizeLine∧P (.lst (List.replicate k.toNat a).flatten)
 |_,_=>False
def RQ:gh:=dI MX λi j=>i / j
def RY:gh:=dI (λ_ j=>0<j) λi j=>i%j
def R4:gh:=dI MY λi j=>i^j.toNat
theorem zT{f:Value→Value→Sem Value}{c:Int→Int→Prop}{g:Int→Int→Int}(h:OpR X f (rI c λi j=> .int (g i j))):OpR X f (bW Z (dI c g)):=by
 refine h.imp ?_;rintro x y H Q ⟨G,a,b,P,s,da,db,hr,q⟩;unfold dI at hr
 split at hr
 ·exact ⟨_,_,da.ofInt,db.ofInt,hr.1,q _ hr.2 _ G H (.refl s) (.int _)⟩
 ·exact hr.elim
theorem LZ{f:Value→Value→Sem Value}{g:Int→Int→Int}(h:OpR X f (xh λi j=> .int (g i j))):OpR X f (bW Z (OF g)):=by
 refine h.imp ?_;rintro x y H Q ⟨G,a,b,P,s,da,db,hr,q⟩;unfold OF at hr
 split at hr
 ·exact ⟨_,_,da.ofInt,db.ofInt,q _ hr _ G H (.refl s) (.int _)⟩
 ·exact hr.elim
theorem lh:OpR X (binaryOp .Sub) (bW Z R6):=LZ Ml
theorem fC:OpR X (binaryOp .FloorDiv) (bW Z RQ):=zT JU
theorem cu:OpR X (binaryOp .Mod) (bW Z RY):=zT Mf
theorem FG:OpR X (binaryOp .Pow) (bW Z R4):=zT Mi
theorem bE(e:X.K=Z.K:=by rfl):OpR X (binaryOp .Add) (bW Z Nm):=by
 refine (Mc.or (FK.or (JT))).imp ?_;rintro x y H Q ⟨G,a,b,P,s,da,db,hr,q⟩;unfold Nm at hr
 split at hr
 ·exact .inl ⟨_,_,da.ofInt,db.ofInt,q _ hr _ G H (.refl s) (.int _)⟩
 ·obtain ⟨a1,QI,rfl,h1,e1⟩:=da.lj
  obtain ⟨a2,Wv,rfl,h2,e2⟩:=db.lj;obtain ⟨hz,hp⟩:=hr;refine .inr (.inl ⟨_,_,_,_,rfl,rfl,s _ _ h1,s _ _ h2,by rw [e1.length,e2.length];exact hz,λp hn=>?_⟩)
  exact q _ hp _ _ _ (.new s hn) (.lst aC ((e1.append e2).mono (aV (s.free hn) _)))
 ·obtain ⟨a1,QI,rfl,h1,e1⟩:=da.vz
  obtain ⟨a2,Wv,rfl,h2,e2⟩:=db.vz;obtain ⟨h0,hz,Yg,hp⟩:=hr;refine .inr (.inr ⟨_,_,_,_,rfl,rfl,gr.of (s _ _ h1),gr.of (s _ _ h2),?_,by rw [e1.length,e2.length];exact hz,?_⟩)
  ·rintro rfl;cases e1;exact h0 rfl
  ·refine ⟨?_,λ_ p hn=>q _ hp _ _ _ (.new s hn) (.tup aC ((e1.append e2).mono (aV (s.free hn) _)))⟩
   rintro rfl;cases e2;exact (Yg rfl).elim
 ·exact hr.elim
theorem av.rep{G:Hp}{vs:List V}{ds:List D}(h:av Z G vs ds):∀k:Nat,av Z G (List.replicate k vs).flatten (List.replicate k ds).flatten
 |0=> .nil
 |k+1=>by rw [wG,wG,sQ,sQ];exact h.append (av.rep h k)
theorem uv:OpR X (binaryOp .Mult) (bW Z Nt):=by
 refine (Mg.or Mj).imp ?_;rintro x y H Q ⟨G,a,b,P,s,da,db,hr,q⟩;unfold Nt at hr
 split at hr
 ·exact .inl ⟨_,_,da.ofInt,db.ofInt,hr.1,q _ hr.2 _ G H (.refl s) (.int _)⟩
 ·obtain ⟨a1,QI,rfl,h1,e1⟩:=da.lj
  obtain ⟨h0,h9,hz,hp⟩:=hr;refine .inr ⟨_,_,_,rfl,db.ofInt,s _ _ h1,h0,h9,by rw [e1.length];exact hz,λp hn=>?_⟩
  exact q _ hp _ _ _ (.new s hn) (.lst aC ((e1.rep _).mono (aV (s.free hn) _)))
 ·exact hr.elim
mutual
def D.py:D→Option PyData
 | .bo=>some .none
 | .bl b=>some (.bool b)
 | .int i=>some (.int i)
 | .str x=>some (.str x)
 | .lst l=>(fT l).map PyData.list
 | .tup l=>(fT l).map PyData.tuple
 | .kH _=>none
 | .rng _ _=>none
 | .obj _=>none
 | .fo _=>none
 | .set _ _=>none
def fT:List D→Option (List PyData)
 | []=>some []
 |d::ds=>(D.py d).bind λa=>(fT ds).map λas=>a::as
end
mutual
theorem Dv.dp{K:PySem.W.Frag}{G:Hp}:∀{v:V}{d:D}{e:PyData},Dv Z G v d→d.py=some e→Dp K G v e
 |_,_,_, .bo,h=>by simp [D.py] at h;subst h;exact .bo
 |_,_,_, .bl b,h=>by simp [D.py] at h;subst h;exact .bl b
 |_,_,_, .int i,h=>by simp [D.py] at h;subst h;exact .int i
 |_,_,_, .str x k,h=>by simp [D.py] at h;subst h;exact .str x k
 |_,_,_, .lst a as,h=>by
  simp [D.py] at h;obtain ⟨l,h1,rfl⟩:=h;exact .lst (cQ.of a) (av.dp as h1)
 |_,_,_, .tup a as,h=>by
  simp [D.py] at h;obtain ⟨l,h1,rfl⟩:=h;exact .tup (gr.of a) (av.dp as h1)
 |_,_,_, .kH _ _,h=>by simp [D.py] at h
 |_,_,_, .rng _,h=>by simp [D.py] at h
 |_,_,_, .obj _,h=>by simp [D.py] at h
 |_,_,_, .fo _ _ _ _ _,h=>by simp [D.py] at h
 |_,_,_, .set _,h=>by simp [D.py] at h
theorem av.dp{K:PySem.W.Frag}{G:Hp}:∀{vs:List V}{ds:List D}{es:List PyData},av Z G vs ds→fT ds=some es→fe K G vs es
 |_,_,_, .nil,h=>by simp [fT] at h;subst h;exact .nil
 |_,_,_, .cons (d:=d) (ds:=ds) a as,h=>by
  rw [fT] at h;cases h1:d.py with
  |none=>rw [h1] at h;cases h
  |some x=>
   rw [h1] at h;cases h2:fT ds with
   |none=>rw [h2] at h;cases h
   |some y=>rw [h2] at h;cases h;exact .cons (Dv.dp a h1) (av.dp as h2)
end
theorem gr.mono{K:PySem.W.Frag}{H H':Hp}{a:Addr}{xs:List V}(s:aK H H')(h:gr K H a xs):gr K H' a xs:=by
 rcases h with (h| ⟨o,h⟩) |h
 ·exact .inl (.inl (s _ _ h))
 ·exact .inl (.inr ⟨o,s _ _ h⟩)
 ·exact .inr h
mutual
theorem Dp.mono{K:PySem.W.Frag}{G H:Hp}(s:aK G H):∀{v:V}{d:PyData},Dp K G v d→Dp K H v d
 |_,_, .bo=> .bo
 |_,_, .bl b=> .bl b
 |_,_, .int i=> .int i
 |_,_, .str x h=> .str x h
 |_,_, .lst h a=> .lst (h.mono s) (fe.mono s a)
 |_,_, .tup h a=> .tup (h.mono s) (fe.mono s a)
theorem fe.mono{K:PySem.W.Frag}{G H:Hp}(s:aK G H):∀{vs:List V}{ds:List PyData},fe K G vs ds→fe K H vs ds
 |_,_, .nil=> .nil
 |_,_, .cons a as=> .cons (Dp.mono s a) (fe.mono s as)
end
def Np(neg:Bool):gh:=λx y P=>∃a b,x.py=some a∧y.py=some b∧a.depth≤64∧P (.bl (if neg then !PyData.eqv a b else PyData.eqv a b))
abbrev Li:gh:=Np false
abbrev Ll:gh:=Np true
theorem pX(hu:X.A.units+64<cLine):OpR X (compareOp .Eq) (bW Z Li):=by
 refine (Md hu).imp ?_;rintro x y H Q ⟨G,a,b,P,s,da,db,⟨c,d,h1,h2,h3,hp⟩,q⟩;exact ⟨c,d,(da.dp h1).mono s,(db.dp h2).mono s,h3,q _ hp _ G H (.refl s) (.bl _)⟩
theorem sA(hu:X.A.units+64<cLine):OpR X (compareOp .NotEq) (bW Z Ll):=by
 refine (Mh hu).imp ?_;rintro x y H Q ⟨G,a,b,P,s,da,db,⟨c,d,h1,h2,h3,hp⟩,q⟩;exact ⟨c,d,(da.dp h1).mono s,(db.dp h2).mono s,h3,q _ hp _ G H (.refl s) (.bl _)⟩
theorem uS{i j:Int}{P:D→Prop}(h:P (.bl (decide (i=j)))):Li (.int i) (.int j) P:=⟨.int i, .int j,rfl,rfl,by simp [PyData.depth],by
 have:PyData.eqv (.int i) (.int j)=decide (i=j):=by
  rw [PyData.eqv]
  by_cases z:i=j<;>simp [z]
 simpa [this] using h⟩
def xt(p:Int→Int→Bool):gh:=λx y P=>match x,y with
 | .int i, .int j=>P (.bl (p i j))
 |_,_=>False
theorem qM{f:Value→Value→Sem Value}{p:Int→Int→Bool}(h:OpR X f (xh λi j=> .bl (p i j))):OpR X f (bW Z (xt p)):=by
 refine h.imp ?_;rintro x y H Q ⟨G,a,b,P,s,da,db,hr,q⟩;unfold xt at hr
 split at hr
 ·exact ⟨_,_,da.ofInt,db.ofInt,q _ hr _ G H (.refl s) (.bl _)⟩
 ·exact hr.elim
end
end L2
namespace L2
open PySem PySem.Spec PyProof.Rows
section
variable {Z:DC} {X:Cx}
abbrev XJ:gh:=xt λi j=>decide (i<j)
abbrev XI:gh:=xt λi j=>decide (i≤j)
abbrev XH:gh:=xt λi j=>decide (j<i)
abbrev XG:gh:=xt λi j=>decide (j≤i)
theorem vy:OpR X (compareOp .Lt) (bW Z XJ):=qM P7
theorem Eo:OpR X (compareOp .LtE) (bW Z XI):=qM P6
theorem En:OpR X (compareOp .Gt) (bW Z XH):=qM P5
theorem JP:OpR X (compareOp .GtE) (bW Z XG):=qM P4
def D6:D→Bool
 | .bo=>true
 |_=>false
def Ik(neg:Bool):gh:=λx y P=>match y with
 | .bo=>P (.bl (if neg then !D6 x else D6 x))
 |_=>False
theorem xP{G:Hp}{v:V}{d:D}(h:Dv Z G v d):decide (v= .bo)=D6 d:=by cases h<;>rfl
theorem vx:OpR X (compareOp .Is) (bW Z (Ik false)):=by
 refine Me.imp ?_;rintro x y H Q ⟨G,a,b,P,s,da,db,hr,q⟩;cases db<;>first|exact hr.elim|skip
 exact ⟨rfl,by rw [xP da];exact q _ hr _ G H (.refl s) (.bl _)⟩
theorem Hb:OpR X (compareOp .IsNot) (bW Z (Ik true)):=by
 refine JV.imp ?_;rintro x y H Q ⟨G,a,b,P,s,da,db,hr,q⟩;cases db<;>first|exact hr.elim|skip
 exact ⟨rfl,by rw [xP da];exact q _ hr _ G H (.refl s) (.bl _)⟩
def fH:D→Bool
 | .bo=>true
 | .bl _=>true
 | .int _=>true
 | .str _=>true
 |_=>false
def jz:D→D→Bool
 | .bo, .bo=>true
 | .bl a, .bl b=>a==b
 | .bl a, .int b=>(if a then 1 else 0)==b
 | .int a, .bl b=>a==(if b then 1 else 0)
 | .int a, .int b=>a==b
 | .str a, .str b=>a==b
 |_,_=>false
def inD(x:D)(l:List D):Bool:=l.any λy=>jz y x
theorem qy{G:Hp}{v:V}{d:D}(h:Dv Z G v d):gX v=fH d:=by cases h<;>rfl
theorem jB{G:Hp}:∀{vs:List V}{ds:List D},av Z G vs ds→vs.all gX=ds.all fH
 |_,_, .nil=>rfl
 |_,_, .cons a as=>by rw [List.all_cons,List.all_cons,qy a,jB as]
theorem zx{G:Hp}{v u:V}{d e:D}(h:Dv Z G v d)(k:Dv Z G u e):uV v u=jz d e:=by cases h<;>cases k<;>rfl
theorem D3{G:Hp}{v:V}{d:D}(h:Dv Z G v d):∀{vs:List V}{ds:List D},av Z G vs ds→LM v vs=inD d ds
 |_,_, .nil=>rfl
 |_,_, .cons a as=>by
  unfold LM inD;rw [List.any_cons,List.any_cons,zx a h];exact congrArg _ (D3 h as)
def Lj(neg:Bool):gh:=λx y P=>match y with
 | .lst l=>fH x=true∧l.all fH=true∧P (.bl (if neg then !inD x l else inD x l))
 | .tup l=>fH x=true∧l.all fH=true∧P (.bl (if neg then !inD x l else inD x l))
 |_=>False
theorem Kn{neg:Bool}:∀x y H Q,bW Z (Lj neg) x y H Q→Qm X.K neg x y H Q:=by
 rintro x y H Q ⟨G,a,b,P,s,da,db,hr,q⟩;cases db<;>first|exact hr.elim|skip
 ·rename_i p xs ds h e
  obtain ⟨h1,h2,hp⟩:=hr;refine ⟨p,xs,rfl, .inl (cQ.of (s _ _ h)),by rw [qy da];exact h1,by rw [jB e];exact h2,?_⟩
  rw [D3 da e];exact q _ hp _ G H (.refl s) (.bl _)
 ·rename_i p xs ds h e
  obtain ⟨h1,h2,hp⟩:=hr;refine ⟨p,xs,rfl, .inr (gr.of (s _ _ h)),by rw [qy da];exact h1,by rw [jB e];exact h2,?_⟩
  rw [D3 da e];exact q _ hp _ G H (.refl s) (.bl _)
theorem pY:OpR X (compareOp .In) (bW Z (Lj false)):=Es.imp Kn
theorem x9:OpR X (compareOp .NotIn) (bW Z (Lj true)):=xg.imp Kn
def RW:gh:=λx y P=>match x,y with
 | .lst l, .int i=>∃d,gu l i=some d∧P d
 | .tup l, .int i=>∃d,gu l i=some d∧P d
 | .kH l, .int i=>∃n,gu l i=some n∧P (.int n)
 |_,_=>False
theorem Fe{G:Hp}{vs:List V}{ds:List D}{i:Int}{d:D}(h:av Z G vs ds)(e:gu ds i=some d):∃v,gu vs i=some v∧Dv Z G v d:=by
 unfold gu at e ⊢;rw [h.length];cases z:pQ ds.length i with
 |none=>rw [z] at e;cases e
 |some j=>rw [z] at e;exact h.get e
theorem HW{α β:Type}(f:α→β)(l:List α)(i:Int):gu (l.map f) i=(gu l i).map f:=by
 unfold gu;rw [aI];cases pQ l.length i with
 |none=>rfl
 |some j=>show (l.map f)[j]? =_;rw [e7];rfl
variable {a b c e:Expr} {ta tb tc te:br} {pos:Pos}
theorem bF(ha:DE Z X a ta)(hb:DE Z X b tb)(eK:X.K=Z.K:=by rfl)(hs:Bk b:=by exact λ_ _=>rfl):DE Z X (.Subscript a b pos) (Gk RW ta tb):=by
 refine (Qc (Ju.or LN) ha hb hs).imp λσ H Q h=>?_;obtain ⟨G,ρ,P,s,e,h,q⟩:=zS σ H Q h;refine ⟨G,ρ,P,s,e,h,λd hd v G1 H1 x1 dv=>?_⟩;obtain ⟨G',aD,P',s',e',h',q'⟩:=q d hd v G1 H1 x1 dv;refine ⟨G',aD,P',s',e',h',λd2 hd2 v2 G2 H2 x2 Dq=>?_⟩;obtain ⟨G,a,b,P,s,da,db,hr,q⟩:=q' d2 hd2 v2 G2 H2 x2 Dq;unfold RW at hr
 split at hr
 ·obtain ⟨d,h1,hp⟩:=hr
  obtain ⟨_,_,rfl,h,e⟩:=da.lj;obtain ⟨v,hv,dv⟩:=Fe e h1;exact .inl ⟨_,_,_,v,rfl,db.ofInt,cQ.of (s _ _ h),hv,q _ hp _ G _ (.refl s) dv⟩
 ·obtain ⟨d,h1,hp⟩:=hr
  obtain ⟨_,_,rfl,h,e⟩:=da.vz;obtain ⟨v,hv,dv⟩:=Fe e h1;exact .inr ⟨_,_,_,v,rfl,db.ofInt,gr.of (s _ _ h),hv,q _ hp _ G _ (.refl s) dv⟩
 rotate_left
 ·exact hr.elim
 ·obtain ⟨d,h1,hp⟩:=hr
  obtain ⟨_,rfl,h,_⟩:=da.JQ;refine .inl ⟨_,_,_, .int d,rfl,db.ofInt,by rw [eK];exact h.mono s,by rw [HW,h1];rfl,q _ hp _ G _ (.refl s) (.int d)⟩
def cutD{α:Type}(xs:List α)(lo hi:Option Int):List α:=(xs.drop (HT.bP xs.length 0 lo)).take (HT.bP xs.length xs.length hi-HT.bP xs.length 0 lo)
theorem zk{G:Hp}{vs:List V}{ds:List D}(h:av Z G vs ds)(lo hi:Option Int):av Z G (tu vs lo hi) (cutD ds lo hi):=by
 unfold tu cutD;rw [h.length];exact (h.drop _).take _
theorem xq{α β:Type}(f:α→β)(l:List α)(lo hi:Option Int):cutD (l.map f) lo hi=(cutD l lo hi).map f:=by
 unfold cutD;rw [aI,jP,kL]
abbrev Bi:=DN→(Option Int→Prop)→Prop
def Iq:Bi:=λ_ P=>P none
def OJ(t:br):Bi:=λρ P=>t ρ λd=>match d with
 | .int i=>P (some i)
 |_=>False
def PX(Z:DC)(t:Bi):TO:=λσ H Q=>∃(G:Hp)(ρ:DN)(P:Option Int→Prop),aK G H∧dq Z G σ ρ∧t ρ P∧∀o,P o→∀G' H',Ext G H G' H'→Q o H'
def DO(Z:DC)(X:Cx)(e:Option Expr)(t:Bi):Prop:=PO X e (PX Z t)
theorem PO.imp{e:Option Expr}{t t':TO}(h:PO X e t)(f:∀σ H Q,t' σ H Q→t σ H Q):PO X e t':=λpins s σ H Q I q=>h pins s σ H Q I (f _ _ _ q)
theorem bR:DO Z X none Iq:=Ka.imp λσ H Q ⟨G,ρ,P,s,e,p,q⟩=>q _ p G H (.refl s)
theorem bw(h:DE Z X e te):DO Z X (some e) (OJ te):=by
 refine (Kb h).imp ?_;rintro σ H Q ⟨G,ρ,P,s,e,h,q⟩;refine ⟨G,ρ,_,s,e,h,λd hd v G1 H1 x1 dv=>?_⟩;cases dv<;>first|exact hd.elim|skip
 exact ⟨_,rfl,q _ hd G1 H1 x1⟩
def XO(te:br)(tl th:Bi):br:=λρ P=>te ρ λx=>tl ρ λlo=>th ρ λhi=>match x with
 | .lst l=>P (.lst (cutD l lo hi))
 | .tup l=>¬(HT.bP l.length 0 lo=0∧HT.bP l.length l.length hi=l.length)∧P (.tup (cutD l lo hi))
 | .kH l=>P (.lst ((cutD l lo hi).map D.int))
 |_=>False
variable {lo hi:Option Expr} {tl th:Bi} {p2:Pos}
theorem bp(he:DE Z X e te)(hl:DO Z X lo tl)(hu:DO Z X hi th)(eK:X.K=Z.K:=by rfl):DE Z X (.Subscript e (.Slice lo hi none p2) pos) (XO te tl th):=by
 refine (yd (Cz.or MF) he hl hu).imp ?_;rintro σ H Q ⟨G,ρ,P,s,en,h,q⟩;refine ⟨G,ρ,_,s,en,h,λd hd v G1 H1 x1 dv=>?_⟩;refine ⟨G1,ρ,_,x1.sub,en.mono x1.gg,hd,λl hl G2 H2 x2=>?_⟩;refine ⟨G2,ρ,_,x2.sub,(en.mono x1.gg).mono x2.gg,hl,λu hu G3 H3 x3=>?_⟩;have x:=(x1.trans x2).trans x3;have dv:=(dv.mono x2.gg).mono x3.gg;cases dv<;>first|exact hu.elim|skip
 ·rename_i h e
  exact .inl ⟨_,_,rfl,cQ.of (x3.sub _ _ h),λp hn=>q _ hu _ _ _ (x.trans (.new x3.sub hn)) (.lst aC ((zk e l u).mono (aV (x3.sub.free hn) _)))⟩
 ·rename_i h e
  refine .inr ⟨_,_,rfl,gr.of (x3.sub _ _ h),by rw [e.length];exact hu.1,λp hn=>q _ hu.2 _ _ _ (x.trans (.new x3.sub hn)) (.tup aC ((zk e l u).mono (aV (x3.sub.free hn) _)))⟩
 ·rename_i h _
  refine .inl ⟨_,_,rfl,by rw [eK];exact h.mono x3.sub,λp hn=>q _ hu _ _ _ (x.trans (.new x3.sub hn)) (.lst aC ?_)⟩
  show av Z _ (cutD _ l u) _;rw [xq];exact .ints _
def Bq:dD:=λds P=>match ds with
 | [.lst l]=>P (.int l.length)
 | [.tup l]=>P (.int l.length)
 | [.kH l]=>P (.int l.length)
 |_=>False
theorem aP(eK:X.K=Z.K:=by rfl):cP X (.builtin "len") (iz Z Bq):=by
 refine wU.imp ?_;rintro xs H Q ⟨G,ds,P,s,dv,hr,q⟩;unfold Bq at hr
 split at hr
 ·obtain ⟨_,rfl,a⟩:=dv.ofOne
  obtain ⟨_,_,rfl,h,e⟩:=a.lj;exact ⟨_,_,rfl, .inl (cQ.of (s _ _ h)),by rw [e.length];exact q _ hr _ G H (.refl s) (.int _)⟩
 ·obtain ⟨_,rfl,a⟩:=dv.ofOne
  obtain ⟨_,_,rfl,h,e⟩:=a.vz;exact ⟨_,_,rfl, .inr (gr.of (s _ _ h)),by rw [e.length];exact q _ hr _ G H (.refl s) (.int _)⟩
 ·obtain ⟨_,rfl,a⟩:=dv.ofOne
  obtain ⟨_,rfl,h,_⟩:=a.JQ;exact ⟨_,_,rfl, .inl (by rw [eK];exact h.mono s),by rw [aI];exact q _ hr _ G H (.refl s) (.int _)⟩
 ·exact hr.elim
def HY:dD:=λds P=>match ds with
 | [.lst l]=>P (.lst l)
 | [.tup l]=>P (.lst l)
 |_=>False
theorem uM:cP X (.type "list") (iz Z HY):=by
 refine wV.imp ?_;rintro xs H Q ⟨G,ds,P,s,dv,hr,q⟩;unfold HY at hr
 split at hr
 ·obtain ⟨_,rfl,a⟩:=dv.ofOne
  obtain ⟨_,_,rfl,h,e⟩:=a.lj;exact ⟨_,_,rfl, .inl (cQ.of (s _ _ h)),λp hn=>q _ hr _ _ _ (.new s hn) (.lst aC (e.mono (aV (s.free hn) _)))⟩
 ·obtain ⟨_,rfl,a⟩:=dv.ofOne
  obtain ⟨_,_,rfl,h,e⟩:=a.vz;exact ⟨_,_,rfl, .inr (gr.of (s _ _ h)),λp hn=>q _ hr _ _ _ (.new s hn) (.lst aC (e.mono (aV (s.free hn) _)))⟩
 ·exact hr.elim
def aaa:dD:=λds P=>match ds with
 | [.int i]=>P (.int i)
 | [.bl b]=>P (.int (if b then 1 else 0))
 |_=>False
def TL:String→D→Bool
 |"int", .int _=>true
 |"int", .bl _=>true
 |"bool", .bl _=>true
 |"list", .lst _=>true
 |"tuple", .tup _=>true
 |_,_=>false
def P1(n:String):Bool:=n=="int"||n=="bool"||n=="list"||n=="tuple"
def NO:D→Bool
 | .bo=>true
 | .bl _=>true
 | .int _=>true
 | .str _=>true
 | .lst _=>true
 | .tup _=>true
 |_=>false
def RV(n:String)(t:br):br:=λρ P=>t ρ λd=>NO d=true∧P (.bl (TL n d))
theorem LU{K:PySem.W.Frag}{H:Hp}{v:V}{d:D}{n:String}(hn:P1 n=true)(hd:NO d=true)(h:Dv Z H v d):∃t,jv K H v t∧PySem.W.kitOne K t (.type n)=some (TL n d):=by
 unfold P1 at hn;rw [Bool.or_eq_true,Bool.or_eq_true,Bool.or_eq_true,beq_iff_eq,beq_iff_eq,beq_iff_eq,beq_iff_eq] at hn;cases h with
 |bo=>refine ⟨_, .bo,?_⟩;rcases hn with ((rfl|rfl) |rfl) |rfl<;>kernel_rfl
 |bl b=>refine ⟨_, .bl b,?_⟩;rcases hn with ((rfl|rfl) |rfl) |rfl<;>kernel_rfl
 |int b=>refine ⟨_, .int b,?_⟩;rcases hn with ((rfl|rfl) |rfl) |rfl<;>kernel_rfl
 |str b=>refine ⟨_, .str b,?_⟩;rcases hn with ((rfl|rfl) |rfl) |rfl<;>kernel_rfl
 |lst h a=>refine ⟨_, .lst h,?_⟩;rcases hn with ((rfl|rfl) |rfl) |rfl<;>kernel_rfl
 |tup h a=>refine ⟨_, .tup h,?_⟩;rcases hn with ((rfl|rfl) |rfl) |rfl<;>kernel_rfl
 |_=>cases hd
end
section
variable {Z:DC} {X:Cx} {a b c e:Expr} {ta tb tc te:br} {pos:Pos}
theorem Fj(n:String){x:Str}{p p':Pos}(ha:DE Z X a ta)(hg:Gl X "isinstance")(hm:X.mg "isinstance"=none)(Yy:Gl X x)(GI:X.mg x=none)(hv:bootBuiltins x=some (.type n))(ok:P1 n=true:=by decide)
  (hn:x≠"__name__":=by decide) (hd:(x==("__debug__":Str))=false:=by decide) (hs:starEach [a, .Name x p'] X.env=(false,eval a X.env)::starEach [.Name x p'] X.env:=by rfl)
  (gn:(backTo pos (starEach [.Name x p'] X.env)).any (·.1)=false:=by rfl) (ja:starEach [.Name x p'] X.env=(false,eval (.Name x p') X.env)::starEach [] X.env:=by rfl):
  DE Z X (.Call (.Name "isinstance" p) [a, .Name x p'] [] pos) (RV n ta):=by
 have hb:PE X (.Name x p') (tC (.ty n)):=JW Yy GI hv rfl hn hd;refine (yc zg hg hm (by decide+kernel) (gE ha (gE hb lu ja) hs) (by decide) (by decide) hs gn).imp ?_
 rintro σ H Q ⟨G,ρ,P,s,e,h,q⟩;refine ⟨G,ρ,_,s,e,h,?_⟩;rintro d ⟨hk,hp⟩ v G1 H1 x1 dv;obtain ⟨t,ht,kg⟩:=LU (K:=X.K) (H:=H1) ok hk (dv.mono x1.sub);exact ⟨v,n,t,_,rfl,ht,kg,q _ hp _ G1 H1 x1 (.bl _)⟩
def ng(Z:DC)(g:dR):TG:=λv σ H Q=>∃(G:Hp)(ρ:DN)(d:D)(P:DN→Prop),aK G H∧dq Z G σ ρ∧Dv Z G v d∧g d ρ P∧∀aD,P aD→∀ay,dq Z G ay aD→Q ay H
def DG(Z:DC)(X:Cx)(e:Expr)(g:dR):Prop:=PG X e (ng Z g)
theorem PG.imp{e:Expr}{t t':TG}(h:PG X e t)(f:∀v σ H Q,t' v σ H Q→t v σ H Q):PG X e t':=λpins s σ H v u Q I r q=>h pins s σ H v u Q I r (f _ _ _ _ q)
def um(i:Nat):dR:=λd ρ P=>P (ρ.set i (some d))
theorem bU(i:Nat){x:Str}(hN:X.N.Nodup)(hi:X.N[i]? =some x:=by rfl)(hx:Loc X.env.scope x:=by exact Or.inl rfl)(hf:X.fn x=true∨X.env.scope.names.lookup x=some .local:=by first|exact .inl rfl|exact .inr rfl|assumption):DG Z X (.Name x pos) (um i):=
 (Ci hN hi hx hf).imp λv σ H Q ⟨G,ρ,d,P,s,e,dv,h,q⟩=>q _ h _ (e.set dv)
abbrev lM:=List D→DN→(DN→Prop)→Prop
def LY(Z:DC)(g:lM):wR:=λvs σ H Q=>∃(G:Hp)(ρ:DN)(ds:List D)(P:DN→Prop),aK G H∧dq Z G σ ρ∧av Z G vs ds∧g ds ρ P∧∀aD,P aD→∀ay,dq Z G ay aD→Q ay H
def K4(Z:DC)(X:Cx)(es:List Expr)(g:lM):Prop:=zd X es (LY Z g)
theorem zd.imp{es:List Expr}{t t':wR}(h:zd X es t)(f:∀v σ H Q,t' v σ H Q→t v σ H Q):zd X es t':=λpins s σ H v u Q I r q=>h pins s σ H v u Q I r (f _ _ _ _ q)
def Iz:lM:=λds ρ P=>ds= []∧P ρ
def Fn(g:dR)(gs:lM):lM:=λds ρ P=>match ds with
 |d::r=>g d ρ λaD=>gs r aD P
 | []=>False
theorem BC:K4 Z X [] Iz:=Cj.imp λv σ H Q ⟨G,ρ,ds,P,s,e,dv,⟨h,p⟩,q⟩=>by
 subst h;cases dv;exact ⟨rfl,q _ p _ e⟩
theorem nY{es:List Expr}{g:dR}{gs:lM}(h1:DG Z X e g)(h2:K4 Z X es gs)(hs:(assignEach (e::es) X.env).map (·.2)=assign e X.env::(assignEach es X.env).map (·.2):=by rfl):K4 Z X (e::es) (Fn g gs):=by
 refine (ye h1 h2 hs).imp ?_;rintro v σ H Q ⟨G,ρ,ds,P,s,e,dv,h,q⟩;cases dv with
 |nil=>exact h.elim
 |cons a as=>
  refine ⟨_,_,rfl,G,ρ,_,_,s,e,a,h,λaD hp ay e'=>?_⟩;exact ⟨G,aD,_,P,s,e',as,hp,q⟩
def IA(n:Nat)(gs:lM):dR:=λd ρ P=>match d with
 | .tup l=>l.length=n∧gs l ρ P
 |_=>False
theorem Fo(n:Nat){es:List Expr}{k:Nat}{gs:lM}(hc:X.calm=true)(h:K4 Z X es gs)(hn:(assignEach es X.env).length=n:=by rfl)(oN:(assignEach es X.env).findIdx? (·.1)=none:=by rfl):DG Z X (.Tuple es k pos) (IA n gs):=by
 refine (FP hc h hn oN).imp ?_;rintro v σ H Q ⟨G,ρ,d,P,s,e,dv,h,q⟩;cases dv<;>first|exact h.elim|skip
 rename_i a xs ds ha es
 exact ⟨a,xs,rfl,gr.of (s _ _ ha),by rw [es.length];exact h.1,G,ρ,_,P,s,e,es,h.2,q⟩
def uC(Z:DC)(G:Hp)(J:It)(ds:List D):Prop:=∀G2 H2,aK G G2→aK G2 H2→∀i:Nat,(i<ds.length→J.go i H2)∧(ds.length≤i→J.stop i H2)∧
 ∀x H',i<ds.length→J.yld i H2 x H'→∃G3 d,Ext G2 H2 G3 H'∧ds[i]? =some d∧Dv Z G3 x d
def pT(Z:DC)(wi:hJ):TI:=λσ H R=>∃(G:Hp)(ρ:DN)(P:List D→Prop),aK G H∧dq Z G σ ρ∧wi ρ P∧∀ds,P ds→∀J G' H',Ext G H G' H'→uC Z G' J ds→R J H'
def DI(Z:DC)(X:Cx)(tg e:Expr)(wi:hJ):Prop:=PI X tg e (pT Z wi)
theorem PI.imp{tg e:Expr}{t t':TI}(h:PI X tg e t)(f:∀σ H Q,t' σ H Q→t σ H Q):PI X tg e t':=λpins s σ H Q I q=>h pins s σ H Q I (f _ _ _ q)
def OP(t:br):hJ:=λρ P=>t ρ λd=>match d with
 | .lst l=>P l
 |_=>False
theorem Js{K:PySem.W.Frag}{G:Hp}{a:Addr}{xs:List V}{ds:List D}(h:G a=some (.lst xs))(e:av Z G xs ds):uC Z G (N9 K a) ds:=by
 intro G2 H2 s1 s2 i;have h2:=cQ.of (K:=K) (s2 _ _ (s1 _ _ h));have l:=e.length;refine ⟨λhi=>⟨xs,xs[i],h2,bz (by omega)⟩,λhi=>⟨xs,h2,by omega⟩,?_⟩
 rintro x H' hi ⟨rfl,hx⟩;obtain ⟨d,hd,dv⟩:=e.Fv (hx _ h2);exact ⟨G2,d, .refl s2,hd,dv.mono s1⟩
theorem bZ{tg:Expr}(h:DE Z X e te):DI Z X tg e (OP te):=by
 refine (J7 h).imp ?_;rintro σ H Q ⟨G,ρ,P,s,en,h,q⟩;refine ⟨G,ρ,_,s,en,h,λd hd v G1 H1 x1 dv=>?_⟩;cases dv<;>first|exact hd.elim|skip
 rename_i ha e
 exact ⟨_,rfl,⟨_,cQ.of (x1.sub _ _ ha)⟩,q _ hd _ G1 H1 x1 (Js ha e)⟩
def dQ(lo:Int)(n:Nat):List D:=(List.range n).map λ(k:Nat)=>D.int (lo+(k:Int))
theorem tH{lo:Int}{n i:Nat}(h:i<n):(dQ lo n)[i]? =some (.int (lo+i)):=by
 unfold dQ;rw [e7,wq h];rfl
theorem oe{G:Hp}(lo:Int)(n:Nat):uC Z G (HL lo n) (dQ lo n):=by
 intro G2 H2 s1 s2 i;have l:(dQ lo n).length=n:=by unfold dQ;simp
 rw [l];refine ⟨λhi=>hi,λhi=>hi,?_⟩;rintro x H' hi ⟨rfl,rfl⟩;exact ⟨G2,_, .refl s2,tH hi, .int _⟩
def Nv(t:iY):hJ:=λρ P=>t ρ λds=>match ds with
 | [.int j]=>(-(2^62)≤j∧j<2^62)∧P (dQ 0 j.toNat)
 |_=>False
def Nw(t:iY):hJ:=λρ P=>t ρ λds=>match ds with
 | [.int i, .int j]=>(-(2^62)≤i∧i<2^62∧-(2^62)≤j∧j<2^62)∧P (dQ i (j-i).toNat)
 |_=>False
variable {t:iY}
theorem pI{tg:Expr}{p:Pos}(hg:Gl X "range")(hm:X.mg "range"=none)(ha:DA Z X [a] t)(hs:starEach [a] X.env= [(false,eval a X.env)]:=by rfl):DI Z X tg (.Call (.Name "range" p) [a] [] pos) (Nv t):=by
 refine (vJ hg hm ha hs).imp ?_;rintro σ H Q ⟨G,ρ,P,s,en,h,q⟩;refine ⟨G,ρ,_,s,en,h,λds hd vs G1 H1 x1 dv=>?_⟩
 split at hd
 ·obtain ⟨_,rfl,a⟩:=dv.ofOne
  exact ⟨_,by rw [a.ofInt],hd.1.1,hd.1.2,q _ hd.2 _ G1 H1 x1 (oe 0 _)⟩
 ·exact hd.elim
theorem Di{tg:Expr}{p:Pos}(hg:Gl X "range")(hm:X.mg "range"=none)(ha:DA Z X [a,b] t)(hs:starEach [a,b] X.env= [(false,eval a X.env),(false,eval b X.env)]:=by rfl)(ja:starEach [b] X.env= [(false,eval b X.env)]:=by rfl):DI Z X tg (.Call (.Name "range" p) [a,b] [] pos) (Nw t):=by
 refine (vK hg hm ha hs ja).imp ?_;rintro σ H Q ⟨G,ρ,P,s,en,h,q⟩;refine ⟨G,ρ,_,s,en,h,λds hd vs G1 H1 x1 dv=>?_⟩
 split at hd
 ·obtain ⟨u1,u2,rfl,da,db⟩:=dv.JR
  exact ⟨_,_,by rw [da.ofInt,db.ofInt],hd.1,q _ hd.2 _ G1 H1 x1 (oe _ _)⟩
 ·exact hd.elim
def gW(l:List D):List D:=l.mapIdx λi x=> .tup [.int (i:Int),x]
def Lr(t:iY):hJ:=λρ P=>t ρ λds=>match ds with
 | [.lst l]=>P (gW l)
 |_=>False
theorem Jr{K:PySem.W.Frag}{G:Hp}{a:Addr}{xs:List V}{ds:List D}(h:G a=some (.lst xs))(e:av Z G xs ds):uC Z G (N8 K a) (gW ds):=by
 intro G2 H2 s1 s2 i;have h2:=cQ.of (K:=K) (s2 _ _ (s1 _ _ h));have l:=e.length;rw [show (gW ds).length=ds.length by unfold gW;simp]
 refine ⟨λhi=>⟨xs,xs[i],h2,bz (by omega)⟩,λhi=>⟨xs,h2,by omega⟩,?_⟩
 rintro x H' hi ⟨t,y,rfl,ht,rfl,hx⟩;obtain ⟨d,hd,dv⟩:=e.Fv (hx _ h2);refine ⟨_,_, .new s2 ht,by unfold gW;rw [List.getElem?_mapIdx,hd];rfl,?_⟩
 exact .tup aC (.cons (.int _) (.cons ((dv.mono s1).mono (aV (s2.free ht) _)) .nil))
theorem h8{p:Pos}{es:List Expr}{k1}{tp:Pos}(hg:Gl X "enumerate")(hm:X.mg "enumerate"=none)(ha:DA Z X [a] t)(hs:starEach [a] X.env= [(false,eval a X.env)]:=by rfl):DI Z X (.Tuple es k1 tp) (.Call (.Name "enumerate" p) [a] [] pos) (Lr t):=by
 refine (J6 hg hm ha hs).imp ?_;rintro σ H Q ⟨G,ρ,P,s,en,h,q⟩;refine ⟨G,ρ,_,s,en,h,λds hd vs G1 H1 x1 dv=>?_⟩
 split at hd
 ·obtain ⟨_,rfl,a⟩:=dv.ofOne
  obtain ⟨_,_,rfl,h,e⟩:=a.lj;exact ⟨_,rfl,⟨_,x1.sub _ _ h⟩,q _ hd _ G1 H1 x1 (Jr h e)⟩
 ·exact hd.elim
def vW(src:List (Option Nat))(ρ:DN):DN:=src.map λo=>o.bind λi=>(ρ[i]?).bind id
theorem dq.src{G:Hp}{σ:St}{ρ:DN}(e:dq Z G σ ρ)(src:List (Option Nat)):dq Z G (me src σ) (vW src ρ):=by
 refine ⟨by unfold me vW;simp,λi d h=>?_⟩
 unfold vW at h;unfold me;rw [e7] at h ⊢;cases k:src[i]? with
 |none=>rw [k] at h;cases h
 |some o=>
  rw [k] at h;cases o with
  |none=>cases h
  |some j=>
   have h':(ρ[j]?).bind id=some d:=Option.some.inj h;cases m:ρ[j]? with
   |none=>rw [m] at h';cases h'
   |some z=>
    rw [m] at h';have h2:z=some d:=h';subst h2;obtain ⟨v,hv,dv⟩:=e.at_ j d m;exact ⟨v,by show some ((σ[j]?).bind id)=_;rw [hv];rfl,dv⟩
def lcW(g:dR)(tt:dE)(te:br):List D→DN→List D→(DN→List D→Prop)→Prop
 | [],ρ,acc,N=>N ρ acc
 |x::xs,ρ,acc,N=>g x ρ λaW=>tt aW λb=>if b=true then te aW λd=>acc.length<sizeLine∧lcW g tt te xs aW (acc++ [d]) N else lcW g tt te xs aW acc N
def OG(wi:hJ)(g:dR)(tt:dE)(te:br)(src:List (Option Nat)):br:=λρ P=>wi ρ λds=>lcW g tt te ds (vW src ρ) [] λ_ out=>P (.lst out)
def ic(g:dR)(tt:dE)(cI:hJ)(g1:dR)(cq:dE)(te:br):List D→DN→List D→(List D→Prop)→Prop
 | [],_,acc,P=>P acc
 |x::xs,ρ,acc,P=>g x ρ λaW=>tt aW λb=>if b=true then cI aW λes=>lcW g1 cq te es aW acc λcN j7=>ic g tt cI g1 cq te xs cN j7 P else ic g tt cI g1 cq te xs aW acc P
def Il(wi:hJ)(g:dR)(tt:dE)(cI:hJ)(g1:dR)(cq:dE)(te:br)(src:List (Option Nat)):br:=λρ P=>wi ρ λds=>ic g tt cI g1 cq te ds (vW src ρ) [] λout=>P (.lst out)
def oU:dE:=λ_ P=>P true
def tZ(Z:DC)(X:Cx)(ifs:List Expr)(t:dE):Prop:=jS X ifs (liftT Z t)
theorem jS.imp{ifs:List Expr}{t t':TT}(h:jS X ifs t)(f:∀σ H Q,t' σ H Q→t σ H Q):jS X ifs t':=λpins s σ H Q I q=>h pins s σ H Q I (f _ _ _ q)
theorem eC:tZ Z X [] oU:=Kf.imp λσ H Q ⟨G,ρ,P,s,e,p,q⟩=>q _ p G H (.refl s)
theorem i9{tA:dE}(h:DT Z X c tA):tZ Z X [c] tA:=Kg h
def CS(Z:DC)(G1 H1:Hp)(Ad:Addr)(ρ:DN)(acc:List D)(σ:St)(H:Hp):Prop:=
 ∃(G:Hp)(ys:List V),aK G1 G∧aK G H∧aK H1 H∧(∀b,H1 b≠none→G1 b=none→G b=none)∧G Ad=none∧H Ad=some (.lst ys)∧av Z G ys acc∧dq Z G σ ρ
theorem fm{H H':Hp}(s:aK H H'){b:Addr}(h:H b≠none):H' b≠none:=λz=>by
 cases e:H b with
 |none=>exact h e
 |some o=>rw [s b o e] at z;cases z
theorem j9{α:Type}{l:List α}{i:Nat}{x:α}(h:l[i]? =some x):l.drop i=x::l.drop (i+1):=by
 obtain ⟨hi,e⟩:=eU.mp h;rw [rD hi,e]
theorem xT{G1 H1:Hp}{Ad:Addr}{J:It}{ds:List D}{g:dR}{tt:dE}{te:br}{N:DN→List D→Prop}(hA:H1 Ad=none)(G0:Hp)(it:uC Z G0 J ds)(i:Nat)(ρ:DN)(acc:List D)(σ:St)(H:Hp)
  (c:CS Z G1 H1 Ad ρ acc σ H) (hG:∀G,aK G1 G→aK G0 G) (hi:i<ds.length) (h:lcW g tt te (ds.drop i) ρ acc N):
  J.go i H∧∀x H3,J.yld i H x H3→ng Z g x σ H3 λfc H4=>liftT Z tt fc H4 λb H5=>
   if b=true then dJ Z te fc H5 λv H6=>∃ys,H6 Ad=some (.lst ys)∧ys.length<sizeLine∧(∃aD cm,CS Z G1 H1 Ad aD cm fc (upd H6 Ad (.lst (ys++ [v])))∧lcW g tt te (ds.drop (i+1)) aD cm N)
   else ∃aD cm,CS Z G1 H1 Ad aD cm fc H5∧lcW g tt te (ds.drop (i+1)) aD cm N:=by
 obtain ⟨G2,ys,s1,s2,s3,off,gA,kU,bB,en⟩:=c;obtain ⟨go,_,yld⟩:=it G2 H (hG _ s1) s2 i;refine ⟨go hi,λx H3 y=>?_⟩;obtain ⟨G3,d,x3,hd,dv⟩:=yld x H3 hi y;rw [j9 hd] at h;refine ⟨G3,ρ,d,_,x3.sub,en.mono x3.gg,dv,h,λaW h1 fc qw=>?_⟩;refine ⟨G3,aW,_,x3.sub,qw,h1,λb hb G5 H5 x5=>?_⟩;have ik:=x3.trans x5;have qQ:∀{G kN:Hp},Ext G2 H G kN→G Ad=none:=λx=>x.off Ad (by rw [kU];exact λz=>nomatch z) gA
 have ku:∀{G kN:Hp},Ext G2 H G kN→∀b,H1 b≠none→G1 b=none→G b=none:=λx b h1 h2=>x.off b (fm s3 h1) (off b h1 h2);cases b with
 |false=>
  refine dg ⟨aW,acc,⟨G5,ys,s1.trans ik.gg,ik.sub,s3.trans ik.hh,ku ik,qQ ik,ik.hh _ _ kU,bB.mono ik.gg,qw.mono x5.gg⟩,?_⟩;simpa using hb
 |true=>
  refine eY ⟨G5,aW,_,x5.sub,qw.mono x5.gg,(by simpa using hb),λd' oK v G6 H6 x6 X5=>?_⟩
  have x:=ik.trans x6;refine ⟨ys,x.hh _ _ kU,by rw [bB.length];exact oK.1,aW,_,⟨G6,ys++ [v],s1.trans x.gg,λb o e=>?_,λb o e=>?_,ku x,qQ x,aC,(bB.mono x.gg).snoc X5,(qw.mono x5.gg).mono x6.gg⟩,oK.2⟩
  ·rw [aG (aY e (qQ x))];exact x.sub _ _ e
  ·rw [aG (aY e hA)];exact (s3.trans x.hh) _ _ e
theorem CS.done{G H G1 H1 H2:Hp}{Ad:Addr}{ρ:DN}{acc:List D}{σ:St}(c:CS Z G1 H1 Ad ρ acc σ H2)(x1:Ext G H G1 H1)(hA:H1 Ad=none):∃G',Ext G H G' H2∧Dv Z G' (.ref Ad) (.lst acc):=by
 obtain ⟨G2,ys,s1,s2,s3,off,gA,kU,bB,en⟩:=c;refine ⟨upd G2 Ad (.lst ys),⟨(x1.gg.trans s1).trans (aV gA _),λb o e=>?_,x1.hh.trans s3,λb hb hg=>?_⟩, .lst aC (bB.mono (aV gA _))⟩
 ·by_cases z:b=Ad
  ·subst z;rw [aC] at e;cases e;exact kU
  ·rw [aG z] at e;exact s2 _ _ e
 ·have h1:=fm x1.hh hb
  rw [aG (λz=>h1 (by rw [z];exact hA))]
  exact off b h1 (x1.off b hb hg)
theorem CS.begin{G1 H1:Hp}{Ad:Addr}{ρ:DN}{σ:St}(s:aK G1 H1)(hA:H1 Ad=none)(en:dq Z G1 σ ρ):CS Z G1 H1 Ad ρ [] σ (upd H1 Ad (.lst [])):=
 ⟨G1,[], .refl _,λb o e=>by rw [aG (aY e (s.free hA))];exact s _ _ e,aV hA _,λ_ _ h=>h,s.free hA,aC, .nil,en⟩
variable {tg iter elt:Expr} {ifs:List Expr} {scope:Scope} {NC:List Str} {src:List (Option Nat)} {wi:hJ} {g:dR} {tt:dE}
theorem FA:∀σ H Q,dJ Z (OG wi g tt te src) σ H Q→MO (pT Z wi) (ng Z g) (liftT Z tt) (dJ Z te) src σ H Q:=by
 rintro σ H Q ⟨G,ρ,P,s,en,h,q⟩;refine ⟨G,ρ,_,s,en,h,λds hd J G1 H1 x1 it Ad hA=>?_⟩;refine ⟨λi m eV H2=>m=ds.length-i∧i≤ds.length∧∃cN acc,CS Z G1 H1 Ad cN acc eV H2∧lcW g tt te (ds.drop i) cN acc λ_ out=>P (.lst out),⟨_,rfl,cH _,_,[], .begin x1.sub hA ((en.mono x1.gg).src src),hd⟩,?_⟩;rintro i m eV H2 ⟨rfl,hi,cN,acc,c,hl⟩
 by_cases bN:i<ds.length
 ·obtain ⟨go,turn⟩:=xT hA G1 it i cN acc eV H2 c (λ_ s=>s) bN hl
  exact .inr ⟨go,_,λay H' n=>⟨ds.length-(i+1),by omega,rfl,bN,n⟩,turn⟩
 ·have e:ds.drop i= []:=wC (by omega)
  rw [e] at hl;obtain ⟨G',x,dv⟩:=c.done x1 hA;obtain ⟨G2,ys,s1,s2,_⟩:=c;exact .inl ⟨(it G2 H2 s1 s2 i).2.1 (by omega),q _ hl _ G' H2 x dv⟩
theorem kR(hc:X.calm=true)(c:b9 X scope)(dO:cR scope X.N src NC)(hi:DI Z X tg iter wi)
  (hg:∀ex s H,DG Z (bT X scope NC ex s H) tg g) (ht:∀ex s H,tZ Z (bT X scope NC ex s H) ifs tt) (he:∀ex s H,DE Z (bT X scope NC ex s H) elt te)
  (hs:∀x,foldedSetIterable iter X.env x=pure x:=by intro _;rfl):DE Z X (.ListComp elt [⟨tg,iter,ifs,0⟩] scope pos) (OG wi g tt te src):=(J0 hc c dO hi hg ht he hs).imp FA
variable {t0 i0 t1 i1:Expr} {f0 f1:List Expr} {cI:hJ} {g1:dR} {cq:dE}
theorem B4:∀σ H Q,dJ Z (Il wi g tt cI g1 cq te src) σ H Q→F7 (pT Z wi) (ng Z g) (liftT Z tt) (pT Z cI) (ng Z g1) (liftT Z cq) (dJ Z te) src σ H Q:=by
 rintro σ H Q ⟨G,ρ,P,s,en,h,q⟩;refine ⟨G,ρ,_,s,en,h,λds hd J G1 H1 x1 it Ad hA=>?_⟩;refine ⟨λi m eV H2=>m=ds.length-i∧i≤ds.length∧∃cN acc,CS Z G1 H1 Ad cN acc eV H2∧ic g tt cI g1 cq te (ds.drop i) cN acc λout=>P (.lst out),⟨_,rfl,cH _,_,[], .begin x1.sub hA ((en.mono x1.gg).src src),hd⟩,?_⟩;rintro i m eV H2 ⟨rfl,hi,cN,acc,c,hl⟩
 by_cases bN:i<ds.length
 ·have c0:=c
  obtain ⟨G2,ys,s1,s2,s3,off,gA,kU,bB,OT⟩:=c;obtain ⟨go,_,yld⟩:=it G2 H2 s1 s2 i;refine .inr ⟨go bN,λay H'=>∃aD cm,CS Z G1 H1 Ad aD cm ay H'∧ic g tt cI g1 cq te (ds.drop (i+1)) aD cm λout=>P (.lst out),λay H' n=>⟨ds.length-(i+1),by omega,rfl,bN,n⟩,λx H3 y=>?_⟩
  obtain ⟨G3,d,x3,I0,dv⟩:=yld x H3 bN y;rw [j9 I0] at hl;refine ⟨G3,cN,d,_,x3.sub,OT.mono x3.gg,dv,hl,λaW h1 fc qw=>?_⟩;refine ⟨G3,aW,_,x3.sub,qw,h1,λb hb G5 H5 x5=>?_⟩;have ik:=x3.trans x5;have qQ:∀{G kN:Hp},Ext G2 H2 G kN→G Ad=none:=λx=>x.off Ad (by rw [kU];exact λz=>nomatch z) gA
  have ku:∀{G kN:Hp},Ext G2 H2 G kN→∀b,H1 b≠none→G1 b=none→G b=none:=λx b h1 h2=>x.off b (fm s3 h1) (off b h1 h2);cases b with
  |false=>exact dg ⟨aW,acc,⟨G5,ys,s1.trans ik.gg,ik.sub,s3.trans ik.hh,ku ik,qQ ik,ik.hh _ _ kU,bB.mono ik.gg,qw.mono x5.gg⟩,by simpa using hb⟩
  |true=>
   refine eY ⟨G5,aW,_,x5.sub,qw.mono x5.gg,(by simpa using hb),λes Po J1 G6 H6 x6 zO=>?_⟩
   have x:=ik.trans x6;have c6:CS Z G6 H6 Ad aW acc fc H6→True:=λ_=>trivial
   refine ⟨λk m nV H7=>m=es.length-k∧k≤es.length∧∃(wN:DN)(mM:List D),(∃(G:Hp)(ys:List V),aK G6 G∧aK G H7∧aK H1 H7∧(∀b,H1 b≠none→G1 b=none→G b=none)∧G Ad=none∧H7 Ad=some (.lst ys)∧av Z G ys mM∧dq Z G nV wN)∧
    lcW g1 cq te (es.drop k) wN mM λcN j7=>ic g tt cI g1 cq te (ds.drop (i+1)) cN j7 λout=>P (.lst out),
    ⟨_,rfl,cH _,aW,acc,⟨G6,ys, .refl _,x.sub,s3.trans x.hh,ku x,qQ x,x.hh _ _ kU,bB.mono x.gg,(qw.mono x5.gg).mono x6.gg⟩,Po⟩,?_⟩
   rintro k m nV H7 ⟨rfl,hk,wN,mM,⟨G7,A2,a1,a2,a3,a4,a5,a6,a7,a8⟩,zI⟩;have O1:aK G1 G6:=s1.trans x.gg
   by_cases u4:k<es.length
   ·obtain ⟨O4,_,K2⟩:=zO G7 H7 a1 a2 k
    refine .inr ⟨O4 u4,λay H'=>∃(aD:DN)(cm:List D),(∃(G:Hp)(ys:List V),aK G6 G∧aK G H'∧aK H1 H'∧(∀b,H1 b≠none→G1 b=none→G b=none)∧G Ad=none∧H' Ad=some (.lst ys)∧av Z G ys cm∧dq Z G ay aD)∧
     lcW g1 cq te (es.drop (k+1)) aD cm λcN j7=>ic g tt cI g1 cq te (ds.drop (i+1)) cN j7 λout=>P (.lst out),λay H' n=>⟨es.length-(k+1),by omega,rfl,u4,n⟩,λy H8 hy=>?_⟩
    obtain ⟨G8,d8,x8,Pm,OQ⟩:=K2 y H8 u4 hy;rw [j9 Pm] at zI;refine ⟨G8,wN,d8,_,x8.sub,a8.mono x8.gg,OQ,zI,λBc h9 σ9 zw=>?_⟩;refine ⟨G8,Bc,_,x8.sub,zw,h9,λb hb HH HI wj=>?_⟩;have xx:=x8.trans wj;have oA:∀{G kN:Hp},Ext G7 H7 G kN→G Ad=none:=λx=>x.off Ad (by rw [a6];exact λz=>nomatch z) a5
    have oB:∀{G kN:Hp},Ext G7 H7 G kN→∀b,H1 b≠none→G1 b=none→G b=none:=λx b h1 h2=>x.off b (fm a3 h1) (a4 b h1 h2);cases b with
    |false=>exact dg ⟨Bc,mM,⟨HH,A2,a1.trans xx.gg,xx.sub,a3.trans xx.hh,oB xx,oA xx,xx.hh _ _ a6,a7.mono xx.gg,zw.mono wj.gg⟩,by simpa using hb⟩
    |true=>
     refine eY ⟨HH,Bc,_,wj.sub,zw.mono wj.gg,(by simpa using hb),λd' oK v N5 HJ K1 IF=>?_⟩
     have xz:=xx.trans K1;refine ⟨A2,xz.hh _ _ a6,by rw [a7.length];exact oK.1,Bc,_,⟨N5,A2++ [v],a1.trans xz.gg,λb o e=>?_,λb o e=>?_,oB xz,oA xz,aC,(a7.mono xz.gg).snoc IF,(zw.mono wj.gg).mono K1.gg⟩,oK.2⟩
     ·rw [aG (aY e (oA xz))];exact xz.sub _ _ e
     ·rw [aG (aY e hA)];exact (a3.trans xz.hh) _ _ e
   ·have e:es.drop k= []:=wC (by omega)
    rw [e] at zI;exact .inl ⟨(zO G7 H7 a1 a2 k).2.1 (by omega),wN,mM,⟨G7,A2,O1.trans a1,a2,a3,a4,a5,a6,a7,a8⟩,zI⟩
 ·have e:ds.drop i= []:=wC (by omega)
  rw [e] at hl;obtain ⟨G',x,dv⟩:=c.done x1 hA;obtain ⟨G2,ys,s1,s2,_⟩:=c;exact .inl ⟨(it G2 H2 s1 s2 i).2.1 (by omega),q _ hl _ G' H2 x dv⟩
theorem Ln(hc:X.calm=true)(c:b9 X scope)(dO:cR scope X.N src NC)(hi:DI Z X t0 i0 wi)
  (hg:∀ex s H,DG Z (bT X scope NC ex s H) t0 g) (ht:∀ex s H,tZ Z (bT X scope NC ex s H) f0 tt) (oM:∀ex s H,DI Z (bT X scope NC ex s H) t1 i1 cI) (u0:∀ex s H,DG Z (bT X scope NC ex s H) t1 g1)
  (u9:∀ex s H,tZ Z (bT X scope NC ex s H) f1 cq) (he:∀ex s H,DE Z (bT X scope NC ex s H) elt te)
  (hs:∀x,foldedSetIterable i0 X.env x=pure x:=by intro _;rfl) (qG:∀env x,foldedSetIterable i1 env x=pure x:=by intro _ _;rfl):
  DE Z X (.ListComp elt [⟨t0,i0,f0,0⟩,⟨t1,i1,f1,0⟩] scope pos) (Il wi g tt cI g1 cq te src):=(Mr hc c dO hi hg ht oM u0 u9 he hs qG).imp B4
end
inductive iZ (R:V→D→List Addr→Prop):List V→List D→List Addr→Prop
 |nil:iZ R [] [] []
 |cons {v:V} {vs:List V} {d:D} {ds:List D} {f fs:List Addr}:R v d f→iZ R vs ds fs→iZ R (v::vs) (d::ds) (f++fs)
def TM:D→Bool
 | .lst _=>true
 |_=>false
def Own(Z:DC)(G H:Hp):Nat→V→D→List Addr→Prop
 |0,v,d,fp=>Dv Z G v d∧fp= []
 |n+1,v,d,fp=>(∃a xs ds qz,v= .ref a∧d= .lst ds∧H a=some (.lst xs)∧fp=a::qz∧iZ (Own Z G H n) xs ds qz)∨(1≤n∧∃a xs ds,v= .ref a∧d= .tup ds∧G a=some (.tup xs)∧iZ (λv d f=>(TM d=true∧Own Z G H n v d f)∨(TM d=false∧Dv Z G v d∧f= [])) xs ds fp)∨(n=98∧∃a b ns,v= .ref a∧d= .set b ns∧H a=some (.ext (fF b a ns))∧fp= [a])
theorem Own.lst{Z:DC}{G H:Hp}{n:Nat}{v:V}{ds:List D}{fp:List Addr}(o:Own Z G H (n+1) v (.lst ds) fp):∃a xs qs qz,v= .ref a∧D.lst ds= .lst qs∧H a=some (.lst xs)∧fp=a::qz∧iZ (Own Z G H n) xs qs qz:=by
 rcases o with o| ⟨_,a,xs,ds,_,e,_⟩ | ⟨_,a,b,ns,_,e,_⟩
 ·exact o
 ·cases e
 ·cases e
theorem Own.NW{Z:DC}{G H:Hp}{v:V}{b:Bool}{ns:List Int}{fp:List Addr}(o:Own Z G H 99 v (.set b ns) fp):∃a,v= .ref a∧H a=some (.ext (fF b a ns))∧fp= [a]:=by
 rcases o with ⟨_,_,_,_,_,e,_⟩ | ⟨_,a,xs,ds,_,e,_⟩ | ⟨_,a,b,ns,h1,e,h2,h3⟩
 ·cases e
 ·cases e
 ·cases e;exact ⟨a,h1,h2,h3⟩
theorem Own.one{Z:DC}{G H:Hp}{v:V}{d:D}{fp:List Addr}(o:Own Z G H 1 v d fp):∃a xs ds qz,v= .ref a∧d= .lst ds∧H a=some (.lst xs)∧fp=a::qz∧iZ (Own Z G H 0) xs ds qz:=by
 rcases o with o| ⟨z,_⟩ | ⟨z,_⟩
 ·exact o
 ·exact absurd z (by decide)
 ·exact absurd z (by decide)
theorem iZ.imp{R R':V→D→List Addr→Prop}:∀{vs:List V}{ds:List D}{fp:List Addr},iZ R vs ds fp→(∀v d f,(∀b∈f,b∈fp)→R v d f→R' v d f)→iZ R' vs ds fp
 |_,_,_, .nil,_=> .nil
 |_,_,_, .cons a as,h=> .cons (h _ _ _ (λb hb=>fL _ hb) a) (as.imp λv d f hf r=>h v d f (λb hb=>cG _ (hf b hb)) r)
section
variable {Z:DC} {G G' H H':Hp}
theorem Own.keep:∀{n:Nat}{v:V}{d:D}{fp:List Addr},Own Z G H n v d fp→aK G G'→(∀b∈fp,H' b=H b)→Own Z G' H' n v d fp
 |0,_,_,_,⟨a,b⟩,s,_=>⟨a.mono s,b⟩
 |n+1,_,_,_, .inl ⟨a,xs,ds,qz,hv,hd,ha,hf,ho⟩,s,k=>by
  subst hf;exact .inl ⟨a,xs,ds,qz,hv,hd,by rw [k a (cD ..)];exact ha,rfl,ho.imp λv d f hb r=>Own.keep r s λb q=>k b (cM _ (hb b q))⟩
 |n+1,_,_,_, .inr (.inl ⟨h1,a,xs,ds,hv,hd,ha,ho⟩),s,k=> .inr (.inl ⟨h1,a,xs,ds,hv,hd,s _ _ ha,ho.imp λv d f hb r=>r.imp (λr=>⟨r.1,Own.keep r.2 s λb q=>k b (hb b q)⟩) λr=>⟨r.1,r.2.1.mono s,r.2.2⟩⟩)
 |n+1,_,_,_, .inr (.inr ⟨h1,a,b,ns,hv,hd,ha,hf⟩),s,k=> .inr (.inr ⟨h1,a,b,ns,hv,hd,by rw [k a (by rw [hf];exact cD ..)];exact ha,hf⟩)
theorem iZ.BD{R:V→D→List Addr→Prop}:∀{vs:List V}{ds:List D}{fp:List Addr},iZ R vs ds fp→(∀v d f,(∀b∈f,b∈fp)→R v d f→Dv Z G' v d)→av Z G' vs ds
 |_,_,_, .nil,_=> .nil
 |_,_,_, .cons a as,k=> .cons (k _ _ _ (λb hb=>fL _ hb) a) (as.BD λv d f hf r=>k v d f (λb hb=>cG _ (hf b hb)) r)
theorem Own.dv:∀{n:Nat}{v:V}{d:D}{fp:List Addr},Own Z G H n v d fp→aK G G'→(∀b∈fp,∀o,H b=some o→G' b=some o)→Dv Z G' v d
 |0,_,_,_,⟨a,_⟩,s,_=>a.mono s
 |n+1,_,_,_, .inl ⟨a,xs,ds,qz,hv,hd,ha,hf,ho⟩,s,k=>by
  subst hf hv hd;exact .lst (k a (cD ..) _ ha) (ho.BD λv d f hf r=>Own.dv r s λb hb=>k b (cM _ (hf b hb)))
 |n+1,_,_,_, .inr (.inl ⟨_,a,xs,ds,hv,hd,ha,ho⟩),s,k=>by
  subst hv hd;exact .tup (s _ _ ha) (ho.BD λv d f hf r=>r.elim (λr=>Own.dv r.2 s λb hb=>k b (hf b hb)) λr=>r.2.1.mono s)
 |n+1,_,_,_, .inr (.inr ⟨_,a,b,ns,hv,hd,ha,hf⟩),s,k=>by
  subst hv hd hf;exact .set (k a (cD ..) _ ha)
theorem iZ.flat:∀{vs:List V}{ds:List D}{fp:List Addr},iZ (Own Z G H 0) vs ds fp→av Z G vs ds∧fp= []
 |_,_,_, .nil=>⟨.nil,rfl⟩
 |_,_,_, .cons a as=>by
  obtain ⟨h1,h2⟩:=as.flat;obtain ⟨a1,a2⟩:=a;exact ⟨.cons a1 h1,by rw [a2,h2];rfl⟩
theorem av.own:∀{vs:List V}{ds:List D},av Z G vs ds→iZ (Own Z G H 0) vs ds []
 |_,_, .nil=> .nil
 |_,_, .cons a as=> .cons (f:= []) (fs:= []) ⟨a,rfl⟩ as.own
theorem Dv.flat{v:V}{d:D}(h:Dv Z G v d)(f:fH d=true):Dv Z G' v d:=by
 cases h with
 |bo=>exact .bo
 |bl b=>exact .bl b
 |int i=>exact .int i
 |str x k=>exact .str x k
 |_=>cases f
end
mutual
def oO:D→Bool
 | .bo=>true
 | .bl _=>true
 | .int _=>true
 | .str _=>true
 | .tup l=>FF l
 |_=>false
def FF:List D→Bool
 | []=>true
 |d::ds=>oO d&&FF ds
end
mutual
theorem Dv.oO{Z:DC}{G G':Hp}(k:∀b xs,G b=some (.tup xs)→G' b=some (.tup xs)):∀{v:V}{d:D},Dv Z G v d→L2.oO d=true→Dv Z G' v d
 |_,_, .bo,_=> .bo
 |_,_, .bl b,_=> .bl b
 |_,_, .int i,_=> .int i
 |_,_, .str x h,_=> .str x h
 |_,_, .tup h a,f=> .tup (k _ _ h) (av.oO k a (by rw [L2.oO] at f;exact f))
 |_,_, .lst _ _,f=>by simp [L2.oO] at f
 |_,_, .obj _,f=>by simp [L2.oO] at f
 |_,_, .rng _,f=>by simp [L2.oO] at f
 |_,_, .kH _ _,f=>by simp [L2.oO] at f
 |_,_, .fo _ _ _ _ _,f=>by simp [L2.oO] at f
 |_,_, .set _,f=>by simp [L2.oO] at f
theorem av.oO{Z:DC}{G G':Hp}(k:∀b xs,G b=some (.tup xs)→G' b=some (.tup xs)):∀{vs:List V}{ds:List D},av Z G vs ds→FF ds=true→av Z G' vs ds
 |_,_, .nil,_=> .nil
 |_,_, .cons a as,f=>by
  rw [FF,tW] at f;exact .cons (Dv.oO k a f.1) (av.oO k as f.2)
end
def NS:HO→Bool
 | .lst _=>true
 | .ext _=>true
 |_=>false
theorem Own.OR{Z:DC}{G G' H:Hp}:∀{n:Nat}{v:V}{d:D}{fp:List Addr},Own Z G H n v d fp→aK G G'→(∀b∈fp,∀o,NS o=true→H b=some o→G' b=some o)→Dv Z G' v d
 |0,_,_,_,⟨a,_⟩,s,_=>a.mono s
 |n+1,_,_,_, .inl ⟨a,xs,ds,qz,hv,hd,ha,hf,ho⟩,s,k=>by
  subst hf hv hd;exact .lst (k a (cD ..) _ rfl ha) (ho.BD λv d f hf r=>Own.OR r s λb hb=>k b (cM _ (hf b hb)))
 |n+1,_,_,_, .inr (.inl ⟨_,a,xs,ds,hv,hd,ha,ho⟩),s,k=>by
  subst hv hd;exact .tup (s _ _ ha) (ho.BD λv d f hf r=>r.elim (λr=>Own.OR r.2 s λb hb=>k b (hf b hb)) λr=>r.2.1.mono s)
 |n+1,_,_,_, .inr (.inr ⟨_,a,b,ns,hv,hd,ha,hf⟩),s,k=>by
  subst hv hd hf;exact .set (k a (cD ..) _ rfl ha)
structure Bs where
 G₀:Hp
 H₀:Hp
 Gf:Hp
structure SIx (Z:DC) (B:Bs) (md:List Nat) (ρ:DN) (σ:St) (H G:Hp) (fp:Nat→List Addr):Prop where
 ex:Ext B.G₀ B.H₀ G H
 fl:aK B.Gf G
 len:ρ.length=σ.length
 at_:∀(i:Nat)(d:D),ρ[i]? =some (some d)→∃v,σ[i]? =some (some v)∧Own Z G H (md.getD i 0) v d (fp i)
 nd:∀i,(fp i).Nodup
 ap:∀i j b,i≠j→b∈fp i→b∉fp j
 nw:∀i b,b∈fp i→B.H₀ b=none∧H b≠none∧G b=none
def SI(Z:DC)(B:Bs)(md:List Nat)(ρ:DN)(σ:St)(H:Hp):Prop:=∃G fp,SIx Z B md ρ σ H G fp
def eT:List Nat→DN→DN
 |_,[]=> []
 | [],o::ρ=>o::ρ
 |0::md,o::ρ=>o::eT md ρ
 | (_+1)::md,_::ρ=>none::eT md ρ
theorem p5:∀(md:List Nat)(ρ:DN),(eT md ρ).length=ρ.length
 |md,[]=>by cases md<;>rfl
 | [],o::ρ=>rfl
 |0::md,o::ρ=>by rw [eT,dB,p5 md ρ,dB]
 | (_+1)::md,_::ρ=>by rw [eT,dB,p5 md ρ,dB]
theorem sF{d:D}:∀(md:List Nat)(ρ:DN)(i:Nat),(eT md ρ)[i]? =some (some d)→md.getD i 0=0∧ρ[i]? =some (some d)
 |md,[],i,h=>by cases md<;>simp [eT] at h
 | [],o::ρ,i,h=>⟨by simp,h⟩
 |0::md,o::ρ,0,h=>⟨rfl,by simpa [eT] using h⟩
 |0::md,o::ρ,i+1,h=>by
  rw [eT,tS] at h;obtain ⟨a,b⟩:=sF md ρ i h;exact ⟨by rw [mj];exact a,by rw [tS];exact b⟩
 | (_+1)::md,_::ρ,0,h=>by simp [eT] at h
 | (_+1)::md,_::ρ,i+1,h=>by
  rw [eT,tS] at h;obtain ⟨a,b⟩:=sF md ρ i h;exact ⟨by rw [mj];exact a,by rw [tS];exact b⟩
def EY(md:List Nat):Bool→DN→DN
 |true,ρ=>ρ
 |false,ρ=>eT md ρ
def qx:Bool→D→Prop
 |true,d=>oO d=true
 |false,_=>True
section
variable {Z:DC} {B:Bs} {md:List Nat} {ρ:DN} {σ:St} {H G:Hp} {fp:Nat→List Addr}
theorem EA{i:Nat}{d:D}(h:(eT md ρ)[i]? =some (some d)):md.getD i 0=0∧ρ[i]? =some (some d):=sF md ρ i h
theorem SIx.II(S:SIx Z B md ρ σ H G fp):dq Z G σ (eT md ρ):=by
 refine ⟨by rw [p5];exact S.len,λi d h=>?_⟩
 obtain ⟨z,h⟩:=EA h;obtain ⟨v,hv,o⟩:=S.at_ i d h;rw [z] at o;exact ⟨v,hv,o.1⟩
theorem SIx.IH(S:SIx Z B md ρ σ H G fp):dq Z H σ ρ:=by
 refine ⟨S.len,λi d h=>?_⟩;obtain ⟨v,hv,o⟩:=S.at_ i d h;exact ⟨v,hv,o.dv S.ex.sub λb _ u e=>e⟩
theorem SIx.grow{G' H':Hp}(S:SIx Z B md ρ σ H G fp)(x:Ext G H G' H'):SIx Z B md ρ σ H' G' fp where
 ex:=S.ex.trans x
 fl:=S.fl.trans x.gg
 len:=S.len
 at_:=λi d h=>by
  obtain ⟨v,hv,o⟩:=S.at_ i d h;refine ⟨v,hv,o.keep x.gg λb hb=>?_⟩;cases e:H b with
  |none=>exact absurd e (S.nw i b hb).2.1
  |some u=>exact x.hh _ _ e
 nd:=S.nd
 ap:=S.ap
 nw:=λi b hb=>let ⟨h1,h2,h3⟩:=S.nw i b hb;⟨h1,fm x.hh h2,x.off b h2 h3⟩
theorem Ext.all{G' H':Hp}(s:aK G H)(x:Ext H H G' H'):Ext G H G H':=⟨.refl _,s.trans x.hh,x.hh,λ_ _ h=>h⟩
open Classical in
noncomputable def iC(G H:Hp)(fp:Nat→List Addr):Hp:=λb=>if ∃i,b∈fp i then (match H b with|some (.lst xs)=>some (.lst xs) |some (.ext φ)=>some (.ext φ) |_=>none) else G b
open Classical in
noncomputable def rZ(G:Hp)(fp:Nat→List Addr):Hp:=λb=>if ∃i,b∈fp i then none else G b
theorem HF{b:Addr}{o:HO}(i:Nat)(h:b∈fp i)(ho:NS o=true)(e:H b=some o):iC G H fp b=some o:=by
 unfold iC;rw [if_pos ⟨i,h⟩,e];cases o<;>first|rfl|cases ho
theorem qg{b:Addr}(h:¬∃i,b∈fp i):iC G H fp b=G b:=if_neg h
theorem SIx.Nz(S:SIx Z B md ρ σ H G fp):aK G (iC G H fp)∧aK (iC G H fp) H∧dq Z (iC G H fp) σ ρ:=by
 have s1:aK G (iC G H fp):=λb o e=>by
  by_cases h:∃i,b∈fp i
  ·obtain ⟨i,hi⟩:=h
   rw [(S.nw i b hi).2.2] at e;cases e
  ·rw [qg h];exact e
 refine ⟨s1,λb o e=>?_,S.len,λi d h=>?_⟩
 ·by_cases h:∃i,b∈fp i
  ·unfold iC at e
   rw [if_pos h] at e
   split at e
   ·next xs hx=>rw [hx];exact e
   ·next φ hx=>rw [hx];exact e
   ·cases e
  ·rw [qg h] at e;exact S.ex.sub _ _ e
 ·obtain ⟨v,hv,o⟩:=S.at_ i d h
  exact ⟨v,hv,o.OR s1 λb hb u hu hx=>HF i hb hu hx⟩
theorem SIx.Vb{G' H':Hp}(S:SIx Z B md ρ σ H G fp)(x:Ext (iC G H fp) H G' H'):Ext G H (rZ G' fp) H'∧∀b xs,G' b=some (.tup xs)→rZ G' fp b=some (.tup xs):=by
 obtain ⟨s1,s2,_⟩:=S.Nz;refine ⟨⟨λb o e=>?_,λb o e=>?_,x.hh,λb hb hg=>?_⟩,λb xs e=>?_⟩
 ·have h:¬∃i,b∈fp i:=by
   rintro ⟨i,hi⟩;rw [(S.nw i b hi).2.2] at e;cases e
  unfold rZ;rw [if_neg h];exact x.gg _ _ (s1 _ _ e)
 ·unfold rZ at e
  split at e
  ·cases e
  ·exact x.sub _ _ e
 ·unfold rZ
  split
  ·rfl
  ·next h=>exact x.off b hb (by rw [qg h];exact hg)
 ·have h:¬∃i,b∈fp i:=by
   rintro ⟨i,hi⟩;have hb:=(S.nw i b hi).2.1;cases hw:iC G H fp b with
   |none=>rw [x.off b hb hw] at e;cases e
   |some o=>
    have:=x.gg _ _ hw
    rw [e] at this;cases this;unfold iC at hw;rw [if_pos ⟨i,hi⟩] at hw
    split at hw<;>cases hw
  unfold rZ;rw [if_neg h];exact e
theorem SIx.ev{t:br}{P:D→Prop}{Q:VK}(S:SIx Z B md ρ σ H G fp)(m:Bool)(h:t (EY md m ρ) P)
  (hq:∀d,P d→qx m d∧∀v G' H',SIx Z B md ρ σ H' G' fp→Ext G H G' H'→Dv Z G' v d→Q v H'):dJ Z t σ H Q:=by
 cases m with
 |false=>exact ⟨G,_,P,S.ex.sub,S.II,h,λd hd v G' H' x dv=>(hq d hd).2 v G' H' (S.grow x) x dv⟩
 |true=>
  obtain ⟨s1,s2,e⟩:=S.Nz;refine ⟨iC G H fp,_,P,s2,e,h,λd hd v G' H' x dv=>?_⟩;obtain ⟨x',k⟩:=S.Vb x;exact (hq d hd).2 v _ H' (S.grow x') x' (dv.oO k (hq d hd).1)
theorem SIx.SA{t:dE}{P:Bool→Prop}{Q:Bool→Hp→Prop}(S:SIx Z B md ρ σ H G fp)(h:t ρ P)(hq:∀b,P b→∀H',SIx Z B md ρ σ H' G fp→Q b H'):liftT Z t σ H Q:=
 ⟨H,ρ,P, .refl _,S.IH,h,λb hb G' H' x=>hq b hb H' (S.grow (Ext.all S.ex.sub x))⟩
theorem SIx.Cw{i:Nat}{v:V}{d:D}(S:SIx Z B md ρ σ H G fp)(hm:md.getD i 0=0)(dv:Dv Z G v d):SIx Z B md (ρ.set i (some d)) (σ.set i (some v)) H G (λj=>if j=i then [] else fp j) where
 ex:=S.ex
 fl:=S.fl
 len:=by rw [mn,mn];exact S.len
 at_:=λj c h=>by
  by_cases z:i=j
  ·subst z
   by_cases hi:i<ρ.length
   ·rw [rE hi] at h
    cases h;exact ⟨v,rE (by rw [←S.len];exact hi),by rw [hm,if_pos rfl];exact ⟨dv,rfl⟩⟩
   ·rw [A5 (pA hi),mh (pA hi)] at h;cases h
  ·rw [y8 z] at h ⊢
   rw [if_neg (Ne.symm z)];exact S.at_ j c h
 nd:=λj=>by split;exact mw;exact S.nd j
 ap:=λj k b ne hj hk=>by
  split at hj
  ·cases hj
  ·split at hk
   ·cases hk
   ·exact S.ap j k b ne hj hk
 nw:=λj b hb=>by
  split at hb
  ·cases hb
  ·exact S.nw j b hb
theorem SIx.NX{i n:Nat}{v:V}{d:D}{f:List Addr}(S:SIx Z B md ρ σ H G fp)(hm:md.getD i 0=n)(o:Own Z G H n v d f)(nd:f.Nodup)(nw:∀b∈f,B.H₀ b=none∧H b≠none∧G b=none)(ap:∀b∈f,∀j,j≠i→b∉fp j):
  SIx Z B md (ρ.set i (some d)) (σ.set i (some v)) H G (λj=>if j=i then f else fp j) where
 ex:=S.ex
 fl:=S.fl
 len:=by rw [mn,mn];exact S.len
 at_:=λj c h=>by
  by_cases z:i=j
  ·subst z
   by_cases hi:i<ρ.length
   ·rw [rE hi] at h
    cases h;exact ⟨v,rE (by rw [←S.len];exact hi),by rw [hm,if_pos rfl];exact o⟩
   ·rw [A5 (pA hi),mh (pA hi)] at h;cases h
  ·rw [y8 z] at h ⊢
   rw [if_neg (Ne.symm z)];exact S.at_ j c h
 nd:=λj=>by split;exact nd;exact S.nd j
 ap:=λj k b ne hj hk=>by
  split at hj
  ·next z=>
   rw [if_neg (λw=>ne (z.trans w.symm))] at hk;exact ap b hj k (λw=>ne (z.trans w.symm)) hk
  ·next z=>
   split at hk
   ·exact ap b hk j z hj
   ·exact S.ap j k b ne hj hk
 nw:=λj b hb=>by
  split at hb
  ·exact nw b hb
  ·exact S.nw j b hb
noncomputable def plus(G H:Hp)(F:Addr→Prop):Hp:=λb=>open Classical in if F b then H b else G b
theorem nv{F:Addr→Prop}{b:Addr}(h:F b):plus G H F b=H b:=by unfold plus;rw [if_pos h]
theorem kz{F:Addr→Prop}{b:Addr}(h:¬F b):plus G H F b=G b:=by unfold plus;rw [if_neg h]
theorem kA{F:Addr→Prop}(s:aK G H):aK (plus G H F) H:=λb o e=>by
 by_cases h:F b
 ·rw [nv h] at e;exact e
 ·rw [kz h] at e;exact s _ _ e
theorem iV{F:Addr→Prop}(s:aK G H):aK G (plus G H F):=λb o e=>by
 by_cases h:F b
 ·rw [nv h];exact s _ _ e
 ·rw [kz h];exact e
theorem SIx.Ya{t:br}{P:D→Prop}{Q:VK}(S:SIx Z B md ρ σ H G fp)(h:t ρ P)(hq:∀d,P d→∀v G' H',Ext B.G₀ B.H₀ G' H'→Dv Z G' v d→Q v H'):dJ Z t σ H Q:=by
 let F:Addr→Prop:=λb=>∃i,b∈fp i
 have s:=S.ex.sub
 have x0:Ext B.G₀ B.H₀ (plus G H F) H:=⟨S.ex.gg.trans (iV s),kA s,S.ex.hh,λb hb hg=>by
  rw [kz (λ⟨i,hi⟩=>hb (S.nw i b hi).1)];exact S.ex.off b hb hg⟩
 refine ⟨plus G H F,ρ,P,kA s,⟨S.len,λi d h=>?_⟩,h,λd hd v G' H' x dv=>hq d hd v G' H' (x0.trans x) dv⟩;obtain ⟨v,hv,o⟩:=S.at_ i d h;exact ⟨v,hv,o.dv (iV s) λb hb u e=>by rw [nv ⟨i,hb⟩];exact e⟩
end
structure gT where
 nx:DN→Prop
 rt:D→Prop
 bk:DN→Prop:=λ_=>False
 ct:DN→Prop:=λ_=>False
abbrev e8:=gT→DN→Prop
structure Meets (Z:DC) (B:Bs) (md:List Nat) (rn:Nat) (E:gT) (Dn:Ends):Prop where
 nx:∀ρ,E.nx ρ→∀σ H,SI Z B md ρ σ H→Dn.nx σ H
 rt:∀d,E.rt d→∀v f G' H',Ext B.G₀ B.H₀ G' H'→Own Z G' H' rn v d f→f.Nodup→(∀b∈f,B.H₀ b=none∧H' b≠none∧G' b=none)→Dn.rt v H'
 bk:∀ρ,E.bk ρ→∀σ H,SI Z B md ρ σ H→Dn.bk σ H
 ct:∀ρ,E.ct ρ→∀σ H,SI Z B md ρ σ H→Dn.ct σ H
def pU(Z:DC)(md:List Nat)(rn:Nat)(t:e8):TS:=λDn σ H=>∃(B:Bs)(ρ:DN)(E:gT),SI Z B md ρ σ H∧t E ρ∧Meets Z B md rn E Dn
def DSt(Z:DC)(X:Cx)(md:List Nat)(rn:Nat)(st:Stmt)(t:e8):Prop:=PS X st (pU Z md rn t)
def uA(Z:DC)(X:Cx)(md:List Nat)(rn:Nat)(MM:List Stmt)(t:e8):Prop:=mK X MM (pU Z md rn t)
theorem PS.imp{X:Cx}{st:Stmt}{t t':TS}(h:PS X st t)(f:∀D σ H,t' D σ H→t D σ H):PS X st t':=λpins s σ H D I q=>h pins s σ H D I (f _ _ _ q)
theorem mK.imp{X:Cx}{st:List Stmt}{t t':TS}(h:mK X st t)(f:∀D σ H,t' D σ H→t D σ H):mK X st t':=λpins s σ H D I q=>h pins s σ H D I (f _ _ _ q)
section
variable {Z:DC} {X:Cx} {md:List Nat} {rn:Nat} {st:Stmt} {MM:List Stmt} {t u:e8} {e:Expr} {te:br} {pos:Pos}
def Ip:e8:=λE ρ=>E.nx ρ
def tx(t u:e8):e8:=λE ρ=>t {E with nx:=u E} ρ
theorem bJ:uA Z X md rn [] Ip:=Kd.imp λD σ H ⟨B,ρ,E,S,h,M⟩=>M.nx _ h _ _ S
theorem ah(h1:DSt Z X md rn st t)(h2:uA Z X md rn MM u):uA Z X md rn (st::MM) (tx t u):=
 (kB h1 h2).imp λD σ H ⟨B,ρ,E,S,h,M⟩=>⟨B,ρ,_,S,h,⟨λaD h' ay H' S'=>⟨B,aD,E,S',h',M⟩,M.rt,M.bk,M.ct⟩⟩
theorem au(h1:DSt Z X md rn st t):uA Z X md rn [st] t:=Cp h1
theorem xw:DSt Z X md rn st (λ_ _=>False):=Hh.imp λD σ H ⟨B,ρ,E,S,h,M⟩=>h
def R5(te:br):e8:=λE ρ=>te ρ E.rt
theorem aM(he:DE Z X e te):DSt Z X md 0 (.Return (some e) pos) (R5 te):=(FT he).imp λD σ H ⟨B,ρ,E,⟨G,fp,S⟩,h,M⟩=>S.Ya h λd hd v G' H' x dv=>M.rt d hd v [] G' H' x ⟨dv,rfl⟩ mw (λb hb=>by cases hb)
def Nr(c:dE)(t u:e8):e8:=λE ρ=>c ρ λb=>if b=true then t E ρ else u E ρ
theorem cY{c:Expr}{a b:List Stmt}{tc:dE}(hc:DT Z X c tc)(ha:uA Z X md rn a t)(hb:uA Z X md rn b u):DSt Z X md rn (.If c a b pos) (Nr tc t u):=by
 refine (Qe hc ha hb).imp ?_;rintro D σ H ⟨B,ρ,E,⟨G,fp,S⟩,h,M⟩;refine S.SA h λb hb H' S'=>?_;cases b with
 |true=>exact eY ⟨B,ρ,E,⟨G,fp,S'⟩,(by simpa using hb),M⟩
 |false=>exact dg ⟨B,ρ,E,⟨G,fp,S'⟩,(by simpa using hb),M⟩
def Iu(md:List Nat)(m:Bool)(i:Nat)(te:br):e8:=λE ρ=>te (EY md m ρ) λd=>qx m d∧E.nx (ρ.set i (some d))
theorem aF(m:Bool)(i:Nat){x:Str}{pos':Pos}(hN:X.N.Nodup)(he:DE Z X e te)(hm:md.getD i 0=0:=by rfl)(hi:X.N[i]? =some x:=by rfl)(hx:Loc X.env.scope x:=by first|exact Or.inl rfl|exact Or.inr rfl)(hs:swapsWith e (some (.Name x pos')) pos.line X.env=pure false:=by rfl)
  (hf:X.fn x=true∨X.env.scope.names.lookup x=some .local:=by first|exact .inl rfl|exact .inr rfl|assumption):DSt Z X md rn (.Assign [.Name x pos'] e pos) (Iu md m i te):=by
 refine (uw hN hi hx he hs hf).imp ?_;rintro D σ H ⟨B,ρ,E,⟨G,fp,S⟩,h,M⟩;exact S.ev m h λd hd=>⟨hd.1,λv G' H' S' x dv=>M.nx _ hd.2 _ _ ⟨G',_,S'.Cw hm dv⟩⟩
theorem Gs(i:Nat){x:Str}{px ij:Pos}{tg iter elt:Expr}{ifs:List Expr}{scope:Scope}{NC:List Str}{src:List (Option Nat)}{wi:hJ}{g:dR}{tt:dE}(hc:X.calm=true)(hN:X.N.Nodup)(c:b9 X scope)(dO:cR scope X.N src NC)(hi:DI Z X tg iter wi)
  (hg:∀ex s H,DG Z (bT X scope NC ex s H) tg g) (ht:∀ex s H,tZ Z (bT X scope NC ex s H) ifs tt) (he:∀ex s H,DE Z (bT X scope NC ex s H) elt te)
  (kW:swapsWith (.ListComp elt [⟨tg,iter,ifs,0⟩] scope pos) (some (.Name x px)) ij.line X.env=pure true:=by rfl) (hm:md.getD i 0=0:=by rfl) (iK:X.N[i]? =some x:=by rfl) (hx:Loc X.env.scope x:=by first|exact Or.inl rfl|exact Or.inr rfl)
  (hf:X.fn x=true∨X.env.scope.names.lookup x=some .local:=by first|exact .inl rfl|exact .inr rfl|assumption)
  (hs:∀x,foldedSetIterable iter X.env x=pure x:=by intro _;rfl):DSt Z X md rn (.Assign [.Name x px] (.ListComp elt [⟨tg,iter,ifs,0⟩] scope pos) ij) (Iu md false i (OG wi g tt te src)):=by
 refine (yh hc hN iK hx c dO hi hg ht he kW hf hs).imp ?_;rintro D σ H ⟨B,ρ,E,⟨G,fp,S⟩,h,M⟩;refine FA σ H _ (S.ev false h λd hd=>⟨hd.1,λv G' H' S' x dv=>M.nx _ hd.2 _ _ ⟨G',_,S'.Cw hm dv⟩⟩)
end
end L2
namespace L2
open PySem PySem.Spec PyProof.Rows
section
variable {Z:DC} {X:Cx} {B:Bs} {md:List Nat} {rn:Nat} {ρ:DN} {σ:St} {H G:Hp} {fp:Nat→List Addr}
def Fz(Z:DC)(md:List Nat)(g:dR):TG:=λv σ H Q=>∃(B:Bs)(ρ:DN)(d:D)(P:DN→Prop)(G:Hp)(fp:Nat→List Addr),SIx Z B md ρ σ H G fp∧Dv Z G v d∧g d ρ P∧∀aD,P aD→∀ay Dy,SIx Z B md aD ay H G Dy→Q ay H
def JB(Z:DC)(md:List Nat)(g:lM):wR:=λvs σ H Q=>∃(B:Bs)(ρ:DN)(ds:List D)(P:DN→Prop)(G:Hp)(fp:Nat→List Addr),SIx Z B md ρ σ H G fp∧av Z G vs ds∧g ds ρ P∧∀aD,P aD→∀ay Dy,SIx Z B md aD ay H G Dy→Q ay H
def Gd(Z:DC)(X:Cx)(md:List Nat)(e:Expr)(g:dR):Prop:=PG X e (Fz Z md g)
def Fd(Z:DC)(X:Cx)(md:List Nat)(es:List Expr)(g:lM):Prop:=zd X es (JB Z md g)
theorem aR(i:Nat){x:Str}{pos:Pos}(hN:X.N.Nodup)(hm:md.getD i 0=0:=by rfl)(hi:X.N[i]? =some x:=by rfl)(hx:Loc X.env.scope x:=by first|exact Or.inl rfl|exact Or.inr rfl)(hf:X.fn x=true∨X.env.scope.names.lookup x=some .local:=by first|exact .inl rfl|exact .inr rfl|assumption):Gd Z X md (.Name x pos) (um i):=
 (Ci hN hi hx hf).imp λv σ H Q ⟨B,ρ,d,P,G,fp,S,dv,h,q⟩=>q _ h _ _ (S.Cw hm dv)
theorem dS:Fd Z X md [] Iz:=Cj.imp λv σ H Q ⟨B,ρ,ds,P,G,fp,S,dv,⟨h,p⟩,q⟩=>by
 subst h;cases dv;exact ⟨rfl,q _ p _ _ S⟩
theorem bx{e:Expr}{es:List Expr}{g:dR}{gs:lM}(h1:Gd Z X md e g)(h2:Fd Z X md es gs)(hs:(assignEach (e::es) X.env).map (·.2)=assign e X.env::(assignEach es X.env).map (·.2):=by rfl):Fd Z X md (e::es) (Fn g gs):=by
 refine (ye h1 h2 hs).imp ?_;rintro v σ H Q ⟨B,ρ,ds,P,G,fp,S,dv,h,q⟩;cases dv with
 |nil=>exact h.elim
 |cons a as=>exact ⟨_,_,rfl,B,ρ,_,_,G,fp,S,a,h,λaD hp ay Dy S'=>⟨B,aD,_,P,G,Dy,S',as,hp,q⟩⟩
theorem gw(n:Nat){es:List Expr}{k:Nat}{pos:Pos}{gs:lM}(hc:X.calm=true)(h:Fd Z X md es gs)(hn:(assignEach es X.env).length=n:=by rfl)(oN:(assignEach es X.env).findIdx? (·.1)=none:=by rfl):Gd Z X md (.Tuple es k pos) (IA n gs):=by
 refine (FP hc h hn oN).imp ?_;rintro v σ H Q ⟨B,ρ,d,P,G,fp,S,dv,h,q⟩;cases dv<;>first|exact h.elim|skip
 rename_i a xs ds ha es
 exact ⟨a,xs,rfl,gr.of (S.ex.sub _ _ ha),by rw [es.length];exact h.1,B,ρ,_,P,G,fp,S,es,h.2,q⟩
def RP(md:List Nat)(te:br)(g:dR):e8:=λE ρ=>te (eT md ρ) λd=>g d ρ E.nx
theorem zu{tg e:Expr}{te:br}{g:dR}{pos:Pos}(he:DE Z X e te)(hg:Gd Z X md tg g)(hs:swapsWithSole [tg] e pos.line X.env=pure false:=by rfl)(hw:swappedStores [tg] e X.env=pure none:=by rfl)
  (h1:(assignEach [tg] X.env).map (·.2)= [assign tg X.env]:=by rfl):DSt Z X md rn (.Assign [tg] e pos) (RP md te g):=by
 refine (Aa he hg hs hw h1).imp ?_;rintro D σ H ⟨B,ρ,E,⟨G,fp,S⟩,h,M⟩;exact S.ev false h λd hd=>⟨trivial,λv G' H' S' x dv=>⟨B,ρ,d,E.nx,G',fp,S',dv,hd,λaD h' ay Dy S2=>M.nx _ h' _ _ ⟨G',Dy,S2⟩⟩⟩
def mY(g:dR)(tb:e8)(E:gT):List D→DN→Prop
 | [],ρ=>E.nx ρ
 |x::xs,ρ=>g x ρ λaW=>tb {nx:=mY g tb E xs,ct:=mY g tb E xs,bk:=E.nx,rt:=E.rt} aW
def Nq(md:List Nat)(m:Bool)(wi:hJ)(g:dR)(tb:e8):e8:=λE ρ=>wi (EY md m ρ) λds=>mY g tb E ds ρ
theorem xJ{D':Ends}{J:It}{ds:List D}{g:dR}{tb:e8}{E:gT}(S:SIx Z B md ρ σ H G fp)(it:uC Z G J ds)(hd:mY g tb E ds ρ)(M:Meets Z B md rn E D'):
  ∃W:Nat→Nat→St→Hp→Prop,(∃m,W 0 m σ H)∧∀i m σ H,W i m σ H→
   (J.stop i H∧D'.nx σ H)∨(J.go i H∧∃N:St→Hp→Prop,(∀ay H',N ay H'→∃m',m'<m∧W (i+1) m' ay H')∧∀x H',J.yld i H x H'→Fz Z md g x σ H' λeV H2=>pU Z md rn tb {D' with nx:=N,ct:=N,bk:=D'.nx} eV H2):=by
 let B1:Bs:={B with Gf:=G}
 have back:∀ρ σ H,SI Z B1 md ρ σ H→SI Z B md ρ σ H:=λρ σ H ⟨G2,Dz,S2⟩=>⟨G2,Dz,⟨S2.ex,S.fl.trans S2.fl,S2.len,S2.at_,S2.nd,S2.ap,S2.nw⟩⟩;have S1:SIx Z B1 md ρ σ H G fp:=⟨S.ex, .refl _,S.len,S.at_,S.nd,S.ap,S.nw⟩;refine ⟨λi m σ H=>m=ds.length-i∧i≤ds.length∧∃ρ,SI Z B1 md ρ σ H∧mY g tb E (ds.drop i) ρ,⟨_,rfl,cH _,ρ,⟨G,fp,S1⟩,hd⟩,?_⟩;rintro i m eV H2 ⟨rfl,hi,cN,⟨G2,Dz,S2⟩,hf⟩;obtain ⟨go,stop,yld⟩:=it G2 H2 S2.fl S2.ex.sub i
 by_cases bN:i<ds.length
 ·refine .inr ⟨go bN,λay H'=>∃aD,SI Z B1 md aD ay H'∧mY g tb E (ds.drop (i+1)) aD,λay H' n=>⟨ds.length-(i+1),by omega,rfl,bN,n⟩,λx H' y=>?_⟩
  obtain ⟨G3,d,x3,I0,dv⟩:=yld x H' bN y;rw [j9 I0] at hf;refine ⟨B1,cN,d,_,G3,Dz,S2.grow x3,dv,hf,λρ4 h4 fc Ye S4=>?_⟩;exact ⟨B1,ρ4,_,⟨G3,Ye,S4⟩,h4,⟨λaD h' ay H' s'=>⟨aD,s',h'⟩,M.rt,λaD h' ay H' s'=>M.nx _ h' _ _ (back _ _ _ s'),λaD h' ay H' s'=>⟨aD,s',h'⟩⟩⟩
 ·have e:ds.drop i= []:=wC (by omega)
  rw [e] at hf;exact .inl ⟨stop (by omega),M.nx _ hf _ _ (back _ _ _ ⟨G2,Dz,S2⟩)⟩
variable {tg iter:Expr} {body:List Stmt} {wi:hJ} {g:dR} {tb:e8} {pos:Pos}
theorem fz(hc:X.calm=true)(hp:PassesOwn (model X.prog X.w) X.A X.env X.xe)(hi:DI Z X tg iter wi)(hg:Gd Z X md tg g)(hb:uA Z X md rn body tb)
  (hs:∀x,foldedSetIterable iter X.env x=pure x:=by intro _;rfl):DSt Z X md rn (.For tg iter body [] pos) (Nq md false wi g tb):=by
 refine (FR hp hc hi hg hb hs).imp ?_;rintro D σ H ⟨B,ρ,E,⟨G,fp,S⟩,h,M⟩;exact ⟨G,_,_,S.ex.sub,S.II,h,λds hd J G1 H1 x1 it=>xJ (S.grow x1) it hd M⟩
def L0(Z:DC)(wi:hJ):TI:=λσ H R=>∃(G:Hp)(ρ:DN)(P:List D→Prop),aK G H∧dq Z G σ ρ∧wi ρ P∧∀ds,P ds→∀J G' H',Ext G H G' H'→(∀G2,uC Z G2 J ds)→R J H'
def N4(Z:DC)(X:Cx)(tg e:Expr)(wi:hJ):Prop:=PI X tg e (L0 Z wi)
theorem qt(hc:X.calm=true)(hp:PassesOwn (model X.prog X.w) X.A X.env X.xe)(hi:N4 Z X tg iter wi)(hg:Gd Z X md tg g)(hb:uA Z X md rn body tb)
  (hs:∀x,foldedSetIterable iter X.env x=pure x:=by intro _;rfl):DSt Z X md rn (.For tg iter body [] pos) (Nq md true wi g tb):=by
 refine (FR hp hc hi hg hb hs).imp ?_;rintro D σ H ⟨B,ρ,E,⟨G,fp,S⟩,h,M⟩;exact ⟨H,ρ,_, .refl _,S.IH,h,λds hd J G1 H1 x1 it=>xJ (S.grow (Ext.all S.ex.sub x1)) (it _) hd M⟩
variable {a b e:Expr} {ta te:br} {t:iY}
theorem pJ{p:Pos}(hg:Gl X "range")(hm:X.mg "range"=none)(ha:DA Z X [a] t)(hs:starEach [a] X.env= [(false,eval a X.env)]:=by rfl):N4 Z X tg (.Call (.Name "range" p) [a] [] pos) (Nv t):=by
 refine (vJ hg hm ha hs).imp ?_;rintro σ H Q ⟨G,ρ,P,s,en,h,q⟩;refine ⟨G,ρ,_,s,en,h,λds hd vs G1 H1 x1 dv=>?_⟩
 split at hd
 ·obtain ⟨_,rfl,a⟩:=dv.ofOne
  exact ⟨_,by rw [a.ofInt],hd.1.1,hd.1.2,q _ hd.2 _ G1 H1 x1 λ_=>oe 0 _⟩
 ·exact hd.elim
theorem Dj{p:Pos}(hg:Gl X "range")(hm:X.mg "range"=none)(ha:DA Z X [a,b] t)(hs:starEach [a,b] X.env= [(false,eval a X.env),(false,eval b X.env)]:=by rfl)(ja:starEach [b] X.env= [(false,eval b X.env)]:=by rfl):N4 Z X tg (.Call (.Name "range" p) [a,b] [] pos) (Nw t):=by
 refine (vK hg hm ha hs ja).imp ?_;rintro σ H Q ⟨G,ρ,P,s,en,h,q⟩;refine ⟨G,ρ,_,s,en,h,λds hd vs G1 H1 x1 dv=>?_⟩
 split at hd
 ·obtain ⟨u1,u2,rfl,da,db⟩:=dv.JR
  exact ⟨_,_,by rw [da.ofInt,db.ofInt],hd.1,q _ hd.2 _ G1 H1 x1 λ_=>oe _ _⟩
 ·exact hd.elim
def Fg(c:dE)(tb:e8):e8:=λE ρ=>∃W:Nat→DN→Prop,(∃m,W m ρ)∧∀m ρ,W m ρ→c ρ λb=>if b=true then tb {nx:=λaD=>∃m',m'<m∧W m' aD,ct:=λaD=>∃m',m'<m∧W m' aD,bk:=E.nx,rt:=E.rt} ρ else E.nx ρ
theorem rR{c:Expr}{tc:dE}(hp:PassesOwn (model X.prog X.w) X.A X.env X.xe)(hc:DT Z X c tc)(hb:uA Z X md rn body tb):DSt Z X md rn (.While c body [] pos) (Fg tc tb):=by
 refine (Hi hp hc hb).imp ?_;rintro D σ H ⟨B,ρ,E,S,⟨W,⟨m0,w0⟩,turn⟩,M⟩;refine ⟨λm σ H=>∃ρ,SI Z B md ρ σ H∧W m ρ,⟨m0,ρ,S,w0⟩,?_⟩;rintro m eV H2 ⟨cN,⟨G2,Dz,S2⟩,w2⟩;refine S2.SA (turn m cN w2) λb hb H' S'=>?_;cases b with
 |false=>exact dg (M.nx _ (by simpa using hb) _ _ ⟨G2,Dz,S'⟩)
 |true=>
  refine eY ⟨λay H'=>∃aD m',m'<m∧SI Z B md aD ay H'∧W m' aD,λay H' ⟨aD,m',h1,h2,h3⟩=>⟨m',h1,aD,h2,h3⟩,B,cN,_,⟨G2,Dz,S'⟩,(by simpa using hb),?_⟩
  exact ⟨λaD ⟨m',h1,h2⟩ ay H' s'=>⟨aD,m',h1,s',h2⟩,M.rt,M.nx,λaD ⟨m',h1,h2⟩ ay H' s'=>⟨aD,m',h1,s',h2⟩⟩
abbrev pF:=DN→(List D→Prop)→Prop
def vk(Z:DC)(n:Nat)(t:pF):TE:=λσ H Q=>∃(G:Hp)(ρ:DN)(P:List D→Prop),aK G H∧dq Z G σ ρ∧t ρ P∧∀ds,P ds→∀v f G' H',Ext G H G' H'→Own Z G' H' n v (.lst ds) f→f.Nodup→(∀b∈f,H b=none∧H' b≠none∧G' b=none)→Q v H'
def DF(Z:DC)(X:Cx)(n:Nat)(e:Expr)(t:pF):Prop:=PE X e (vk Z n t)
theorem Ext.side{p:Addr}{o:HO}{G1 H1:Hp}(x:Ext G H G1 H1)(hp:H1 p=none):Ext G H G1 (upd H1 p o):=
 ⟨x.gg,λb u e=>by rw [aG (aY e (x.sub.free hp))];exact x.sub _ _ e,x.hh.trans (aV hp _),x.off⟩
theorem vI{p:Addr}{xs:List V}{ds:List D}{G1 H1:Hp}(x:Ext G H G1 H1)(hp:H1 p=none)(dv:av Z G1 xs ds):
  Own Z G1 (upd H1 p (.lst xs)) 1 (.ref p) (.lst ds) [p]∧([p]:List Addr).Nodup∧∀b∈([p]:List Addr),H b=none∧(upd H1 p (.lst xs)) b≠none∧G1 b=none:=by
 refine ⟨.inl ⟨p,xs,ds,[],rfl,rfl,aC,rfl,dv.own⟩,by simp,λb hb=>?_⟩
 have:b=p:=by simpa using hb
 subst this;exact ⟨x.hh.free hp,(by rw [aC];exact λz=>nomatch z),x.sub.free hp⟩
def SE(t:iY):pF:=λρ P=>t ρ λds=>ds.length≤sizeLine∧P ds
theorem qr{es:List Expr}(h:DA Z X es t):DF Z X 1 (.List es pos) (SE t):=by
 refine (FL h).imp ?_;rintro σ H Q ⟨G,ρ,P,s,e,h,q⟩;refine ⟨G,ρ,_,s,e,h,?_⟩;rintro ds ⟨hl,hp⟩ vs G1 H1 x1 bB;refine ⟨by rw [bB.length];exact hl,λp jV=>?_⟩
 obtain ⟨o1,o2,o3⟩:=vI x1 jV bB;exact q _ hp _ _ _ _ (x1.side jV) o1 o2 o3
def OW(wi:hJ)(g:dR)(tt:dE)(te:br)(src:List (Option Nat)):pF:=λρ P=>wi ρ λds=>lcW g tt te ds (vW src ρ) [] λ_ out=>P out
theorem B3{src:List (Option Nat)}{tt:dE}:∀σ H Q,vk Z 1 (OW wi g tt te src) σ H Q→MO (pT Z wi) (ng Z g) (liftT Z tt) (dJ Z te) src σ H Q:=by
 rintro σ H Q ⟨G,ρ,P,s,en,h,q⟩;refine ⟨G,ρ,_,s,en,h,λds hd J G1 H1 x1 it Ad hA=>?_⟩;refine ⟨λi m eV H2=>m=ds.length-i∧i≤ds.length∧∃cN acc,CS Z G1 H1 Ad cN acc eV H2∧lcW g tt te (ds.drop i) cN acc λ_ out=>P out,⟨_,rfl,cH _,_,[], .begin x1.sub hA ((en.mono x1.gg).src src),hd⟩,?_⟩;rintro i m eV H2 ⟨rfl,hi,cN,acc,c,hl⟩
 by_cases bN:i<ds.length
 ·obtain ⟨go,turn⟩:=xT hA G1 it i cN acc eV H2 c (λ_ s=>s) bN hl
  exact .inr ⟨go,_,λay H' n=>⟨ds.length-(i+1),by omega,rfl,bN,n⟩,turn⟩
 ·have e:ds.drop i= []:=wC (by omega)
  rw [e] at hl;obtain ⟨G2,ys,s1,s2,s3,off,gA,kU,bB,en⟩:=c;refine .inl ⟨(it G2 H2 s1 s2 i).2.1 (by omega),q _ hl (.ref Ad) [Ad] G2 H2 ⟨x1.gg.trans s1,s2,x1.hh.trans s3,λb hb hg=>off b (fm x1.hh hb) (x1.off b hb hg)⟩ (.inl ⟨Ad,ys,acc,[],rfl,rfl,kU,rfl,bB.own⟩) (by simp) λb hb=>?_⟩
  have:b=Ad:=by simpa using hb
  subst this;exact ⟨x1.hh.free hA,(by rw [kU];exact λz=>nomatch z),gA⟩
variable {elt:Expr} {ifs:List Expr} {scope:Scope} {NC:List Str} {src:List (Option Nat)} {tt:dE}
def Io(md:List Nat)(i:Nat)(t:pF):e8:=λE ρ=>t (eT md ρ) λds=>E.nx (ρ.set i (some (.lst ds)))
theorem su{n i:Nat}{t:pF}{D':Ends}{E:gT}(hm:md.getD i 0=n)(S:SIx Z B md ρ σ H G fp)(h:t (eT md ρ) λds=>E.nx (ρ.set i (some (.lst ds))))(M:Meets Z B md rn E D'):vk Z n t σ H λv H'=>D'.nx (σ.set i (some v)) H':=by
 refine ⟨G,_,_,S.ex.sub,S.II,h,λds hd v f G' H' x o nd nw=>?_⟩;refine M.nx _ hd _ _ ⟨G',_,(S.grow x).NX hm o nd (λb hb=>⟨S.ex.hh.free (nw b hb).1,(nw b hb).2⟩) λb hb j _ hj=>(S.nw j b hj).2.1 (nw b hb).1⟩
theorem qu(i:Nat){n:Nat}{x:Str}{pos':Pos}{t:pF}(hN:X.N.Nodup)(he:DF Z X n e t)(hm:md.getD i 0=n:=by rfl)(hi:X.N[i]? =some x:=by rfl)(hx:Loc X.env.scope x:=by first|exact Or.inl rfl|exact Or.inr rfl)(hs:swapsWith e (some (.Name x pos')) pos.line X.env=pure false:=by rfl)
  (hf:X.fn x=true∨X.env.scope.names.lookup x=some .local:=by first|exact .inl rfl|exact .inr rfl|assumption):DSt Z X md rn (.Assign [.Name x pos'] e pos) (Io md i t):=by
 refine (uw hN hi hx he hs hf).imp ?_;rintro D σ H ⟨B,ρ,E,⟨G,fp,S⟩,h,M⟩;exact su hm S h M
theorem xA(i:Nat){x:Str}{px ij:Pos}(hc:X.calm=true)(hN:X.N.Nodup)(c:b9 X scope)(dO:cR scope X.N src NC)(hi:DI Z X tg iter wi)
  (hg:∀ex s H,DG Z (bT X scope NC ex s H) tg g) (ht:∀ex s H,tZ Z (bT X scope NC ex s H) ifs tt) (he:∀ex s H,DE Z (bT X scope NC ex s H) elt te)
  (kW:swapsWith (.ListComp elt [⟨tg,iter,ifs,0⟩] scope pos) (some (.Name x px)) ij.line X.env=pure true:=by rfl) (hm:md.getD i 0=1:=by rfl) (iK:X.N[i]? =some x:=by rfl) (hx:Loc X.env.scope x:=by first|exact Or.inl rfl|exact Or.inr rfl)
  (hf:X.fn x=true∨X.env.scope.names.lookup x=some .local:=by first|exact .inl rfl|exact .inr rfl|assumption)
  (hs:∀x,foldedSetIterable iter X.env x=pure x:=by intro _;rfl):DSt Z X md rn (.Assign [.Name x px] (.ListComp elt [⟨tg,iter,ifs,0⟩] scope pos) ij) (Io md i (OW wi g tt te src)):=by
 refine (yh hc hN iK hx c dO hi hg ht he kW hf hs).imp ?_;rintro D σ H ⟨B,ρ,E,⟨G,fp,S⟩,h,M⟩;exact B3 σ H _ (su hm S h M)
end
section
variable {Z:DC} {X:Cx} {B:Bs} {md:List Nat} {rn:Nat} {ρ:DN} {σ:St} {H G:Hp} {fp:Nat→List Addr} {a e k o:Expr} {ta te tk tp:br} {pos apos bu p2:Pos}
theorem SIx.mut{i:Nat}{v:V}{d':D}{b:Addr}{c:HO}(S:SIx Z B md ρ σ H G fp)(hi:σ[i]? =some (some v))(hb:b∈fp i)(o:Own Z G (upd H b c) (md.getD i 0) v d' (fp i)):SIx Z B md (ρ.set i (some d')) σ (upd H b c) G fp where
 ex:=by
  obtain ⟨h1,h2,h3⟩:=S.nw i b hb;exact ⟨S.ex.gg,λx u e=>by rw [aG (aY e h3)];exact S.ex.sub _ _ e,λx u e=>by rw [aG (aY e h1)];exact S.ex.hh _ _ e,S.ex.off⟩
 fl:=S.fl
 len:=by rw [mn];exact S.len
 at_:=λj w h=>by
  by_cases z:i=j
  ·subst z
   by_cases hl:i<ρ.length
   ·rw [rE hl] at h
    cases h;exact ⟨v,hi,o⟩
   ·rw [A5 (pA hl),mh (pA hl)] at h;cases h
  ·rw [y8 z] at h
   obtain ⟨u,hu,ow⟩:=S.at_ j w h;exact ⟨u,hu,ow.keep (.refl _) λx hx=>aG λq=>S.ap i j b z hb (by rw [←q];exact hx)⟩
 nd:=S.nd
 ap:=S.ap
 nw:=λj x hx=>by
  obtain ⟨h1,h2,h3⟩:=S.nw j x hx;refine ⟨h1,?_,h3⟩
  by_cases z:x=b
  ·rw [z,aC];exact λq=>nomatch q
  ·rw [aG z];exact h2
theorem SIx.one{i:Nat}{d:D}(S:SIx Z B md ρ σ H G fp)(hm:md.getD i 0=1)(h:ρ[i]? =some (some d)):∃l xs ds,d= .lst ds∧σ[i]? =some (some (.ref l))∧H l=some (.lst xs)∧av Z G xs ds∧
  ∀qi qs,av Z G qi qs→SIx Z B md (ρ.set i (some (.lst qs))) σ (upd H l (.lst qi)) G fp:=by
 obtain ⟨v,hv,o⟩:=S.at_ i d h;rw [hm] at o;obtain ⟨l,xs,ds,qz,rfl,rfl,hl,hf,ol⟩:=o.one;obtain ⟨dv,rfl⟩:=ol.flat;refine ⟨l,xs,ds,rfl,hv,hl,dv,λqi qs zv=>S.mut hv (by rw [hf];simp) ?_⟩
 rw [hm,hf];exact .inl ⟨l,qi,qs,[],rfl,rfl,aC,rfl,zv.own⟩
theorem ty_list{K:PySem.W.Frag}{l:Addr}{xs:List V}(h:H l=some (.lst xs)):MT K "list" (.ref l) H:= .inl ⟨rfl,_,cQ.of h⟩
def RO(md:List Nat)(m:Bool)(i:Nat)(te:br):e8:=λE ρ=>∃ds,ρ[i]? =some (some (.lst ds))∧te (EY md m ρ) λd=>qx m d∧ds.length<sizeLine∧E.nx (ρ.set i (some (.lst (ds++ [d]))))
theorem uo(m:Bool)(i:Nat){x:Str}{px:Pos}(he:DE Z X e te)(hm:md.getD i 0=1:=by rfl)(hi:X.N[i]? =some x:=by rfl)(hv:uE X.env.scope x:=by first|exact Or.inl rfl|exact Or.inr (Or.inl rfl) |exact Or.inr (Or.inr rfl))(hd:(x==("__debug__":Str))=false:=by decide)(gY:(x==("__classdict__":Str))=false:=by decide)
  (fh:attributeBase (.Name x px) "append" X.env (eval (.Name x px) X.env)=eval (.Name x px) X.env:=by rfl)
  (ke:((backTo bu (starEach [e] X.env)).all (λx=>!x.1)&&(backToKw bu (keywordEach [] X.env)).all (λx=>x.1.isSome)&&decide (([e]:List Expr).length+([]:List Keyword).length+(if ([]:List Keyword).isEmpty then 0 else 1)<30))=true:=by rfl)
  (dj:(apos.endLine==bu.line)=true:=by rfl) (hs:starEach [e] X.env=(false,eval e X.env)::starEach [] X.env:=by rfl) (fA:(backTo bu (starEach [] X.env)).any (·.1)=false:=by rfl)
  (kW:swapsWith (.Call (.Attribute (.Name x px) "append" apos) [e] [] bu) none pos.line X.env=pure false:=by rfl):
  DSt Z X md rn (.Expr (.Call (.Attribute (.Name x px) "append" apos) [e] [] bu) pos) (RO md m i te):=by
 refine (qX (z8 PySem.F.plainAttrs_list PySem.F.slot_list_append PySem.F.type_list_append pW (pv i hi hv hd gY) (gE he lu hs) fh ke dj hs fA) kW).imp ?_;rintro D σ H ⟨B,ρ,E,⟨G,fp,S⟩,⟨ds,h1,h⟩,M⟩;obtain ⟨l,xs,_,_,e2,e3,_⟩:=S.one hm h1;refine ⟨_,e2,ty_list e3,S.ev m h λd hd=>⟨hd.1,λv G' H' S' x dv=>?_⟩⟩;obtain ⟨_,h2,h3⟩:=hd;obtain ⟨l',qi,qs,e1,jt,t6,bB,put⟩:=S'.one hm h1;cases e1;rw [e2] at jt;cases jt;exact ⟨l,qi,v,rfl,rfl,t6,by rw [bB.length];exact h2,M.nx _ h3 _ _ ⟨G',fp,put _ _ (bB.snoc dv)⟩⟩
theorem av.ins{vs:List V}{ds:List D}{v:V}{d:D}(n:Nat)(h:av Z G vs ds)(dv:Dv Z G v d):av Z G (Wb.ins vs n v) (Wb.ins ds n d):=(h.take n).append (.cons dv (h.drop n))
def RU(md:List Nat)(m:Bool)(i:Nat)(tk te:br):e8:=λE ρ=>∃ds,ρ[i]? =some (some (.lst ds))∧tk ρ λkk=>∃k,kk= .int k∧te (EY md m ρ) λd=>qx m d∧(0≤k∧k≤ds.length∧ds.length<sizeLine)∧E.nx (ρ.set i (some (.lst (Wb.ins ds k.toNat d))))
theorem Lu(m:Bool)(i:Nat){x:Str}{px:Pos}(hk:DE Z X k tk)(he:DE Z X e te)(hm:md.getD i 0=1:=by rfl)(hi:X.N[i]? =some x:=by rfl)(hv:uE X.env.scope x:=by first|exact Or.inl rfl|exact Or.inr (Or.inl rfl) |exact Or.inr (Or.inr rfl))(hd:(x==("__debug__":Str))=false:=by decide)(gY:(x==("__classdict__":Str))=false:=by decide)
  (fh:attributeBase (.Name x px) "insert" X.env (eval (.Name x px) X.env)=eval (.Name x px) X.env:=by rfl)
  (ke:((backTo bu (starEach [k,e] X.env)).all (λx=>!x.1)&&(backToKw bu (keywordEach [] X.env)).all (λx=>x.1.isSome)&&decide (([k,e]:List Expr).length+([]:List Keyword).length+(if ([]:List Keyword).isEmpty then 0 else 1)<30))=true:=by rfl)
  (dj:(apos.endLine==bu.line)=true:=by rfl) (hs:starEach [k,e] X.env=(false,eval k X.env)::starEach [e] X.env:=by rfl) (ja:starEach [e] X.env=(false,eval e X.env)::starEach [] X.env:=by rfl) (fA:(backTo bu (starEach [e] X.env)).any (·.1)=false:=by rfl)
  (kW:swapsWith (.Call (.Attribute (.Name x px) "insert" apos) [k,e] [] bu) none pos.line X.env=pure false:=by rfl):
  DSt Z X md rn (.Expr (.Call (.Attribute (.Name x px) "insert" apos) [k,e] [] bu) pos) (RU md m i tk te):=by
 refine (qX (z8 PySem.F.plainAttrs_list PySem.F.slot_list_insert PySem.F.type_list_insert Ei (pv i hi hv hd gY) (gE hk (gE he lu ja) hs) fh ke dj hs fA) kW).imp ?_;rintro D σ H ⟨B,ρ,E,⟨G,fp,S⟩,⟨ds,h1,h⟩,M⟩;obtain ⟨l,xs,_,_,e2,e3,_⟩:=S.one hm h1;refine ⟨_,e2,ty_list e3,S.ev true h ?_⟩;rintro _ ⟨k,rfl,h⟩;refine ⟨rfl,λv1 G1 H1 S1 x1 Dm=>S1.ev m h λd hd=>⟨hd.1,λv G' H' S' x dv=>?_⟩⟩;cases Dm;obtain ⟨_,⟨h2,Yh,SM⟩,h3⟩:=hd;obtain ⟨l',qi,qs,e1,jt,t6,bB,put⟩:=S'.one hm h1;cases e1;rw [e2] at jt;cases jt;exact ⟨l,qi,k,v,rfl,rfl,t6,h2,by rw [bB.length];exact Yh,by rw [bB.length];exact SM,M.nx _ h3 _ _ ⟨G',fp,put _ _ (bB.ins _ dv)⟩⟩
theorem K9{α:Type}{xs:List α}{i:Int}{j n:Nat}{v:α}(hn:xs.length=n)(h:pQ n i=some j)(e:xs[j]? =some v):gu xs i=some v:=by unfold gu;rw [hn,h];exact e
def Lm(md:List Nat)(m:Bool)(i:Nat)(tk te:br):e8:=λE ρ=>te (EY md m ρ) λd=>qx m d∧∃ds,ρ[i]? =some (some (.lst ds))∧tk ρ λkk=>∃k j,kk= .int k∧pQ ds.length k=some j∧E.nx (ρ.set i (some (.lst (ds.set j d))))
theorem xB(m:Bool)(i:Nat){x:Str}{px ps:Pos}(hk:DE Z X k tk)(he:DE Z X e te)(hm:md.getD i 0=1:=by rfl)(hi:X.N[i]? =some x:=by rfl)(hv:uE X.env.scope x:=by first|exact Or.inl rfl|exact Or.inr (Or.inl rfl) |exact Or.inr (Or.inr rfl))(hd:(x==("__debug__":Str))=false:=by decide)(gY:(x==("__classdict__":Str))=false:=by decide)
  (ha:∀v,assign (.Subscript (.Name x px) k ps) X.env v=(do
   let ov ←holding [v] (eval (.Name x px) X.env)
   let iv ←holding [v,ov] (eval k X.env)
   standAt ps
   holding [v,ov,iv] (setItem ov iv v)
   release [v,ov,iv] []):=by intro _;rfl)
  (hs:swapsWithSole [.Subscript (.Name x px) k ps] e pos.line X.env=pure false:=by rfl) (hw:swappedStores [.Subscript (.Name x px) k ps] e X.env=pure none:=by rfl)
  (h1:(assignEach [.Subscript (.Name x px) k ps] X.env).map (·.2)= [assign (.Subscript (.Name x px) k ps) X.env]:=by rfl):DSt Z X md rn (.Assign [.Subscript (.Name x px) k ps] e pos) (Lm md m i tk te):=by
 refine (Aa he (FO (pv i hi hv hd gY) hk set_list ha) hs hw h1).imp ?_;rintro D σ H ⟨B,ρ,E,⟨G,fp,S⟩,h,M⟩;refine S.ev m h λd hd=>⟨hd.1,λv G' H' S' x dv=>?_⟩;obtain ⟨_,ds,h1,h⟩:=hd;obtain ⟨l,xs,_,_,e2,e3,_⟩:=S'.one hm h1;refine ⟨_,e2,S'.ev true h ?_⟩;rintro _ ⟨k,j,rfl,hj,h3⟩;refine ⟨rfl,λv1 G1 H1 S1 x1 Dm=>?_⟩;cases Dm;obtain ⟨l',qi,qs,e1,jt,t6,bB,put⟩:=S1.one hm h1;cases e1;rw [e2] at jt;cases jt;exact ⟨l,qi,k,j,rfl,rfl,t6,by rw [bB.length];exact hj,M.nx _ h3 _ _ ⟨G1,fp,put _ _ (bB.set (dv.mono x1.gg) j)⟩⟩
def R3(md:List Nat)(i j:Nat):e8:=λE ρ=>∃ds d,ρ[j]? =some (some (.lst (ds++ [d])))∧E.nx ((ρ.set j (some (.lst ds))).set i (some d))
theorem Fq(i j:Nat){x y:Str}{px py:Pos}(hN:X.N.Nodup)(hm:md.getD i 0=0:=by rfl)(Pz:md.getD j 0=1:=by rfl)(hi:X.N[i]? =some x:=by rfl)(hx:Loc X.env.scope x:=by first|exact Or.inl rfl|exact Or.inr rfl)
  (hj:X.N[j]? =some y:=by rfl) (hv:uE X.env.scope y:=by first|exact Or.inl rfl|exact Or.inr (Or.inl rfl) |exact Or.inr (Or.inr rfl)) (hd:(y==("__debug__":Str))=false:=by decide) (gY:(y==("__classdict__":Str))=false:=by decide)
  (fh:attributeBase (.Name y py) "pop" X.env (eval (.Name y py) X.env)=eval (.Name y py) X.env:=by rfl) (dj:(apos.endLine==bu.line)=true:=by rfl)
  (hs:swapsWith (.Call (.Attribute (.Name y py) "pop" apos) [] [] bu) (some (.Name x px)) pos.line X.env=pure false:=by rfl)
  (hf:X.fn x=true∨X.env.scope.names.lookup x=some .local:=by first|exact .inl rfl|exact .inr rfl|assumption):DSt Z X md rn (.Assign [.Name x px] (.Call (.Attribute (.Name y py) "pop" apos) [] [] bu) pos) (R3 md i j):=by
 refine (uw hN hi hx (Mn PySem.F.plainAttrs_list PySem.F.slot_list_pop PySem.F.type_list_pop L3 (pv j hj hv hd gY) fh dj) hs hf).imp ?_;rintro D σ H ⟨B,ρ,E,⟨G,fp,S⟩,⟨ds,d,h1,h⟩,M⟩;obtain ⟨l,xs,qs,e1,e2,e3,bB,put⟩:=S.one Pz h1;cases e1;have hl:xs.length=ds.length+1:=by rw [bB.length];simp
 obtain ⟨v,DY,dv⟩:=bB.get (i:=xs.length-1) (d:=d) (by rw [hl];simp)
 refine ⟨_,e2,ty_list e3,l,xs,v,rfl,rfl,e3,DY,M.nx _ h _ _ ⟨G,_,(put xs.dropLast ds ?_).Cw hm dv⟩⟩
 have:=bB.take ds.length
 rw [List.take_left'] at this
 ·rw [List.dropLast_eq_take,hl];exact this
 ·rfl
end
structure QN (mg:Str→Option Value):Prop where
 len:mg "len"=none
 range:mg "range"=none
 max:mg "max"=none
 min:mg "min"=none
 enumerate:mg "enumerate"=none
 zip:mg "zip"=none
 sorted:mg "sorted"=none
 all:mg "all"=none
 isinstance:mg "isinstance"=none
 int:mg "int"=none
 bool:mg "bool"=none
 list:mg "list"=none
 tuple:mg "tuple"=none
 sum:mg "sum"=none
 reversed:mg "reversed"=none
theorem Ld:bootBuiltins "max"=some (.builtin "max"):=by decide+kernel
theorem Le:bootBuiltins "min"=some (.builtin "min"):=by decide+kernel
theorem HZ:bootBuiltins "bool"=some (.type "bool"):=by decide+kernel
theorem Lc:bootBuiltins "int"=some (.type "int"):=by decide+kernel
theorem qk:bootBuiltins "list"=some (.type "list"):=by decide+kernel
theorem i6:bootBuiltins "sorted"=some (.builtin "sorted"):=by decide+kernel
theorem aO:bootBuiltins "len"=some (.builtin "len"):=by decide+kernel
section
variable {P:Program} {w:World} {K:PySem.W.Frag} {mg:Str→Option Value} {base:Heap} {Z:DC}
def uz(N:List Str)(ds:List D):DN:=ds.map some++List.replicate (N.length-ds.length) none
def vn(Z:DC)(n:Nat)(sd:dD):Sp:=λvs H Q _=>∃(G:Hp)(ds:List D)(P:D→Prop),aK G H∧av Z G vs ds∧sd ds P∧∀d,P d→∀v f G' H',Ext G H G' H'→Own Z G' H' n v d f→f.Nodup→(∀b∈f,H b=none∧H' b≠none∧G' b=none)→Q v H'
theorem Own.pure{n:Nat}{v:V}{d:D}{f:List Addr}{G H G' H':Hp}(x:Ext G H G' H')(o:Own Z G' H' n v d f)(nw:∀b∈f,H b=none∧H' b≠none∧G' b=none):∃G2,Ext G H G2 H'∧Dv Z G2 v d:=by
 refine ⟨plus G' H' λb=>b∈f,⟨x.gg.trans (iV x.sub),kA x.sub,x.hh,λb hb hg=>?_⟩,o.dv (iV x.sub) λb hb u e=>by rw [nv hb];exact e⟩
 rw [kz (λz=>hb (nw b z).1)];exact x.off b hb hg
theorem Hr{n:Nat}{sd:dD}:∀vs H Q E,aT Z sd vs H Q E→vn Z n sd vs H Q E:=by
 rintro vs H Q E ⟨G,ds,P,s,dv,h,q⟩;exact ⟨G,ds,P,s,dv,h,λd hd v f G' H' x o nd nw=>let ⟨G2,x2,Dq⟩:=o.pure x nw;q d hd v G2 H' x2 Dq⟩
theorem xH(rn:Nat){x qual:Str}{st:Stmt}{f:Addr}{fd:FuncData}{N ps:List Str}{k:Nat}{sd:dD}(F:wQ K x qual st f fd)(S:aJ N ps (ar st))(md:List Nat)(Py:∀i,i<ps.length→md.getD i 0=0)(len:∀ds P,sd ds P→ds.length=ps.length)
  (pP:∀(bQ:Value)(A:Around)(outer:List Env)(s:Shared)(H:Hp)(E:XK)(ds:List D)(R:D→Prop),dr k (A.deeper (envOfC qual (ar st) s.heap.objs.size f bQ))→sd ds R→
   ∃t,uA Z (tw di P w K mg base N qual (ar st) f bQ A outer s H E).ie md rn (fI st) t∧t {nx:=λ_=>rn=0∧R .bo,rt:=R} (uz N ds)):FnOk P w K mg base di (k+1) f fd ps (vn Z rn sd):=by
 refine F.ok S (λvs H Q E h=>?_) (λbQ A outer s H vs Q E hr h=>?_)
 ·obtain ⟨G,ds,R,s,dv,h,q⟩:=h
  rw [dv.length];exact len _ _ h
 obtain ⟨G,ds,R,s0,dv,h,q⟩:=h;have Tx:=q;obtain ⟨t,ht,hq⟩:=pP bQ A outer s H E ds R hr h;have hl:=len _ _ h;refine ⟨_,ht,⟨G,H,G⟩,_,_,⟨G,λ_=> [],?_⟩,hq,⟨λρ TJ ay H' ⟨G',fp,S'⟩=>q _ TJ.2 _ [] G' H' S'.ex (by rw [TJ.1];exact ⟨.bo,rfl⟩) mw (λb hb=>by cases hb),Tx,λ_ z=>z.elim,λ_ z=>z.elim⟩⟩
 refine ⟨.refl s0, .refl _,by unfold uz start;simp [dv.length],λi d hi=>?_,λ_=>mw,(λ_ _ _ _ z=>by cases z),(λ_ _ z=>by cases z)⟩
 unfold uz at hi
 have Td:i<ds.length:=by
  apply Classical.byContradiction;intro z;rw [f7 (by simpa using pA z),A6] at hi
  split at hi<;>cases hi
 rw [eI (by simpa using Td),e7] at hi
 have oK:ds[i]? =some d:=by
  cases z:ds[i]? with
  |none=>rw [z] at hi;cases hi
  |some d'=>rw [z] at hi;cases hi;rfl
 obtain ⟨v,hv,zv⟩:=dv.get oK;refine ⟨v,?_,by rw [Py i (by omega)];exact ⟨zv,rfl⟩⟩
 unfold start;rw [eI (by simpa [dv.length] using Td),e7,hv];rfl
theorem bg{x qual:Str}{st:Stmt}{f:Addr}{fd:FuncData}{N ps:List Str}{k:Nat}{sd:dD}(F:wQ K x qual st f fd)(S:aJ N ps (ar st))(md:List Nat)(Py:∀i,i<ps.length→md.getD i 0=0)(len:∀ds P,sd ds P→ds.length=ps.length)
  (pP:∀(bQ:Value)(A:Around)(outer:List Env)(s:Shared)(H:Hp)(E:XK)(ds:List D)(R:D→Prop),dr k (A.deeper (envOfC qual (ar st) s.heap.objs.size f bQ))→sd ds R→
   ∃t,uA Z (tw di P w K mg base N qual (ar st) f bQ A outer s H E).ie md 0 (fI st) t∧t {nx:=λ_=>0=0∧R .bo,rt:=R} (uz N ds)):FnOk P w K mg base di (k+1) f fd ps (aT Z sd):=
 (xH 0 F S md Py len λbQ A outer s H E ds R hr h=>let ⟨t,a,b⟩:=pP bQ A outer s H E ds R hr h;⟨t,a,b⟩).imp Hr
end
section
variable {Z:DC} {X:Cx} {a b c e o:Expr} {ta tb te:br} {t:iY} {es:List Expr} {pos apos:Pos}
def RZ(ta:br):br:=λρ P=>ta ρ λd=>match d with
 | .int i=>P (.int (-i))
 |_=>False
theorem Lo(ha:DE Z X a ta):DE Z X (.UnaryOp .USub a pos) (RZ ta):=by
 refine (Qd MU ha).imp ?_;rintro σ H Q ⟨G,ρ,P,s,en,h,q⟩;refine ⟨G,ρ,_,s,en,h,λd hd v G1 H1 x1 dv=>?_⟩;cases dv<;>first|exact hd.elim|skip
 exact ⟨_,rfl,q _ hd _ G1 H1 x1 (.int _)⟩
def Oc:dD:=λds P=>∃i j,ds= [.int i, .int j]∧P (.int (if j<i then j else i))
def Ob:dD:=λds P=>∃i j,ds= [.int i, .int j]∧P (.int (if j>i then j else i))
theorem CP{G:Hp}{vs:List V}{i j:Int}(h:av Z G vs [.int i, .int j]):vs= [.int i, .int j]:=by
 cases h with
 |cons a as=>
  cases as with
  |cons b bs=>cases bs;cases a;cases b;rfl
theorem Ie(hc:X.calm=true):cP X (.builtin "max") (iz Z Ob):=by
 refine (C9 hc).imp ?_;rintro xs H Q ⟨G,ds,P,s,dv,⟨i,j,rfl,h⟩,q⟩;exact ⟨i,j,CP dv,q _ h _ G H (.refl s) (.int _)⟩
theorem Ig(hc:X.calm=true):cP X (.builtin "min") (iz Z Oc):=by
 refine (Dd hc).imp ?_;rintro xs H Q ⟨G,ds,P,s,dv,⟨i,j,rfl,h⟩,q⟩;exact ⟨i,j,CP dv,q _ h _ G H (.refl s) (.int _)⟩
theorem uT{G:Hp}:∀{vs:List V}{ns:List Int},av Z G vs (ns.map D.int)→vs=ns.map V.int
 |vs,[],h=>by cases h;rfl
 |vs,b::bs,h=>by
  cases h with
  |cons a as=>cases a;rw [uT as];rfl
def Ff:dD:=λds P=>∃ns:List Int,ds= [.lst (ns.map D.int)]∧ns.length<64∧∀ms:List Int,ms.Perm ns→ms.Pairwise (·≤·)→P (.lst (ms.map D.int))
theorem Gh:cP X (.builtin "sorted") (iz Z Ff):=by
 refine wW.imp ?_;rintro xs H Q ⟨G,ds,P,s,dv,⟨ns,rfl,hl,hp⟩,q⟩;cases dv with
 |cons a as=>
  cases as;cases a with
  |lst h e=>
   refine ⟨_,ns,rfl,cQ.of (by rw [←uT e];exact s _ _ h),hl,λp ms hn h1 h2=>?_⟩
   exact q _ (hp ms h1 h2) _ _ _ (.new s hn) (.lst aC (.ints ms))
def pairD(k:Nat×Nat):D:= .tup [.int (k.1:Nat), .int (k.2:Nat)]
def La:dD:=λds P=>∃ns:List (Nat×Nat),ds= [.lst (ns.map pairD)]∧ns.length≤1000∧∀ms:List (Nat×Nat),ms.Perm ns→ms.Pairwise Wb.lexLe→P (.lst (ms.map pairD))
theorem xC{G:Hp}:∀{vs:List V}{ns:List (Nat×Nat)},av Z G vs (ns.map pairD)→∃L:List (Addr×(Nat×Nat)),vs=L.map (λe=>V.ref e.1)∧L.map (·.2)=ns∧C5 G L
 |vs,[],h=>by cases h;exact ⟨[],rfl,rfl,λp hp=>by cases hp⟩
 |vs,n::ns,h=>by
  cases h with
  |cons a as=>
   obtain ⟨L,h1,h2,h3⟩:=xC as;unfold pairD at a;cases a with
   | @tup p xs ds hp e=>
    refine ⟨(p,n)::L,by rw [h1];rfl,by rw [←h2];rfl,λq hq=>?_⟩
    rcases cv.mp hq with rfl|hq
    ·have:xs=sE n:=by
      cases e with
      |cons a1 a2=>
       cases a2 with
       |cons b1 b2=>cases a1;cases b1;cases b2;rfl
     rw [←this];exact hp
    ·exact h3 q hq
theorem C5.dv{G:Hp}:∀{L:List (Addr×(Nat×Nat))},C5 G L→av Z G (L.map λe=>V.ref e.1) ((L.map (·.2)).map pairD)
 | [],_=> .nil
 |x::L,h=> .cons (.tup (h x (cD ..)) (.cons (.int _) (.cons (.int _) .nil))) (C5.dv λp hp=>h p (cM _ hp))
theorem rM:cP X (.builtin "sorted") (iz Z La):=by
 refine wX.imp ?_;rintro xs H Q ⟨G,ds,P,s,dv,⟨ns,rfl,hl,hp⟩,q⟩;cases dv with
 |cons a as=>
  cases as;cases a with
  | @lst p qi ds h e=>
   obtain ⟨L,rfl,h2,h3⟩:=xC e;have hL:L.length=ns.length:=by rw [←h2];simp
   refine ⟨_,L,rfl,cQ.of (s _ _ h),λp hp=>s _ _ (h3 p hp),by omega,λp M hn m1 m2=>?_⟩
   have pm:(M.map (·.2)).Perm ns:=by rw [←h2];exact m1.map _
   have hM:C5 (upd G p (.lst (M.map λe=>V.ref e.1))) M:=λx hx=>aV (s.free hn) _ _ _ (h3 x (m1.mem_iff.mp hx));exact q _ (hp _ pm m2) _ _ _ (.new s hn) (.lst aC hM.dv)
def Lk(ta tb:br):br:=λρ P=>ta ρ λd=>∃l,d= .lst l∧tb ρ λy=>fH y=true∧l.all fH=true∧∃(j:Nat)(z:D),l[j]? =some z∧jz z y=true∧(∀(m:Nat) z,m<j→l[m]? =some z→jz z y=false)∧P (.int (j:Nat))
theorem iR{bu:Pos}(ho:DE Z X o ta)(he:DE Z X e tb)
  (fh:attributeBase o "index" X.env (eval o X.env)=eval o X.env:=by rfl)
  (ke:((backTo bu (starEach [e] X.env)).all (λx=>!x.1)&&(backToKw bu (keywordEach [] X.env)).all (λx=>x.1.isSome)&&decide (([e]:List Expr).length+([]:List Keyword).length+(if ([]:List Keyword).isEmpty then 0 else 1)<30))=true:=by rfl)
  (dj:(apos.endLine==bu.line)=true:=by rfl) (hs:starEach [e] X.env=(false,eval e X.env)::starEach [] X.env:=by rfl) (fA:(backTo bu (starEach [] X.env)).any (·.1)=false:=by rfl):
  DE Z X (.Call (.Attribute o "index" apos) [e] [] bu) (Lk ta tb):=by
 refine (z8 PySem.F.plainAttrs_list PySem.F.slot_list_index PySem.F.type_list_index G9 ho (gE he lu hs) fh ke dj hs fA).imp ?_;rintro σ H Q ⟨G,ρ,P,s,en,h,q⟩;refine ⟨G,ρ,_,s,en,h,?_⟩;rintro _ ⟨l,rfl,hd⟩ v G1 H1 x1 dv;cases dv with
 | @lst p xs ds hp e=>
  refine ⟨ty_list (x1.sub _ _ hp),G1,ρ,_,x1.sub,en.mono x1.gg,hd,λy hy u G2 H2 x2 du=>?_⟩;obtain ⟨h1,h2,j,z,h3,h4,h5,h6⟩:=hy;have e2:=e.mono x2.gg;obtain ⟨w,hw,dw⟩:=e2.get h3;refine ⟨p,xs,u,j,w,rfl,rfl,x2.hh _ _ (x1.sub _ _ hp),by rw [qy du];exact h1,by rw [jB e2];exact h2,hw,by rw [zx dw du];exact h4,λm z' hm hz=>?_,q _ h6 _ G2 H2 (x1.trans x2) (.int _)⟩
  obtain ⟨d',oK,zv⟩:=e2.Fv hz;rw [zx zv du];exact h5 m d' hm oK
end
structure HS (Z:DC):Prop where
 cl:wO Z.K Z.C
 nR:kP Z.K Z.C "rows"
section
variable {Z:DC} {X:Cx} {a b c e o:Expr} {ta tb te:br} {t:iY} {es:List Expr} {pos apos:Pos}
def OL(ta:br):br:=λρ P=>ta ρ λd=>∃w,d= .fo w∧P (aN w)
theorem BA(T:HS Z)(ha:DE Z X o ta)(eK:X.K=Z.K:=by rfl)(hb:attributeBase o "rows" X.env (eval o X.env)=eval o X.env:=by rfl):DE Z X (.Attribute o "rows" apos) (OL ta):=by
 refine (Mp ha hb).imp ?_;rintro σ H Q ⟨G,ρ,P,s,en,h,q⟩;refine ⟨G,ρ,_,s,en,h,?_⟩;rintro _ ⟨w,rfl,hd⟩ v G1 H1 x1 dv;cases dv with
 | @fo p dx R w hp hr g h1 h2=>exact ⟨p,Z.C,dx,_, .ref R,rfl,x1.sub _ _ hp,by rw [eK];exact T.cl,by rw [eK];exact T.nR,rfl,q _ hd _ G1 H1 x1 hr⟩
def Im(sd:dD)(ta:br)(t:iY):br:=λρ P=>ta ρ λd=>∃w,d= .fo w∧t ρ λds=>sd (.fo w::ds) P
theorem GX{m:Str}{sd:dD}(hm:([("rows",V.ref 0)]:List (Str×V)).lookup m=none):∀σ H Q,dJ Z (Im sd ta t) σ H Q→KO Z.C m (aT Z sd) [] E0 (dJ Z ta) (Ed Z t) σ H Q:=by
 rintro σ H Q ⟨G,ρ,P,s,en,h,q⟩;refine ⟨G,ρ,_,s,en,h,?_⟩;rintro _ ⟨w,rfl,hd⟩ v G1 H1 x1 dv;have X3:=dv;cases dv with
 | @fo p dx R w hp hr g h1 h2=>
  refine ⟨p,dx,_,rfl,x1.sub _ _ hp,?_,G1,ρ,_,x1.sub,en.mono x1.gg,hd,λds GB vs G2 H2 x2 bB=>?_⟩
  ·have hz:(m==("rows":Str))=false:=by
    cases z:(m==("rows":Str)) with
    |false=>rfl
    |true=>simp [List.lookup,z] at hm
   simp [List.lookup,hz]
  ·show aT Z sd (V.ref p::(vs++ [])) H2 Q E0
   rw [jO];exact ⟨G2,_,P,x2.sub, .cons (X3.mono x2.gg) bB,GB,λd hd v G3 H3 x3 X4=>q d hd v G3 H3 ((x1.trans x2).trans x3) X4⟩
variable {sd:dD} {k:Nat} {f:Addr} {fd:FuncData} {ps:List Str} {m:Str}
theorem rO{pl:Sem Bool}(T:HS Z)(ho:DE Z X o ta)(hm:Meth Z.K Z.C m f)(F:FnOk X.prog X.w X.K X.mg X.base di k f fd ps (aT Z sd))(hr:dr k X.A)(hb:Binds X.K fd ps [])(eK:X.K=Z.K:=by rfl)
  (Ji:([("rows",V.ref 0)]:List (Str×V)).lookup m=none:=by decide)
  (ht:eval (.Call (.Attribute o m apos) [] [] pos) X.env=(do
   let ov ←eval o X.env
   standAt apos.atName
   let (f,first) ←holding [ov] (getMethod ov m pl)
   callWith pos f first (backTo pos (starEach [] X.env)) (backToKw pos (keywordEach [] X.env))):=by rfl):DE Z X (.Call (.Attribute o m apos) [] [] pos) (Im sd ta xu):=
 (Hf (pl:=pl) ho (by rw [eK];exact T.cl) (by rw [eK];exact hm) F hr hb .nil Ew ht).imp λσ H Q h=>by
  obtain ⟨G,ρ,P,s,en,h,q⟩:=GX Ji σ H Q h;refine ⟨G,ρ,P,s,en,h,λd hd v G1 H1 x1 dv=>?_⟩;obtain ⟨p,dx,fs,h1,h2,h3,G',aD,P',s',en',h',q'⟩:=q d hd v G1 H1 x1 dv;exact ⟨p,dx,fs,h1,h2,h3,q' _ h' _ G' _ (.refl s') .nil⟩
def CG(Z:DC):Sp:=λvs H Q _=>∃(p dx:Addr)(v:V)(G:Hp)(w:List (List Nat)),vs= [.ref p,v]∧H p=some (.ins Z.C dx [])∧aK G H∧G p=none∧Dv Z G v (aN w)∧Wb.Good w∧1≤w.length∧w.length≤14∧
 ∀(R:Addr)(G' H':Hp),aK G G'→aK G' H'→(∀b o,H b=some o→b≠p→H' b=some o)→(∀b,H b≠none→G b=none→G' b=none)→H' p=some (.ins Z.C dx [("rows", .ref R)])→Dv Z G' (.ref R) (aN w)→Q .bo H'
def OH(t:iY):br:=λρ P=>t ρ λds=>∃w,ds= [aN w]∧Wb.Good w∧1≤w.length∧w.length≤14∧P (.fo w)
theorem Iy{x:Str}{p:Pos}(M:Mk Z.K Z.C f)(F:FnOk X.prog X.w X.K X.mg X.base di k f fd ps (CG Z))(hr:dr (k+1) X.A)(hg:Gl X x)(hm:X.mg x=some (.ref Z.C))(hb:Binds X.K fd ps [])
  (ha:DA Z X (e::es) t) (eK:X.K=Z.K:=by rfl) (m6:(x==("__debug__":Str))=false:=by decide) (he:starEach (e::es) X.env=(false,eval e X.env)::starEach es X.env:=by rfl) (gn:(backTo pos (starEach es X.env)).any (·.1)=false:=by rfl):
  DE Z X (.Call (.Name x p) (e::es) [] pos) (OH t):=by
 refine (J2 (by rw [eK];exact M) F hr hg hm hb .nil Ew ha m6 he gn).imp ?_
 rintro σ H Q ⟨G,ρ,P,s,en,h,q⟩;refine ⟨G,ρ,_,s,en,h,?_⟩;rintro _ ⟨w,rfl,g,h1,bL,hp⟩ vs G1 H1 x1 bB p dx hx Yu ne;cases bB with
 | @cons v _ _ _ dv bB=>
  cases bB;have PJ:upd H1 dx (.own p) p=none:=by rw [aG (Ne.symm ne)];exact hx
  have sJ:=(aV Yu (.own p)).trans (aV PJ (.ins Z.C dx []));refine ⟨p,dx,v,G1,w,rfl,aC,x1.sub.trans sJ,x1.sub.free hx,dv,g,h1,bL,λR G2 H2 g1 g2 kp off YR Dq=>⟨rfl,?_⟩⟩;have gp:G2 p=none:=off p (by rw [aC];exact λz=>nomatch z) (x1.sub.free hx)
  refine q _ hp _ (upd G2 p (.ins Z.C dx [("rows", .ref R)])) H2 ⟨(x1.gg.trans g1).trans (aV gp _),λb o e=>?_,λb o e=>?_,λb hb hg=>?_⟩ (.fo aC (Dq.mono (aV gp _)) g h1 bL)
  ·by_cases z:b=p
   ·subst z;rw [aC] at e;cases e;exact YR
   ·rw [aG z] at e;exact g2 _ _ e
  ·have e1:=x1.hh _ _ e
   exact kp b o (sJ _ _ e1) (aY e1 hx)
  ·have SS:=fm x1.hh hb
   have nb:b≠p:=λz=>SS (by rw [z];exact hx)
   rw [aG nb];exact off b (fm sJ SS) (x1.off b hb hg)
end
section
variable {Z:DC} {X:Cx} {pos:Pos}
variable {tg iter elt:Expr} {scope:Scope} {NC:List Str} {src:List (Option Nat)} {wi:hJ} {g:dR} {tf:pF} {md:List Nat} {rn:Nat}
end
abbrev iT:=inClass
structure C4 (Z:DC) (m qual:Str) (st:Stmt) (ps:List Str) where
 f:Addr
 fd:FuncData
 F:wQ Z.K m qual st f fd
 b:Binds Z.K fd ps []
 m:Meth Z.K Z.C m f
def rj(K:PySem.W.Frag):Sp:=λvs H Q _=>∃(a:Addr)(ns:List Int),vs= [.ref a]∧cQ K H a (ns.map V.int)∧ns.length≤63∧∀H',Q (.bl true) H'
def F3:dD:=λds P=>∃ns:List Int,ds= [.kH ns]∧ns.length≤63∧P (.bl true)
theorem LW{Z:DC}:∀vs H Q E,rj Z.K vs H Q E→aT Z F3 vs H Q E:=by
 rintro vs H Q E ⟨a,ns,rfl,hS,hl,q⟩;exact ⟨H,[.kH ns],λd=>d= .bl true, .refl _, .cons (.kH hS hl) .nil,⟨ns,rfl,hl,rfl⟩,λd hd v G' H' x dv=>by subst hd;cases dv;exact q H'⟩
theorem QH(k:Nat){l:PySem.W.OpenLaw}{q:Program}{loose:List Str}{XP:(Str→Option Value)→Heap→Prop}{YP:World→Heap→Prop}{d:DefRec}{K:Params→PySem.W.Frag}(BO:3*k<150)(hn:l.most=some 63)(DQ:d.params.defaults= [])
  (hY:∀(w:World)(h:Heap),YP w h→(K w.params).In h)
  (F:∀(w:World)(mg:Str→Option Value)(fa:Addr)(h:Heap),(K w.params).In h→h.Ns mainGlobals mg→mg d.name=some (.ref fa)→
   ∃fd:FuncData,(∀(s:Shared)(u:Value),BindsTo s fd ⟨[u],[]⟩ [("_law_script",u)])∧∀base:Heap,(K w.params).In base→base.Ns mainGlobals mg→FnOk l.prog w (K w.params) mg base di k fa fd ["_law_script"] (rj (K w.params))):
  PySem.W.WalkO q loose XP YP l.row.toRowW d [] (λf vs=>PySem.call f vs):=
 L2.KY (n:=63) (k:=50) (x:="_law_script") (CX:=λ_=>di) (sp:=λw=>rj (K w.params)) hn (by decide) DQ ⟨rfl,by decide,by decide⟩ hY (λw mg fa h a b c=>by
  obtain ⟨fd,h1,h2⟩:=F w mg fa h a b c;exact ⟨fd,h1,λbase x y=>(h2 base x y).mono (by omega)⟩) (λ_ _ a ns hl _ hS=>⟨a,ns,rfl,hS,hl,λ_=>rfl⟩) λ_ _ _ _ _ z=>z
theorem cB{c:Bool}{A B:Prop}(h1:c=true→A)(h2:c=false→B):if c=true then A else B:=by
 cases c with
 |true=>exact eY (h1 rfl)
 |false=>exact dg (h2 rfl)
theorem jb{i:Nat}{tt:dE}{te:br}{ρ:DN}{α:Type}(enc:α→D)(p:α→Bool)(f:α→D):∀(ys:List α)(aD:DN)(acc:List D)(N:DN→List D→Prop),(∀y∈ys,∀(Y:D→Prop)(Nn:Prop),(p y=true→Y (f y))→(p y=false→Nn)→tt (ρ.set i (some (enc y))) λb=>if b=true then te (ρ.set i (some (enc y))) Y else Nn)→
  (∃o,aD=ρ.set i o)→acc.length+ys.length≤sizeLine→(∀aD,N aD (acc++(ys.filter p).map f))→lcW (um i) tt te (ys.map enc) aD acc N
 | [],aD,acc,N,_,_,_,h=>by
  show N aD acc;simpa using h aD
 |y::ys,aD,acc,N,hs,⟨o,ho⟩,hz,h=>by
  show tt (aD.set i (some (enc y))) _;rw [ho,List.set_set];rw [dB] at hz;refine hs y (cD ..) _ _ (λhp=>⟨by omega,?_⟩) (λhp=>?_)
  ·refine jb enc p f ys _ (acc++ [f y]) N (λz hz=>hs z (cM _ hz)) ⟨_,rfl⟩ (by simp;omega) λwM=>?_
   have:=h wM
   rw [tX,hp] at this;simpa using this
  ·refine jb enc p f ys _ acc N (λz hz=>hs z (cM _ hz)) ⟨_,rfl⟩ (by omega) λwM=>?_
   have:=h wM
   rw [tX,hp] at this;simpa using this
theorem jC{i:Nat}{te:br}{ρ:DN}{α:Type}(enc:α→D)(f:α→D)(ys:List α)(N:DN→List D→Prop)(hs:∀y∈ys,∀(Y:D→Prop),Y (f y)→te (ρ.set i (some (enc y))) Y)(h0:ρ[i]? =some none)(hz:ys.length≤sizeLine)(h:∀aD,N aD (ys.map f)):lcW (um i) oU te (ys.map enc) ρ [] N:=by
 refine jb (ρ:=ρ) enc (λ_=>true) f ys ρ [] N (λy hy Y Nn h1 _=>?_) ⟨none,?_⟩ (by simpa using hz) λaD=>by rw [List.filter_eq_self.mpr (λ_ _=>rfl),kJ];exact h aD
 ·unfold oU
  dsimp only;rw [if_pos rfl];exact hs y hy Y (h1 rfl)
 ·obtain ⟨hi,e⟩:=eU.mp h0
  rw [←e,List.set_getElem_self]
theorem xI{g:dR}{tb:e8}{E:gT}(I:Nat→DN→Prop):∀(ds:List D)(k:Nat)(ρ:DN),I k ρ→(∀(j:Nat)(d:D)(ρ:DN),ds[j]? =some d→I (k+j) ρ→∀A:DN→Prop,(∀ρ,I (k+j+1) ρ→A ρ)→g d ρ λaW=>tb {nx:=A,ct:=A,bk:=E.nx,rt:=E.rt} aW)→
  (∀ρ,I (k+ds.length) ρ→E.nx ρ)→mY g tb E ds ρ
 | [],k,ρ,h0,hs,he=>he ρ h0
 |d::ds,k,ρ,h0,hs,he=>by
  refine hs 0 d ρ rfl h0 _ λaD h'=>?_
  exact xI I ds (k+1) aD h' (λj d' cN hj h2 A hA=>by
   refine hs (j+1) d' cN (by simpa using hj) (by rw [show k+(j+1)=k+1+j by omega];exact h2) A λQL h3=>hA QL ?_
   rw [show k+1+j+1=k+(j+1)+1 by omega];exact h3) (λcN h2=>he cN (by rw [dB,show k+(ds.length+1)=k+1+ds.length by omega];exact h2))
theorem dA{g:dR}{tb:e8}{E:gT}{ds:List D}{ρ:DN}(I:Nat→DN→Prop)(h0:I 0 ρ)(hs:∀(j:Nat)(d:D)(ρ:DN),ds[j]? =some d→I j ρ→∀A:DN→Prop,(∀ρ,I (j+1) ρ→A ρ)→g d ρ λaW=>tb {nx:=A,ct:=A,bk:=E.nx,rt:=E.rt} aW)
  (he:∀ρ,I ds.length ρ→E.nx ρ):mY g tb E ds ρ:=xI I ds 0 ρ h0 (λj d ρ hj h A hA=>hs j d ρ hj (by simpa using h) A λaD h'=>hA aD (by simpa using h')) (λρ h=>he ρ (by simpa using h))
theorem BJ{g:dR}{tb:e8}{E:gT}{lo:Int}{n:Nat}{ρ:DN}(I:Nat→DN→Prop)(h0:I 0 ρ)(hs:∀(j:Nat)(ρ:DN),j<n→I j ρ→∀A:DN→Prop,(∀ρ,I (j+1) ρ→A ρ)→g (.int (lo+j)) ρ λaW=>tb {nx:=A,ct:=A,bk:=E.nx,rt:=E.rt} aW)
  (he:∀ρ,I n ρ→E.nx ρ):mY g tb E (dQ lo n) ρ:=by
 have l:(dQ lo n).length=n:=by unfold dQ;simp
 refine dA I h0 (λj d ρ hj h A hA=>?_) (λρ h=>he ρ (by rw [l] at h;exact h))
 have bN:j<n:=by
  have:=(eU.mp hj).1
  rw [l] at this;exact this
 rw [tH bN] at hj;cases hj;exact hs j ρ bN h A hA
theorem qf{c:dE}{tb:e8}{E:gT}{ρ:DN}(I:Nat→DN→Prop)(m0:Nat)(h0:I m0 ρ)(hs:∀m ρ,I m ρ→c ρ λb=>if b=true then tb {nx:=λaD=>∃m',m'<m∧I m' aD,ct:=λaD=>∃m',m'<m∧I m' aD,bk:=E.nx,rt:=E.rt} ρ else E.nx ρ):Fg c tb E ρ:=⟨I,⟨m0,h0⟩,hs⟩
theorem zf:bootBuiltins "reversed"=some (.type "reversed"):=by decide+kernel
section
variable {Z:DC} {X:Cx} {a b c e:Expr} {ta tb te:br} {t:iY} {pos:Pos}
variable {md:List Nat} {rn:Nat} {k:Expr} {tk:br}
variable {apos bu:Pos}
variable {es:List Expr}
end
section
variable {X:Cx} {elt t0 i0 t1 i1:Expr} {f0 f1:List Expr} {scope:Scope} {pos:Pos} {wi cI:TI} {g g1:TG} {tt cq:TT} {te:TE} {src:List (Option Nat)} {NC:List Str}
theorem zj{pins:List (Addr×Obj)}{σ:St}{s2:Shared}{H2:Hp}{it:Addr}{fp:List Addr}{tn:Nat→Heap→Prop}{J:It}{RR:Value→Addr→Result→Shared→Prop}{E:Value→Shared→Prop}{Q:VK}
  (hc:X.calm=true) (c:b9 X scope) (dO:cR scope X.N src NC) (I2:Inv X pins σ H2 s2) (T:Turn X.prog X.w X.K t0 J fp it tn) (iO:tn 0 s2.heap) (f2:∀b∈fp,eW X pins H2 b)
  (hg:∀ex s H,PG (bT X scope NC ex s H) t0 g) (ht:∀ex s H,jS (bT X scope NC ex s H) f0 tt) (oM:∀ex s H,PI (bT X scope NC ex s H) t1 i1 cI) (u0:∀ex s H,PG (bT X scope NC ex s H) t1 g1)
  (u9:∀ex s H,jS (bT X scope NC ex s H) f1 cq) (he:∀ex s H,PE (bT X scope NC ex s H) elt te) (qG:∀env x,foldedSetIterable i1 env x=pure x)
  (hW:∀D,H2 D=none→N0 g tt cI g1 cq te D J Q (me src σ) (upd H2 D (.lst [])))
  (Pc:∀D s3 H3 ay H' s',Inv X pins σ H3 s3→(∀b∈fp,eW X pins H3 b)→Inv (bT X scope NC fp s3 H3) [] ay H' s'→Q (.ref D) H'→RR (.ref D) s3.heap.objs.size (.ok .next) s'):
  wpAny (model X.prog X.w) X.A (newList []) (λacc KL=>wpAny (model X.prog X.w) X.A (newFunctionEnv scope X.env.globals (h7 X.env scope.names []) [] X.env.qual none .none (some X.env)) (λjx rm=>
   codeAny (model X.prog X.w) X.A (.compStart (.ListComp elt [⟨t0,i0,f0,0⟩,⟨t1,i1,f1,0⟩] scope pos) 0 (.ref it) acc {jx with scope:=relabel scope X.env}) (RR acc jx.locals) rm) E KL) E s2:=by
 obtain ⟨W,⟨m0,w0⟩,turn⟩:=hW s2.heap.objs.size I2.fresh;have I3:Inv X pins σ (upd H2 s2.heap.objs.size (.lst [])) {s2 with heap:=s2.heap.push {cls:= .type "list",data:= .seq ([]:List Value).toArray}}:=I2.B5 (its:= []) (t':=s2.toks) .nil (cH _)
 have B6:∀b∈fp,b<s2.heap.objs.size:=λb hb=>by
  obtain ⟨o,e,_⟩:=T.obj _ _ iO b hb;exact Heap.lt_size e
 have f3:∀b∈fp,eW X pins (upd H2 s2.heap.objs.size (.lst [])) b:=λb hb=>⟨by rw [aG (bV (B6 b hb))];exact (f2 b hb).1,(f2 b hb).2⟩
 refine wpAny_newObj_type ?_
 suffices key:∀s3:Shared,Inv X pins σ (upd H2 s2.heap.objs.size (.lst [])) s3→(∀b o,s2.heap.get? b=some o→s3.heap.get? b=some o)→
   wpAny (model X.prog X.w) X.A (newFunctionEnv scope X.env.globals (h7 X.env scope.names []) [] X.env.qual none .none (some X.env)) (λjx rm=>
    codeAny (model X.prog X.w) X.A (.compStart (.ListComp elt [⟨t0,i0,f0,0⟩,⟨t1,i1,f1,0⟩] scope pos) 0 (.ref it) (.ref s2.heap.objs.size) {jx with scope:=relabel scope X.env}) (RR (.ref s2.heap.objs.size) jx.locals) rm) E s3 from
  key _ I3 λb o e=>Heap.get?_push_of_some _ e
 intro s3 I3 KU;have qa:tn 0 s3.heap:=T.keep _ _ _ iO λb _ o e=>KU b o e
 have vq:∀b∈fp,b<s3.heap.objs.size:=λb hb=>by
  obtain ⟨o,e,_⟩:=T.obj _ _ qa b hb;exact Heap.lt_size e
 generalize SN:upd H2 s2.heap.objs.size (.lst [])=H3 at I3 f3 w0;refine wpAny_newFunctionEnv c.nocell (by intro y hy;simp at hy) (λh1 u5 t8=>?_) c.kind
 have I4:=rN (src:=src) (NC:=NC) (ex:=fp) (tk:=s3.toks+([]:List (Str×Value)).length) I3 c dO f3 vq u5 t8;have CI:tn 0 h1:=T.keep _ _ _ qa λb hb o e=>t8.extBut b o (bV (vq b hb)) (Heap.get?_push_of_some _ e);generalize hX:bT X scope NC fp s3 H3=XC at I4
 have stat:∀{H':Hp},(∀b∈fp,H' b=none)→∀b∈fp,eW XC [] H' b:=λ {H'} hn b hb=>by
  subst hX;refine ⟨hn b hb,bV (vq b hb),λz=>?_, .inl hb,λx d e=>?_,λp hp=>absurd (show p∈([]:List (Addr×Obj)) from hp) (by simp)⟩
  ·exact (I4.ok.exfs b hb) z
  ·exact (I4.ok.exf b hb).2 x d e
 have w4:XC.calm=true:=by subst hX;exact hc
 have eP:XC.prog=X.prog:=by subst hX;rfl
 have ew:XC.w=X.w:=by subst hX;rfl
 have eK:XC.K=X.K:=by subst hX;rfl
 have eA:XC.A=X.A:=by subst hX;rfl
 have DZ:XC.xe=λ_ _=>False:=by subst hX;rfl
 have Je:PG XC t0 g:=by subst hX;exact hg _ _ _
 have Jn:jS XC f0 tt:=by subst hX;exact ht _ _ _
 have Pu:PI XC t1 i1 cI:=by subst hX;exact oM _ _ _
 have Jd:PG XC t1 g1:=by subst hX;exact u0 _ _ _
 have Jm:jS XC f1 cq:=by subst hX;exact u9 _ _ _
 have Ja:PE XC elt te:=by subst hX;exact he _ _ _
 have ie:∀{α:Type}{t:Sem α}{Q:α→Shared→Prop}{E:Value→Shared→Prop}{s:Shared},wpAny (model XC.prog XC.w) XC.A t Q XC.xe s→wpAny (model X.prog X.w) X.A t Q E s:=λ {α t Q E s} h=>by
  rw [←eP,←ew,←eA];exact wpAny_mono h (λ_ _ q=>q) λ_ _ f=>by rw [DZ] at f;exact f.elim
 have loop:codeAny (model X.prog X.w) X.A (.compLoop (.ListComp elt [⟨t0,i0,f0,0⟩,⟨t1,i1,f1,0⟩] scope pos) 0 (.ref it) (.ref s2.heap.objs.size) XC.env) (RR (.ref s2.heap.objs.size) s3.heap.objs.size)
   {s3 with heap:=h1,toks:=s3.toks+([]:List (Str×Value)).length}:=by
  refine codeAny_loop rfl (λn s'=>∃i ay H',Inv XC [] ay H' s'∧tn i s'.heap∧(∀b∈fp,H' b=none)∧W i n ay H') (λn s' hI=>?_) m0 ⟨0,_,_,I4,CI,λb hb=>(f3 b hb).1,w0⟩;obtain ⟨i,ay,H',I5,qb,rT,w5⟩:=hI;show wpAny _ X.A ((compTurn (.ListComp elt [⟨t0,i0,f0,0⟩,⟨t1,i1,f1,0⟩] scope pos) 0 (.ref it) (.ref s2.heap.objs.size) XC.env).onRaise (λx=>do noteFrame x XC.env;theTreesLotGoes x)) _ _ s'
  refine wpAny_noted ?_;rw [mQ];refine wpAny_bind (wpAny_standAt (wpAny_bind ?_))
  rcases turn i n ay H' w5 with ⟨stop,qn⟩ | ⟨go,N,hN,step⟩
  ·have hd:=T.done XC eP ew eK w4 i [] s' ay H' (notedBy (model X.prog X.w) X.A XC.env λe s'=>RR (.ref s2.heap.objs.size) s3.heap.objs.size (.error e) s') I5 (stat rT) qb stop
   rw [eA] at hd;refine thn hd λr s6 ⟨hr,I6⟩=>?_;subst hr;refine wpAny_pure ?_;subst hX;exact Pc _ s3 _ ay H' s6 I3 f3 I6 qn
  ·have hd:=T.item XC eP ew eK w4 i [] s' ay H' (notedBy (model X.prog X.w) X.A XC.env λe s'=>RR (.ref s2.heap.objs.size) s3.heap.objs.size (.error e) s') I5 (stat rT) qb go
   rw [eA] at hd;refine thn hd λr s6 ⟨u,hr,h6⟩=>?_;subst hr;refine wpAny_bind (thn h6 λ_ s7 ⟨x,H7,I7,r7,y7,qc,DB⟩=>?_);have C2:=I7.pinned (stat DB) (T.obj _ _ qc)
   have nextT:∀{eu:St}{H8:Hp}{s8:Shared},Inv XC ([]++jF fp s7.heap) eu H8 s8→N eu H8→∃m,m<n∧∃i ay H',Inv XC [] ay H' s8∧tn i s8.heap∧(∀b∈fp,H' b=none)∧W i m ay H':=λ {eu H8 s8} I8 n8=>by
    obtain ⟨m',hm,w8⟩:=hN eu H8 n8;refine ⟨m',hm,i+1,eu,H8,I8.g9,T.keep _ _ _ qc λb hb o e=>(I8.pin (b,o) (cG _ (cG _ (cU hb e)))).1,λb hb=>?_,w8⟩;obtain ⟨o,e,d⟩:=T.obj _ _ qc b hb;exact (I8.pin (b,o) (cG _ (cG _ (cU hb e)))).2.1
   refine wpAny_bind (ie (thn (Je _ s7 ay H7 x u _ C2 r7 (step x H7 y7)) λ_ s8 ⟨eu,H8,I8,q8⟩=>?_));refine wpAny_bind (ie (thn (Jn _ s8 eu H8 _ I8 q8) λb s9 ⟨H9,I9,q9⟩=>?_));cases b with
   |false=>
    rw [if_neg cW] at q9;exact wpAny_pure ⟨by subst hX;rfl,nextT I9 q9⟩
   |true=>
    rw [if_pos rfl] at q9;refine wpAny_bind (ie (thn (Pu _ s9 eu H9 _ I9 q9) λv1 Kt O5=>?_));refine wpAny_bind (wpAny_standAt (wpAny_bind (wpAny_of_eq (qG _ v1) (wpAny_bind (wpAny_holding (ie (thn O5 λBZ EI O6=>?_)))))));obtain ⟨zO,Yd,tn1,J1,HJ,rfl,C1,T1,KH,OV,w9⟩:=O6;refine wpAny_bind (wpAny_runOwn ?_);have tr:∀(cd:Code)(R:Result→Shared→Prop),codeAny (model XC.prog XC.w) XC.A cd R EI→codeAny (model X.prog X.w) X.A cd R EI:=λcd R h=>by rw [eP,ew,eA] at h;exact h
    exact tr _ _ (tq DZ w4 C1 T1 KH OV Jd Jm Ja w9 λay H' s' N7 PY=>wpAny_pure ⟨by subst hX;rfl,nextT N7 PY⟩)
 subst hX;exact codeAny_compStart_list loop (T.self _ 0 _ _ _ CI loop)
def KN(wi:TI)(g:TG)(tt:TT)(cI:TI)(g1:TG)(cq:TT)(te:TE)(src:List (Option Nat))(i:Nat):TS:=λD σ H=>F7 wi g tt cI g1 cq te src σ H λv H'=>D.nx (σ.set i (some v)) H'
theorem vL{i:Nat}{x:Str}{px ij:Pos}(hc:X.calm=true)(hN:X.N.Nodup)(iK:X.N[i]? =some x)(hx:Loc X.env.scope x)(c:b9 X scope)(dO:cR scope X.N src NC)(hi:PI X t0 i0 wi)
  (hg:∀ex s H,PG (bT X scope NC ex s H) t0 g) (ht:∀ex s H,jS (bT X scope NC ex s H) f0 tt) (oM:∀ex s H,PI (bT X scope NC ex s H) t1 i1 cI) (u0:∀ex s H,PG (bT X scope NC ex s H) t1 g1)
  (u9:∀ex s H,jS (bT X scope NC ex s H) f1 cq) (he:∀ex s H,PE (bT X scope NC ex s H) elt te)
  (kW:swapsWith (.ListComp elt [⟨t0,i0,f0,0⟩,⟨t1,i1,f1,0⟩] scope pos) (some (.Name x px)) ij.line X.env=pure true)
  (hf:X.fn x=true∨X.env.scope.names.lookup x=some .local:=by first|exact .inl rfl|exact .inr rfl|assumption)
  (hs:∀x,foldedSetIterable i0 X.env x=pure x:=by intro _;rfl) (qG:∀env x,foldedSetIterable i1 env x=pure x:=by intro _ _;rfl):PS X (.Assign [.Name x px] (.ListComp elt [⟨t0,i0,f0,0⟩,⟨t1,i1,f1,0⟩] scope pos) ij) (KN wi g tt cI g1 cq te src i):=by
 intro pins s σ H D I h;rw [exec_Assign_Name_used _ _ _ _ kW];refine wpAny_bind (wpAny_standAt (wpAny_bind ?_));show wpAny _ X.A (do let _ ←comprehension (.ListComp elt [⟨t0,i0,f0,0⟩,⟨t1,i1,f1,0⟩] scope pos) scope X.env _ (newList []) false (eval i0 X.env) (some (assign (.Name x px) X.env))) _ _ s
 refine wpAny_bind (wpAny_mono (wpAny_comprehension_free (use:=some (assign (.Name x px) X.env)) (Q:=λ_ s'=>SP X pins D .next s') rfl hs (fw (c.cells I.ok)) c.kind c.names
  (thn (hi pins s σ H _ I h) λv s1 h1=>thn h1 λBZ s2 h2=>?_)) (λ_ s' hq=>wpAny_pure (wpAny_pure hq)) λ_ _ e=>e)
 obtain ⟨it,fp,tn,J,H2,rfl,I2,T,iO,f2,hW⟩:=h2;refine zj (RR:=λacc C=>compPost (model X.prog X.w) X.A X.xe (some (assign (.Name x px) X.env)) (λ_ s'=>SP X pins D .next s') acc C) (Q:=λv H'=>D.nx (σ.set i (some v)) H') hc c dO I2 T iO f2 hg ht oM u0 u9 he qG hW ?_;intro a s3 H3 ay H' s' I3 f3 J' q;obtain ⟨m,hn,_⟩:=J'.loc;have IX:Inv X pins σ H' s':=comp_back I3 f3 J' (.refl ..);show wpAny _ X.A (assign (.Name x px) X.env (.ref a)) _ _ _;have nL:s3.heap.objs.size≠X.env.locals:=Nat.ne_of_gt I3.lt
 have nc:∀y d,X.env.cells.lookup y=some d→d≠s3.heap.objs.size:=λy d e z=>by
  obtain ⟨v,hv⟩:=I3.cell y d e
  have:=hv.lt
  rw [z] at this;exact absurd this (iw _)
 have np:∀p∈X.pn++pins,p.1≠s3.heap.objs.size:=λp hp z=>by
  have:=Heap.lt_size (I3.pin p hp).1
  rw [z] at this;exact absurd this (iw _)
 obtain ⟨oC,es,ep,PC,DP,rC⟩:=id hn;have IT:H' s3.heap.objs.size=none:=J'.free
 have IP:Inv X ((s3.heap.objs.size,oC)::pins) σ H' s':=IX.kx λp hp=>by
  rcases cv.mp hp with z|z
  ·rw [z]
   exact ⟨PC,IT,nL,I3.JN (bC _),λv w=>by rw [DP] at w;cases w⟩
  ·exact IX.pin p (cG _ z)
 refine wpAny_assign_Name (ou (x:=x) IP hN iK hx (v:= .ref a) rfl (λs5 I5=>?_) hf);have O8:=(I5.pin (s3.heap.objs.size,oC) (cG _ cD)).1;refine ⟨m,⟨oC,es,ep,O8,DP,rC⟩,λh6 sb=>?_⟩;have HK:Inv X pins (σ.set i (some (.ref a))) H' s5:=I5.kx λp hp=>I5.pin p (cG _ (cM _ hp));exact ⟨_,H',HK.turned (t':=s5.toks) (it:=s3.heap.objs.size) (λb o hb e=>sb.extBut b o hb e) IT nL (.inr I3.sz) nc np,q⟩
end
section
variable {Z:DC} {X:Cx} {md:List Nat} {rn:Nat} {elt t0 i0 t1 i1:Expr} {f0 f1:List Expr} {scope:Scope} {pos:Pos} {wi cI:hJ} {g g1:dR} {tt cq:dE} {te:br} {src:List (Option Nat)} {NC:List Str}
theorem Dl(i:Nat){x:Str}{px ij:Pos}(hc:X.calm=true)(hN:X.N.Nodup)(c:b9 X scope)(dO:cR scope X.N src NC)(hi:DI Z X t0 i0 wi)
  (hg:∀ex s H,DG Z (bT X scope NC ex s H) t0 g) (ht:∀ex s H,tZ Z (bT X scope NC ex s H) f0 tt) (oM:∀ex s H,DI Z (bT X scope NC ex s H) t1 i1 cI) (u0:∀ex s H,DG Z (bT X scope NC ex s H) t1 g1)
  (u9:∀ex s H,tZ Z (bT X scope NC ex s H) f1 cq) (he:∀ex s H,DE Z (bT X scope NC ex s H) elt te)
  (kW:swapsWith (.ListComp elt [⟨t0,i0,f0,0⟩,⟨t1,i1,f1,0⟩] scope pos) (some (.Name x px)) ij.line X.env=pure true:=by rfl) (hm:md.getD i 0=0:=by rfl) (iK:X.N[i]? =some x:=by rfl) (hx:Loc X.env.scope x:=by first|exact Or.inl rfl|exact Or.inr rfl)
  (hf:X.fn x=true∨X.env.scope.names.lookup x=some .local:=by first|exact .inl rfl|exact .inr rfl|assumption)
  (hs:∀x,foldedSetIterable i0 X.env x=pure x:=by intro _;rfl) (qG:∀env x,foldedSetIterable i1 env x=pure x:=by intro _ _;rfl):
  DSt Z X md rn (.Assign [.Name x px] (.ListComp elt [⟨t0,i0,f0,0⟩,⟨t1,i1,f1,0⟩] scope pos) ij) (Iu md false i (Il wi g tt cI g1 cq te src)):=by
 refine (vL hc hN iK hx c dO hi hg ht oM u0 u9 he kW hf hs qG).imp ?_;rintro D σ H ⟨B,ρ,E,⟨G,fp,S⟩,h,M⟩;refine B4 σ H _ (S.ev false h λd hd=>⟨hd.1,λv G' H' S' x dv=>M.nx _ hd.2 _ _ ⟨G',_,S'.Cw hm dv⟩⟩)
end
section
variable {Z:DC} {X:Cx} {md:List Nat} {rn:Nat} {e:Expr} {pos:Pos}
theorem av.flat{G G':Hp}:∀{vs:List V}{ds:List D},av Z G vs ds→ds.all fH=true→av Z G' vs ds
 |_,_, .nil,_=> .nil
 |_,_, .cons a as,h=>by
  rw [List.all_cons,tW] at h;exact .cons (a.flat h.1) (as.flat h.2)
end
theorem kT{l:List D}{j:Nat}{d:D}(h:(gW l)[j]? =some d):∃x,l[j]? =some x∧d= .tup [.int (j:Int),x]:=by
 unfold gW at h;rw [List.getElem?_mapIdx] at h;cases e:l[j]? with
 |none=>rw [e] at h;cases h
 |some x=>rw [e] at h;cases h;exact ⟨x,rfl,rfl⟩
theorem pM(l:List D):(gW l).length=l.length:=by unfold gW;simp
theorem eF{α β:Type}{f:α→β}{l:List α}{j:Nat}{y:β}(h:(l.map f)[j]? =some y):∃x,l[j]? =some x∧y=f x:=by
 rw [e7] at h;cases e:l[j]? with
 |none=>rw [e] at h;cases h
 |some x=>rw [e] at h;cases h;exact ⟨x,rfl,rfl⟩
theorem bS(r:List Nat):(r.map ae).all fH=true:=by simp [ae,fH]
theorem gx{r:List Nat}{p:Nat}:inD (ae p) (r.map ae)=decide (p∈r):=by
 unfold inD;rw [List.any_map]
 have:((λy=>jz y (ae p))∘ae)=λq:Nat=>decide (q=p):=by
  funext q
  simp [ae,jz,Function.comp]
  by_cases z:q=p
  ·simp [z]
  ·have:¬(q:Int)=(p:Int):=by omega
   simp [z,this]
 rw [this]
 by_cases h:p∈r
 ·rw [decide_eq_true h,List.any_eq_true];exact ⟨p,h,by simp⟩
 ·rw [decide_eq_false h]
  apply wx.mpr;intro z;rw [List.any_eq_true] at z;obtain ⟨q,hq,e⟩:=z
  exact h (by have:q=p:=by simpa using e
              rw [←this];exact hq)
theorem iQ{l:List D}{p:Nat}{d:D}(h:l[p]? =some d):gu l (p:Int)=some d:=Bp h
theorem vZ{w:List (List Nat)}{p:Nat}(h:p<w.length):(w.map aq)[p]? =some (aq (Wb.row w p)):=by
 rw [e7,Wb.Ks h];rfl
section
variable {Z:DC} {X:Cx} {md:List Nat} {rn:Nat} {e:Expr} {te:br} {pos:Pos}
end
theorem xQ{c:Bool}{A B:Prop}(e:c=false)(h:B):if c=true then A else B:=by rw [if_neg (by rw [e];exact cW)];exact h
theorem qJ{g:dR}{tt:dE}{te:br}{α:Type}(I:DN→Prop)(enc:α→D)(p:α→Bool)(f:α→D):∀(ys:List α)(aD:DN)(acc:List D)(N:DN→List D→Prop),(∀y∈ys,∀aD,I aD→∀(Y:DN→D→Prop)(Nn:DN→Prop),(∀aW,I aW→p y=true→Y aW (f y))→(∀aW,I aW→p y=false→Nn aW)→g (enc y) aD λaW=>tt aW λb=>if b=true then te aW (Y aW) else Nn aW)→
  I aD→acc.length+ys.length≤sizeLine→(∀aD,I aD→N aD (acc++(ys.filter p).map f))→lcW g tt te (ys.map enc) aD acc N
 | [],aD,acc,N,_,hI,_,h=>by
  show N aD acc;simpa using h aD hI
 |y::ys,aD,acc,N,hs,hI,hz,h=>by
  rw [dB] at hz;refine hs y (cD ..) aD hI (λaW d=>acc.length<sizeLine∧lcW g tt te (ys.map enc) aW (acc++ [d]) N) (λaW=>lcW g tt te (ys.map enc) aW acc N) (λaW h1 hp=>⟨by omega,?_⟩) (λaW h1 hp=>?_)
  ·refine qJ I enc p f ys _ (acc++ [f y]) N (λz hz=>hs z (cM _ hz)) h1 (by simp;omega) λwM h2=>?_
   have:=h wM h2
   rw [tX,hp] at this;simpa using this
  ·refine qJ I enc p f ys _ acc N (λz hz=>hs z (cM _ hz)) h1 (by omega) λwM h2=>?_
   have:=h wM h2
   rw [tX,hp] at this;simpa using this
theorem B2{g:dR}{cI:hJ}{g1:dR}{te:br}{α β:Type}(I:DN→Prop)(enc:α→D)(f:α→List β)(iD:β→D):∀(ys:List α)(aD:DN)(acc:List β)(P:List D→Prop),
  (∀y∈ys,∀aD,I aD→∀(Y:DN→List D→Prop),(∀aW,I aW→Y aW ((f y).map iD))→g (enc y) aD λaW=>cI aW (Y aW))→
  (∀y∈ys,∀b∈f y,∀aD,I aD→∀(Y:DN→D→Prop),(∀aW,I aW→Y aW (iD b))→g1 (iD b) aD λaW=>te aW (Y aW))→
  I aD→acc.length+(ys.flatMap f).length≤sizeLine→P ((acc++ys.flatMap f).map iD)→ic g oU cI g1 oU te (ys.map enc) aD (acc.map iD) P
 | [],aD,acc,P,_,_,hI,_,h=>by
  show P (acc.map iD);simpa using h
 |y::ys,aD,acc,P,h1,h2,hI,hz,h=>by
  rw [jN,cy] at hz;refine h1 y (cD ..) aD hI (λaW es=>lcW g1 oU te es aW (acc.map iD) λcN j7=>ic g oU cI g1 oU te (ys.map enc) cN j7 P) λaW Yl=>?_;refine qJ I iD (λ_=>true) iD (f y) aW (acc.map iD) _ (λb hb cN Gy Y Nn hY _=>?_) Yl (by rw [aI];omega) λcN Gy=>?_
  ·exact h2 y (cD ..) b hb cN Gy Y λQL h3=>hY QL h3 rfl
  ·rw [List.filter_eq_self.mpr (λ_ _=>rfl),←eJ]
   refine B2 I enc f iD ys cN (acc++f y) P (λz hz=>h1 z (cM _ hz)) (λz hz=>h2 z (cM _ hz)) Gy (by rw [cy];omega) ?_
   rw [jN] at h;rw [rF];exact h
theorem iE{α:Type}{us:List α}(h:us.length=1):∃a0,us= [a0]:=by
 cases us with
 |nil=>cases h
 |cons a l=>
  cases l with
  |nil=>exact ⟨a,rfl⟩
  |cons _ _=>cases h
theorem oW{α:Type}{us:List α}(h:us.length=2):∃a0 a1,us= [a0,a1]:=by
 cases us with
 |nil=>cases h
 |cons a l=>
  obtain ⟨a1,rfl⟩:=iE (Nat.succ.inj h);exact ⟨a,a1,rfl⟩
theorem qK{α:Type}{us:List α}(h:us.length=3):∃a0 a1 a2,us= [a0,a1,a2]:=by
 cases us with
 |nil=>cases h
 |cons a l=>
  obtain ⟨a1,a2,rfl⟩:=oW (Nat.succ.inj h);exact ⟨a,a1,a2,rfl⟩
section
variable {Z:DC} {X:Cx} {e:Expr} {es:List Expr} {t:iY} {pos:Pos}
theorem aB{sd:dD}{k j:Nat}{x:Str}{st:Stmt}{ps:List Str}{p:Pos}(d:gk X.K X.mg x st ps)(F:FnOk X.prog X.w X.K X.mg X.base di k d.f d.fd ps (aT Z sd))(hr:dr j X.A)(ha:DA Z X (e::es) t)(hg:Gl X x:=by rfl)(hk:k≤j:=by first|decide|omega)
  (m6:(x==("__debug__":Str))=false:=by decide) (he:starEach (e::es) X.env=(false,eval e X.env)::starEach es X.env:=by rfl) (gn:(backTo pos (starEach es X.env)).any (·.1)=false:=by rfl):
  DE Z X (.Call (.Name x p) (e::es) [] pos) (uR sd t):=Iw F (hr.mono hk) hg d.m d.F.kp d.b ha m6 he gn
theorem oH{scope:Scope}(sc:Scope)(e:X.env.scope=sc:=by rfl)(k:scope.kind= .function:=by rfl)(a:∀x∈scope.names,x.2= .local→scope.names.lookup x.1=some .local:=by decide+kernel)(b:∀x∈scope.names,x.2≠ .cell:=by decide+kernel)
  (c:∀x∈scope.names,x.2= .free→sc.names.lookup x.1=some .cell∨sc.names.lookup x.1=some .free:=by decide+kernel):b9 X scope:=b9.of sc e k a b c
end
section
variable {K:PySem.W.Frag} {h:Heap} {mg:Str→Option Value}
abbrev gM(K:PySem.W.Frag)(x:Str)(d:Addr):Prop:=PySem.W.nsIn K mainGlobals x=some (some (.ref d))
abbrev fg(K:PySem.W.Frag)(x qual:Str)(st:Stmt)(d:Addr)(od an:Option Addr)(sl:Array (Option Value))(oc kV dc pm cd ct:Value):Prop:=K.lookup d=some ⟨oc,od, .func (PySem.W.fnOf x qual (i8 st) (fI st) (ar st) .none kV dc pm an cd ct),sl⟩
def gk.of{x:Str}{st:Stmt}{ps:List Str}{d:Addr}{od an:Option Addr}{sl:Array (Option Value)}{oc kV dc pm cd ct:Value}(X:K.In h)(G:h.Ns mainGlobals mg)(a:gM K x d)(l:fg K x x st d od an sl oc kV dc pm cd ct)(c:PySem.W.codeIn K cd x=true)(k:PySem.W.keepIn K (.ref d)=true)
  (b:∀(kV doc pm:Value)(an:Option Addr)(bQ ct:Value)(us:List Value),us.length=ps.length→bindArgs (PySem.W.fnOf x x (i8 st) (fI st) (ar st) .none kV doc pm an bQ ct) ⟨us,[]⟩=pure (ps.zip us)):gk K mg x st ps:=
 ⟨d,_,qB l c k,(qB l c k).binds b,PySem.W.mg_of X G a⟩
def C4.of{Z:DC}{m qual:Str}{st:Stmt}{ps:List Str}{d:Addr}{od an:Option Addr}{sl:Array (Option Value)}{oc kV dc pm cd ct:Value}(a:PySem.W.findIn Z.K (.ref Z.C) m=some (some (.ref d)))(f:PySem.W.isFn Z.K (.ref d)=true)(l:fg Z.K m qual st d od an sl oc kV dc pm cd ct)(c:PySem.W.codeIn Z.K cd qual=true)(k:PySem.W.keepIn Z.K (.ref d)=true)
  (b:∀(kV doc pm:Value)(an:Option Addr)(bQ ct:Value)(us:List Value),us.length=ps.length→bindArgs (PySem.W.fnOf m qual (i8 st) (fI st) (ar st) .none kV doc pm an bQ ct) ⟨us,[]⟩=pure (ps.zip us)):C4 Z m qual st ps:=
 ⟨d,_,qB l c k,(qB l c k).binds b,⟨a,f,k⟩⟩
end
end L2
namespace Wb
theorem gv{w:W}(g:Good w):(b7 w).Nodup:=by
 unfold b7 List.Nodup;refine nk (λp _=>?_) ?_
 ·rw [jM]
  exact (g.nod p).imp λne e=>ne (congrArg Prod.snd e)
 ·refine List.Pairwise.imp ?_ List.pairwise_lt_range
  intro a b lt x hx y hy e;obtain ⟨_,_,rfl⟩:=bK.mp hx;obtain ⟨_,_,rfl⟩:=bK.mp hy
  have:=congrArg Prod.fst e
  simp at this;omega
structure RI (w:W) (bs:List Bool) (ws ex:List Nat) (c:Nat):Prop where
 len:bs.length=w.length
 z:bs[0]? =some true
 wt:∀x∈ws,bs[x]? =some true
 cl:∀x,bs[x]? =some true→x∈ws∨x∈ex∨∀q∈row w x,bs[q]? =some true
 cnt:bs.count false+ws.length≤c
theorem RI.pop{w:W}{bs:List Bool}{ws:List Nat}{p c:Nat}(h:RI w bs (ws++ [p]) [] (c+1)):RI w bs ws [p] c:=
 ⟨h.len,h.z,λx hx=>h.wt x (fL _ hx),λx hx=>by
  rcases h.cl x hx with q|q|q
  ·rcases dh.mp q with q|q
   ·exact .inl q
   ·exact .inr (.inl q)
  ·cases q
  ·exact .inr (.inr q),by have:=h.cnt;rw [cy] at this;simp at this;omega⟩
theorem RI.push{w:W}{bs:List Bool}{ws ex:List Nat}{q c:Nat}(h:RI w bs ws ex c)(hq:bs[q]? =some false):RI w (bs.set q true) (ws++ [q]) ex c:=by
 obtain ⟨hl,he⟩:=eU.mp hq
 have up:∀x,bs[x]? =some true→(bs.set q true)[x]? =some true:=λx hx=>by
  rw [tV]
  by_cases e:q=x
  ·rw [if_pos e,if_pos hl]
  ·rw [if_neg e];exact hx
 refine ⟨by rw [mn];exact h.len,up _ h.z,λx hx=>?_,λx hx=>?_,?_⟩
 ·rcases dh.mp hx with z|z
  ·exact up _ (h.wt x z)
  ·have:x=q:=by simpa using z
   rw [this,tV,if_pos rfl,if_pos hl]
 ·by_cases e:q=x
  ·exact .inl (by rw [e];simp)
  ·rw [tV,if_neg e] at hx
   rcases h.cl x hx with z|z|z
   ·exact .inl (fL _ z)
   ·exact .inr (.inl z)
   ·exact .inr (.inr λy hy=>up _ (z y hy))
 ·have hc:=h.cnt
  have:0<bs.count false:=List.count_pos_iff.mpr (by rw [←he];exact rH hl)
  rw [List.count_set hl,he,cy];simp;omega
theorem RI.close{w:W}{bs:List Bool}{ws:List Nat}{p c:Nat}(h:RI w bs ws [p] c)(hp:∀q∈row w p,bs[q]? =some true):RI w bs ws [] c:=
 ⟨h.len,h.z,h.wt,λx hx=>by
  rcases h.cl x hx with q|q|q
  ·exact .inl q
  ·have:x=p:=by simpa using q
   rw [this];exact .inr (.inr hp)
  ·exact .inr (.inr q),h.cnt⟩
theorem RI.all{w:W}{bs:List Bool}{c:Nat}(g:Good w)(h:RI w bs [] [] c):bs=List.replicate w.length true:=by
 have:=tj g (S:=λx=>bs[x]? =some true) h.z λp q hp hq=>by
  rcases h.cl p hp with z|z|z
  ·cases z
  ·cases z
  ·exact z q hq
 refine wu λi=>?_
 by_cases hi:i<w.length
 ·rw [this i hi,A6,if_pos hi]
 ·rw [mh (by rw [h.len];omega),mh (by simp;omega)]
end Wb
namespace rK
open PySem L2 Wb
def top(i:Nat):Stmt:=PySem.Challenge.pw_mapdye_k35_whole_counts_and_turned_rings.main.body.getD i (.Pass ⟨0,0,0,0⟩)
abbrev nB:Stmt:=top 10
abbrev jl:Stmt:=top 11
abbrev j6:Stmt:=top 12
abbrev jq:Stmt:=top 13
abbrev j5:Stmt:=top 14
abbrev df:Stmt:=top 15
abbrev jn:Stmt:=top 16
abbrev jo:Stmt:=top 17
abbrev nz:Stmt:=top 20
abbrev lF:Stmt:=top 21
abbrev kD:Stmt:=top 22
abbrev fE:Stmt:=top 23
abbrev iB:Stmt:=top 25
abbrev j0:Stmt:=top 26
abbrev j3:Stmt:=top 27
abbrev eN:Stmt:=top 28
abbrev jZ:Stmt:=top 29
abbrev jH:Stmt:=top 30
abbrev jk:Stmt:=top 31
abbrev gF:Stmt:=top 32
abbrev ji:Stmt:=top 33
abbrev gG:Stmt:=top 34
abbrev j4:Stmt:=top 35
abbrev dk:Stmt:=top 36
abbrev fk:Stmt:=top 37
abbrev jj:Stmt:=top 38
abbrev EK:Stmt:=top 39
abbrev eH:Stmt:=L2.iT (top 18) 0
abbrev tJ:Stmt:=L2.iT (top 18) 1
abbrev iN:Stmt:=L2.iT (top 18) 2
abbrev jG:Stmt:=L2.iT (top 18) 3
abbrev tK:Stmt:=L2.iT (top 18) 4
abbrev pb:Stmt:=L2.iT (top 18) 5
theorem rf:aJ ["thing","many"] ["thing","many"] (ar nB):=⟨rfl,rfl,rfl,by decide+kernel,rfl,by decide+kernel,by decide+kernel⟩
theorem lW:aJ ["rows","p","row","q"] ["rows"] (ar jl):=⟨rfl,rfl,rfl,by decide+kernel,rfl,by decide+kernel,by decide+kernel⟩
theorem nM:aJ ["rows","p","row"] ["rows"] (ar j6):=⟨rfl,rfl,rfl,by decide+kernel,rfl,by decide+kernel,by decide+kernel⟩
theorem lZ:aJ ["rows","p","row","place","q"] ["rows"] (ar jq):=⟨rfl,rfl,rfl,by decide+kernel,rfl,by decide+kernel,by decide+kernel⟩
theorem nK:aJ ["rows","p","row","q"] ["rows"] (ar j5):=⟨rfl,rfl,rfl,by decide+kernel,rfl,by decide+kernel,by decide+kernel⟩
theorem gH:aJ ["rows","reached","waiting","p","q"] ["rows"] (ar df):=⟨rfl,rfl,rfl,by decide+kernel,rfl,by decide+kernel,by decide+kernel⟩
theorem lX:aJ ["rows","q","reached"] ["rows"] (ar jn):=⟨rfl,rfl,rfl,by decide+kernel,rfl,by decide+kernel,by decide+kernel⟩
theorem lY:aJ ["rows","fault"] ["rows"] (ar jo):=⟨rfl,rfl,rfl,by decide+kernel,rfl,by decide+kernel,by decide+kernel⟩
theorem rd:aJ ["ring","p","place"] ["ring","p"] (ar nz):=⟨rfl,rfl,rfl,by decide+kernel,rfl,by decide+kernel,by decide+kernel⟩
theorem pe:aJ ["web","ring","i","turn"] ["web","ring","i"] (ar lF):=⟨rfl,rfl,rfl,by decide+kernel,rfl,by decide+kernel,by decide+kernel⟩
theorem vS:aJ ["web","ring","pairs"] ["web","ring"] (ar kD):=⟨rfl,rfl,rfl,by decide+kernel,rfl,by decide+kernel,by decide+kernel⟩
theorem jI:aJ ["web","ring","turns","waiting","met","p"] ["web","ring"] (ar fE):=⟨rfl,rfl,rfl,by decide+kernel,rfl,by decide+kernel,by decide+kernel⟩
theorem kF:aJ ["_law_script","_law_k"] ["_law_script","_law_k"] (ar iB):=⟨rfl,rfl,rfl,by decide+kernel,rfl,by decide+kernel,by decide+kernel⟩
theorem nG:aJ ["_law_cell","_law_mixed"] ["_law_cell"] (ar j0):=⟨rfl,rfl,rfl,by decide+kernel,rfl,by decide+kernel,by decide+kernel⟩
theorem nH:aJ ["_law_number","_law_turns","_law_ring","_law_many","_law_point","_law_at","_law_far","_law_arc","_law_other"] ["_law_number"] (ar j3):=⟨rfl,rfl,rfl,by decide+kernel,rfl,by decide+kernel,by decide+kernel⟩
theorem nI:aJ ["_law_turns","_law_ring","_law_number","_law_names","_law_k","_law_found","_law_row","_law_at"] ["_law_turns","_law_ring","_law_number"] (ar eN):=⟨rfl,rfl,rfl,by decide+kernel,rfl,by decide+kernel,by decide+kernel⟩
theorem nF:aJ ["_law_script","_law_turns","_law_ring","_law_number","_law_one","_law_other","_law_row"] ["_law_script"] (ar jZ):=⟨rfl,rfl,rfl,by decide+kernel,rfl,by decide+kernel,by decide+kernel⟩
theorem q0:aJ ["_law_turns"] ["_law_turns"] (ar jH):=⟨rfl,rfl,rfl,by decide+kernel,rfl,by decide+kernel,by decide+kernel⟩
theorem lV:aJ ["_law_turns","_law_ring","_law_i","_law_row","_law_at"] ["_law_turns","_law_ring","_law_i"] (ar jk):=⟨rfl,rfl,rfl,by decide+kernel,rfl,by decide+kernel,by decide+kernel⟩
theorem lP:aJ ["_law_turns","_law_ring","_law_found","_law_i","_law_inner"] ["_law_turns","_law_ring"] (ar gF):=⟨rfl,rfl,rfl,by decide+kernel,rfl,by decide+kernel,by decide+kernel⟩
theorem lQ:aJ ["_law_ring","_law_i","_law_j"] ["_law_ring","_law_i","_law_j"] (ar ji):=⟨rfl,rfl,rfl,by decide+kernel,rfl,by decide+kernel,by decide+kernel⟩
theorem lT:aJ ["_law_turns","_law_ring","_law_number","_law_some","_law_last","_law_i","_law_j"] ["_law_turns","_law_ring","_law_number"] (ar gG):=⟨rfl,rfl,rfl,by decide+kernel,rfl,by decide+kernel,by decide+kernel⟩
theorem nJ:aJ ["_law_turns","_law_ring","_law_number","_law_found","_law_at"] ["_law_turns","_law_ring","_law_number"] (ar j4):=⟨rfl,rfl,rfl,by decide+kernel,rfl,by decide+kernel,by decide+kernel⟩
theorem kG:aJ ["_law_web_here","_law_ring","_law_ends","_law_inner","_law_between"] ["_law_web_here","_law_ring"] (ar dk):=⟨rfl,rfl,rfl,by decide+kernel,rfl,by decide+kernel,by decide+kernel⟩
theorem gO:aJ ["_law_web_here","_law_ring","_law_found","_law_i","_law_j"] ["_law_web_here","_law_ring"] (ar fk):=⟨rfl,rfl,rfl,by decide+kernel,rfl,by decide+kernel,by decide+kernel⟩
theorem lU:aJ ["_law_web_here","_law_ring","_law_at","_law_other","_law_i","_law_named_here"] ["_law_web_here","_law_ring","_law_at"] (ar jj):=⟨rfl,rfl,rfl,by decide+kernel,rfl,by decide+kernel,by decide+kernel⟩
theorem F1:aJ ["_law_script","_law_turns","_law_ring","_law_web_here","_law_one"] ["_law_script"] (ar EK):=⟨rfl,rfl,rfl,by decide+kernel,rfl,by decide+kernel,by decide+kernel⟩
theorem kE:aJ ["self","turns","rows","fault"] ["self","turns"] (ar eH):=⟨rfl,rfl,rfl,by decide+kernel,rfl,by decide+kernel,by decide+kernel⟩
theorem pd:aJ ["self"] ["self"] (ar iN):=⟨rfl,rfl,rfl,by decide+kernel,rfl,by decide+kernel,by decide+kernel⟩
theorem qZ:aJ ["self"] ["self"] (ar jG):=⟨rfl,rfl,rfl,by decide+kernel,rfl,by decide+kernel,by decide+kernel⟩
structure Txt (Z:DC) (mg:Str→Option Value) where
 B:QN mg
 x_set:mg "set"=none
 d_is_among:gk Z.K mg "is_among" nB ["thing","many"]
 d_alien_fault:gk Z.K mg "alien_fault" jl ["rows"]
 d_self_fault:gk Z.K mg "self_fault" j6 ["rows"]
 d_twice_fault:gk Z.K mg "twice_fault" jq ["rows"]
 d_lone_fault:gk Z.K mg "lone_fault" j5 ["rows"]
 d_reached_from_first:gk Z.K mg "reached_from_first" df ["rows"]
 d_apart_fault:gk Z.K mg "apart_fault" jn ["rows"]
 d_first_fault:gk Z.K mg "first_fault" jo ["rows"]
 d_begun_at:gk Z.K mg "begun_at" nz ["ring","p"]
 d_within_at:gk Z.K mg "within_at" lF ["web","ring","i"]
 d_chords:gk Z.K mg "chords" kD ["web","ring"]
 d_points_within:gk Z.K mg "points_within" fE ["web","ring"]
 d__law_cell_at:gk Z.K mg "_law_cell_at" iB ["_law_script","_law_k"]
 d__law_drawn:gk Z.K mg "_law_drawn" j0 ["_law_cell"]
 d__law_grown:gk Z.K mg "_law_grown" j3 ["_law_number"]
 d__law_named:gk Z.K mg "_law_named" eN ["_law_turns","_law_ring","_law_number"]
 d__law_built:gk Z.K mg "_law_built" jZ ["_law_script"]
 d__law_web:gk Z.K mg "_law_web" jH ["_law_turns"]
 d__law_within:gk Z.K mg "_law_within" jk ["_law_turns","_law_ring","_law_i"]
 d__law_chords:gk Z.K mg "_law_chords" gF ["_law_turns","_law_ring"]
 d__law_halves:gk Z.K mg "_law_halves" ji ["_law_ring","_law_i","_law_j"]
 d__law_lesser:gk Z.K mg "_law_lesser" gG ["_law_turns","_law_ring","_law_number"]
 d__law_rings:gk Z.K mg "_law_rings" j4 ["_law_turns","_law_ring","_law_number"]
 d__law_counted:gk Z.K mg "_law_counted" dk ["_law_web_here","_law_ring"]
 d__law_named_chords:gk Z.K mg "_law_named_chords" fk ["_law_web_here","_law_ring"]
 d__law_turned:gk Z.K mg "_law_turned" jj ["_law_web_here","_law_ring","_law_at"]
 d_law:gk Z.K mg "law" EK ["_law_script"]
 W:HS Z
 mC:mg "Web"=some (.ref Z.C)
 i_f:Addr
 i_fd:FuncData
 i_F:wQ Z.K "__init__" "Web.__init__" eH i_f i_fd
 mkW:Mk Z.K Z.C i_f
 m___init__b:Binds Z.K i_fd ["self","turns"] []
 m_many:C4 Z "many" "Web.many" tJ ["self"]
 m_turns:C4 Z "turns" "Web.turns" iN ["self"]
 m_ties:C4 Z "ties" "Web.ties" jG ["self"]
 m_tied:C4 Z "tied" "Web.tied" tK ["self","a","b"]
 m_behind:C4 Z "behind" "Web.behind" pb ["self","p","q"]
 c_MOST_POINTS:∃tk,mg "MOST_POINTS"=some (.int 14 tk)
variable {P:Program} {w:World} {mg:Str→Option Value} {base:Heap} {Z:DC} (T:Txt Z mg)
def Kw:dD:=λds P=>∃(i n:Int),ds= [.int i, .int n]∧P (.bl (decide (0≤i∧i<n)))
theorem z7:FnOk P w Z.K mg base di 1 T.d_is_among.f T.d_is_among.fd ["thing","many"] (aT Z Kw):=by
 have nd:=rf.nd;refine bg T.d_is_among.F rf [0,0] (by decide) (λds R h=>by obtain ⟨_,_,rfl,_⟩:=h;rfl) (λbQ A outer s H E ds R hr h=>?_)
 have hu:=hr.units;refine ⟨_,(au (aM (Fh (Fj "int" (aa 0) rfl T.B.isinstance rfl T.B.int Lc) (Fh (Lp (Fj "bool" (aa 0) rfl T.B.isinstance rfl T.B.bool HZ)) (Lq (Gn Eo vy aw (aa 0) (aa 1))))))),?_⟩;obtain ⟨i,n,rfl,q⟩:=h;refine ⟨_,rfl,rfl,true,rfl,eY ⟨_,rfl,rfl,false,rfl,true,rfl,eY ⟨_,rfl,?_⟩⟩⟩;refine ⟨_,rfl,cB (λh0=>⟨_,rfl,?_⟩) (λh0=>?_)⟩
 ·have h0:0≤i:=of_decide_eq_true h0
  show R (.bl (decide (i<n)));rw [show decide (i<n)=decide (0≤i∧i<n) by simp [h0]]
  exact q
 ·have h0:¬0≤i:=of_decide_eq_false h0
  rw [show decide (0≤i∧i<n)=false by simp [h0]] at q
  exact q
def oq:dD:=λds P=>∃(w:W),ds= [aN w]∧Good w∧1≤w.length∧w.length≤14∧P .bo
theorem CQ{w:W}{j:Nat}{d:D}(h:(gW (w.map aq))[j]? =some d):j<w.length∧d= .tup [.int (j:Int),aq (row w j)]:=by
 obtain ⟨x,hx,rfl⟩:=kT h;obtain ⟨r,hr,rfl⟩:=eF hx;have hj:j<w.length:=(eU.mp hr).1;refine ⟨hj,?_⟩;rw [FY hr]
theorem ud:FnOk P w Z.K mg base di 2 T.d_alien_fault.f T.d_alien_fault.fd ["rows"] (aT Z oq):=by
 have nd:=lW.nd;refine bg T.d_alien_fault.F lW [0,0,0,0] (by decide) (λds R h=>by obtain ⟨_,rfl,_⟩:=h;rfl) (λbQ A outer s H E ds R hr h=>?_)
 have hu:=hr.units
 refine ⟨_,(ah (fz rfl PassesOwn.never (h8 rfl T.B.enumerate (ab (aa 0) ag)) (gw 2 rfl (bx (aR 1 nd) (bx (aR 2 nd) dS))) (au (fz rfl PassesOwn.never (bZ (aa 2)) (aR 3 nd) (au (cY (nZ (kS (aB T.d_is_among (z7 T) hr (ab (aa 3) (ab (ax aP rfl T.B.len aO (ab (aa 0) ag)) ag))))) (au (aM (fP (ab qq (ab (aa 1) (ab (aa 3) ag)))))) bJ)))))
   (au (aM fO))),?_⟩
 obtain ⟨w',rfl,g,h1,bL,q⟩:=h;refine ⟨_,rfl,dA (λ_ ρ=>∃o1 o2 o3,ρ= [some (aN w'),o1,o2,o3]) ⟨_,_,_,rfl⟩ ?_ ?_⟩
 ·rintro j d _ hd ⟨o1,o2,o3,rfl⟩ A hA
  obtain ⟨hj,rfl⟩:=CQ hd;refine ⟨rfl,rfl,?_⟩;refine ⟨_,rfl,dA (λ_ ρ=>∃o3,ρ= [some (aN w'),some (.int (j:Int)),some (aq (row w' j)),o3]) ⟨_,rfl⟩ ?_ ?_⟩
  ·rintro k d' _ hk ⟨o4,rfl⟩ A' DH
   obtain ⟨x,hx,rfl⟩:=eF hk;refine ⟨_,rfl,_,rfl,_,_,rfl,⟨rfl,?_⟩⟩;have bN:x<w'.length:=g.rng _ _ (f9 hx);rw [show decide ((0:Int)≤(x:Int)∧(x:Int)<((w'.map aq).length:Int))=true by simp;omega]
   exact dg (DH _ ⟨_,rfl⟩)
  ·rintro _ ⟨o4,rfl⟩
   exact hA _ ⟨_,_,_,rfl⟩
 ·rintro _ ⟨o1,o2,o3,rfl⟩
  exact q
theorem vG:FnOk P w Z.K mg base di 1 T.d_self_fault.f T.d_self_fault.fd ["rows"] (aT Z oq):=by
 have nd:=nM.nd;refine bg T.d_self_fault.F nM [0,0,0] (by decide) (λds R h=>by obtain ⟨_,rfl,_⟩:=h;rfl) (λbQ A outer s H E ds R hr h=>?_)
 have hu:=hr.units
 refine ⟨_,(ah (fz rfl PassesOwn.never (h8 rfl T.B.enumerate (ab (aa 0) ag)) (gw 2 rfl (bx (aR 1 nd) (bx (aR 2 nd) dS))) (au (cY (aU pY (aa 1) (aa 2) (by with_unfolding_all rfl)) (au (aM (fP (ab qq (ab (aa 1) (ab (aa 1) ag)))))) bJ)))
   (au (aM fO))),?_⟩
 obtain ⟨w',rfl,g,h1,bL,q⟩:=h;refine ⟨_,rfl,dA (λ_ ρ=>∃o1 o2,ρ= [some (aN w'),o1,o2]) ⟨_,_,rfl⟩ ?_ ?_⟩
 ·rintro j d _ hd ⟨o1,o2,rfl⟩ A hA
  obtain ⟨hj,rfl⟩:=CQ hd;refine ⟨rfl,rfl,?_⟩;refine ⟨_,rfl,_,rfl,rfl,bS _,_,rfl,?_⟩
  have e:inD (.int (j:Int)) ((row w' j).map ae)=false:=by
   have:=gx (r:=row w' j) (p:=j)
   rw [decide_eq_false (g.irr j)] at this;exact this
  rw [if_neg cW,e];exact dg (hA _ ⟨_,_,rfl⟩)
 ·rintro _ ⟨o1,o2,rfl⟩
  exact q
theorem cX{α:Type}(l:List α)(k:Nat)(h:k≤l.length):cutD l none (some (k:Int))=l.take k:=by
 unfold cutD;have e1:HT.bP l.length 0 none=0:=rfl
 have e2:HT.bP l.length l.length (some (k:Int))=k:=by
  simp only [HT.bP]
  split<;>omega
 rw [e1,e2];simp
theorem uf:FnOk P w Z.K mg base di 1 T.d_twice_fault.f T.d_twice_fault.fd ["rows"] (aT Z oq):=by
 have nd:=lZ.nd;refine bg T.d_twice_fault.F lZ [0,0,0,0,0] (by decide) (λds R h=>by obtain ⟨_,rfl,_⟩:=h;rfl) (λbQ A outer s H E ds R hr h=>?_)
 have hu:=hr.units
 refine ⟨_,(ah (fz rfl PassesOwn.never (h8 rfl T.B.enumerate (ab (aa 0) ag)) (gw 2 rfl (bx (aR 1 nd) (bx (aR 2 nd) dS))) (au (fz rfl PassesOwn.never (h8 rfl T.B.enumerate (ab (aa 2) ag)) (gw 2 rfl (bx (aR 3 nd) (bx (aR 4 nd) dS))) (au (cY (aU pY (aa 4) (bp (aa 2) bR (bw (aa 3))) (by with_unfolding_all rfl)) (au (aM (fP (ab qq (ab (aa 1) (ab (aa 4) ag)))))) bJ)))))
   (au (aM fO))),?_⟩
 obtain ⟨w',rfl,g,h1,bL,q⟩:=h;refine ⟨_,rfl,dA (λ_ ρ=>∃o1 o2 o3 o4,ρ= [some (aN w'),o1,o2,o3,o4]) ⟨_,_,_,_,rfl⟩ ?_ ?_⟩
 ·rintro j d _ hd ⟨o1,o2,o3,o4,rfl⟩ A hA
  obtain ⟨hj,rfl⟩:=CQ hd;refine ⟨rfl,rfl,?_⟩;refine ⟨_,rfl,dA (λ_ ρ=>∃o3 o4,ρ= [some (aN w'),some (.int (j:Int)),some (aq (row w' j)),o3,o4]) ⟨_,_,rfl⟩ ?_ ?_⟩
  ·rintro k d' _ hk ⟨o5,o6,rfl⟩ A' DH
   obtain ⟨y,hy,rfl⟩:=kT hk;obtain ⟨x,hx,rfl⟩:=eF hy;have kg:k<(row w' j).length:=(eU.mp hx).1;refine ⟨rfl,rfl,?_⟩;refine ⟨_,rfl,_,rfl,_,rfl,?_⟩;have ec:cutD ((row w' j).map ae) none (some (k:Int))=((row w' j).take k).map ae:=by rw [cX _ _ (by simp;omega),jP]
   refine (?_:Lj false (ae x) (.lst (cutD ((row w' j).map ae) none (some (k:Int)))) _);rw [ec];refine ⟨rfl,bS _,_,rfl,?_⟩
   have e:inD (ae x) (((row w' j).take k).map ae)=false:=by
    rw [gx,decide_eq_false];intro z;obtain ⟨m,hm⟩:=wF z
    have GI:m<k:=by
     have:=(eU.mp hm).1
     rw [b8] at this;omega
    rw [pk GI] at hm;exact absurd ((List.getElem?_inj (by omega) (g.nod j)).mp (hm.trans hx.symm)) (by omega)
   rw [if_neg cW,e];exact dg (DH _ ⟨_,_,rfl⟩)
  ·rintro _ ⟨o5,o6,rfl⟩
   exact hA _ ⟨_,_,_,_,rfl⟩
 ·rintro _ ⟨o1,o2,o3,o4,rfl⟩
  exact q
theorem vF:FnOk P w Z.K mg base di 1 T.d_lone_fault.f T.d_lone_fault.fd ["rows"] (aT Z oq):=by
 have nd:=nK.nd;refine bg T.d_lone_fault.F nK [0,0,0,0] (by decide) (λds R h=>by obtain ⟨_,rfl,_⟩:=h;rfl) (λbQ A outer s H E ds R hr h=>?_)
 have hu:=hr.units
 refine ⟨_,(ah (fz rfl PassesOwn.never (h8 rfl T.B.enumerate (ab (aa 0) ag)) (gw 2 rfl (bx (aR 1 nd) (bx (aR 2 nd) dS))) (au (fz rfl PassesOwn.never (bZ (aa 2)) (aR 3 nd) (au (cY (aU x9 (aa 1) (bF (aa 0) (aa 3)) (by with_unfolding_all rfl)) (au (aM (fP (ab qq (ab (aa 1) (ab (aa 3) ag)))))) bJ)))))
   (au (aM fO))),?_⟩
 obtain ⟨w',rfl,g,h1,bL,q⟩:=h;refine ⟨_,rfl,dA (λ_ ρ=>∃o1 o2 o3,ρ= [some (aN w'),o1,o2,o3]) ⟨_,_,_,rfl⟩ ?_ ?_⟩
 ·rintro j d _ hd ⟨o1,o2,o3,rfl⟩ A hA
  obtain ⟨hj,rfl⟩:=CQ hd;refine ⟨rfl,rfl,?_⟩;refine ⟨_,rfl,dA (λ_ ρ=>∃o3,ρ= [some (aN w'),some (.int (j:Int)),some (aq (row w' j)),o3]) ⟨_,rfl⟩ ?_ ?_⟩
  ·rintro k d' _ hk ⟨o4,rfl⟩ A' DH
   obtain ⟨x,hx,rfl⟩:=eF hk;have TH:=f9 hx;have bN:x<w'.length:=g.rng _ _ TH;refine ⟨_,rfl,_,rfl,_,rfl,_,iQ (vZ bN),rfl,bS _,_,rfl,?_⟩
   have e:inD (.int (j:Int)) ((row w' x).map ae)=true:=by
    have:=gx (r:=row w' x) (p:=j)
    rw [decide_eq_true (g.sym _ _ TH)] at this;exact this
   rw [if_pos rfl,e];exact dg (DH _ ⟨_,rfl⟩)
  ·rintro _ ⟨o4,rfl⟩
   exact hA _ ⟨_,_,_,rfl⟩
 ·rintro _ ⟨o1,o2,o3,rfl⟩
  exact q
def uK(bs:List Bool):List D:=bs.map D.bl
theorem Ib{bs:List Bool}{i:Nat}{b:Bool}(h:bs[i]? =some b):(uK bs)[i]? =some (.bl b):=by unfold uK;rw [e7,h];rfl
theorem Bw(bs:List Bool)(i:Nat)(b:Bool):(uK bs).set i (.bl b)=uK (bs.set i b):=by unfold uK;rw [List.map_set]
theorem Bv(bs:List Bool):(uK bs).length=bs.length:=aI _
theorem kh{n k:Nat}(h:k<n):pQ n (k:Int)=some k:=by unfold pQ;rw [if_pos (by omega),if_pos (by omega)];simp
def ES:dD:=λds P=>∃(w:W),ds= [aN w]∧Good w∧1≤w.length∧w.length≤14∧P (.lst (uK (List.replicate w.length true)))
theorem lq:FnOk P w Z.K mg base di 1 T.d_reached_from_first.f T.d_reached_from_first.fd ["rows"] (aT Z ES):=by
 have nd:=gH.nd;refine bg T.d_reached_from_first.F gH [0,1,1,0,0] (by decide) (λds R h=>by obtain ⟨_,rfl,_⟩:=h;rfl) (λbQ A outer s H E ds R hr h=>?_)
 have hu:=hr.units
 refine ⟨_,(ah (xA 1 (NC:= ["row"]) (src:= [none]) rfl nd (oH (ar df)) trivial (bZ (aa 0)) (λ_ _ _=>(bU 0 (show (["row"]:List Str).Nodup from by decide+kernel))) (λ_ _ _=>eC) (λ_ _ _=>mT))
   (ah (xB false 1 aw mT)
   (ah (qu 2 nd (qr (ab aw ag)))
   (ah (rR PassesOwn.never (kS (aa 2)) (ah (Fq 3 2 nd)
   (au (fz rfl PassesOwn.never (bZ (bF (aa 0) (aa 3))) (aR 4 nd) (au (cY (nZ (kS (bF (aa 1) (aa 4)))) (ah (xB false 1 (aa 4) mT)
   (au (uo false 2 (aa 4)))) bJ))))))
   (au (aM (aa 1))))))),?_⟩
 obtain ⟨w',rfl,g,h1,bL,q⟩:=h;refine ⟨_,rfl,jC (ρ:= [none]) aq (λ_=> .bl false) w' _ (λy hy Y h=>h) rfl (small (by omega)) λaD=>?_⟩
 have e0:w'.map (λ_=>D.bl false)=uK (List.replicate w'.length false):=by unfold uK;rw [List.map_replicate,List.map_const']
 rw [e0];refine ⟨trivial,_,rfl,0,0,rfl,by rw [Bv,y4];exact kh (k:=0) (by omega),?_⟩
 rw [Bw];refine ⟨by show 1≤sizeLine;decide,?_⟩
 refine qf (λm ρ=>∃(bs:List Bool)(ws:List Nat)(o3 o4:Option D),ρ= [some (aN w'),some (.lst (uK bs)),some (.lst (ws.map ae)),o3,o4]∧RI w' bs ws [] m∧m≤14∧bs.count false+ws.length=m) w'.length ?_ ?_
 ·refine ⟨_,[0],none,none,rfl,⟨by simp,?_,?_,λx hx=>?_,?_⟩,bL,?_⟩
  ·rw [tV,if_pos rfl,if_pos (by rw [y4];omega)]
  ·intro x hx
   have:x=0:=by simpa using hx
   rw [this,tV,if_pos rfl,if_pos (by rw [y4];omega)]
  ·by_cases e:0=x
   ·exact .inl (by rw [←e];simp)
   ·rw [tV,if_neg e,A6] at hx
    split at hx<;>cases hx
  ·rw [List.count_set (by rw [y4];omega),List.count_replicate_self,List.getElem_replicate]
   simp;omega
  ·rw [List.count_set (by rw [y4];omega),List.count_replicate_self,List.getElem_replicate]
   simp;omega
 ·rintro m _ ⟨bs,ws,o3,o4,rfl,ri,hc,SX⟩
  refine ⟨_,rfl,rfl,?_⟩
  rcases List.eq_nil_or_concat ws with rfl| ⟨rB,p,e⟩
  ·refine dg ?_
   have e:=ri.all g;rw [←e] at q;exact ⟨_,rfl,q⟩
  ·rw [A8] at e
   subst e;rw [show yo (.lst ((rB++ [p]).map ae))=true by simp [yo]]
   refine eY ?_;rw [cy] at SX;simp only [wD] at SX;obtain ⟨c',rfl⟩:∃c',m=c'+1:=⟨m-1,by omega⟩
   have ri2:=ri.pop;have hp:bs[p]? =some true:=ri.wt p (by simp)
   have LJ:p<w'.length:=by rw [←ri.len];exact (eU.mp hp).1
   refine ⟨rB.map ae,ae p,by rw [eJ];rfl,?_⟩
   refine ⟨_,rfl,_,rfl,_,iQ (vZ LJ),dA (λj ρ=>∃(ql:List Bool)(xo:List Nat)(o4:Option D),ρ= [some (aN w'),some (.lst (uK ql)),some (.lst (xo.map ae)),some (ae p),o4]∧RI w' ql xo [p] c'∧(∀k y,k<j→(row w' p)[k]? =some y→ql[y]? =some true)∧ql.count false+xo.length=c') ?_ ?_ ?_⟩
   ·exact ⟨bs,rB,_,rfl,ri2,(λk n hk=>by omega),by omega⟩
   ·rintro j x _ hx ⟨ql,xo,o5,rfl,Ko,Fp,Of⟩ A hA
    obtain ⟨n,hn,rfl⟩:=eF hx;have YL:=g.rng _ _ (f9 hn);have LI:n<ql.length:=by rw [Ko.len];exact YL
    have IY:ql[n]? =some (ql[n]):=bz LI;refine ⟨_,rfl,_,rfl,_,iQ (Ib IY),rfl,?_⟩;generalize ql[n]=bn at IY;cases bn with
    |true=>
     refine dg (hA _ ⟨ql,xo,_,rfl,Ko,λk y hk hy=>?_,Of⟩)
     by_cases e:k=j
     ·rw [e,hn] at hy;cases hy;exact IY
     ·exact Fp k y (by omega) hy
    |false=>
     refine eY ?_;refine ⟨trivial,_,rfl,_,rfl,_,n,rfl,by rw [Bv];exact kh LI,?_⟩
     rw [Bw];have MC:=Ko.push IY;have aac:=MC.cnt;refine ⟨_,rfl,_,rfl,trivial,g8 (by rw [aI];omega),?_⟩
     have er:xo.map ae++ [ae n]=(xo++ [n]).map ae:=by rw [eJ];rfl
     rw [er];refine hA _ ⟨ql.set n true,xo++ [n],_,rfl,MC,λk y hk hy=>?_,?_⟩
     ·rw [tV]
      by_cases e:n=y
      ·rw [if_pos e,if_pos LI]
      ·rw [if_neg e]
       refine Fp k y ?_ hy;apply Classical.byContradiction;intro z
       have:k=j:=by omega
       rw [this,hn] at hy;cases hy;exact e rfl
     ·obtain ⟨hl,he⟩:=eU.mp IY
      have:0<ql.count false:=List.count_pos_iff.mpr (by rw [←he];exact rH hl)
      rw [List.count_set hl,he,cy];simp;omega
   ·rintro _ ⟨ql,xo,o5,rfl,Ko,Fp,Of⟩
    have MC:=Ko.close λy hy=>by
     obtain ⟨k,hk⟩:=wF hy;exact Fp k y (by rw [aI];exact (eU.mp hk).1) hk
    exact ⟨c',by omega,ql,xo,_,_,rfl,MC,by omega,Of⟩
theorem ue:FnOk P w Z.K mg base di 2 T.d_apart_fault.f T.d_apart_fault.fd ["rows"] (aT Z oq):=by
 have nd:=lX.nd;refine bg T.d_apart_fault.F lX [0,0,0] (by decide) (λds R h=>by obtain ⟨_,rfl,_⟩:=h;rfl) (λbQ A outer s H E ds R hr h=>?_)
 have hu:=hr.units
 refine ⟨_,(ah (fz rfl PassesOwn.never (h8 rfl T.B.enumerate (ab (aB T.d_reached_from_first (lq T) hr (ab (aa 0) ag)) ag)) (gw 2 rfl (bx (aR 1 nd) (bx (aR 2 nd) dS))) (au (cY (nZ (kS (aa 2))) (au (aM (fP (ab qq (ab aw (ab (aa 1) ag)))))) bJ)))
   (au (aM fO))),?_⟩
 obtain ⟨w',rfl,g,h1,bL,q⟩:=h;refine ⟨_,rfl,w',rfl,g,h1,bL,dA (λ_ ρ=>∃o1 o2,ρ= [some (aN w'),o1,o2]) ⟨_,_,rfl⟩ ?_ ?_⟩
 ·rintro j d _ hd ⟨o1,o2,rfl⟩ A hA
  obtain ⟨y,hy,rfl⟩:=kT hd
  have ey:y= .bl true:=by
   obtain ⟨b,hb,rfl⟩:=eF hy
   have:=f9 hb
   rw [List.mem_replicate] at this;rw [this.2]
  subst ey;refine ⟨rfl,rfl,?_⟩;exact ⟨_,rfl,rfl,dg (hA _ ⟨_,_,rfl⟩)⟩
 ·rintro _ ⟨o1,o2,rfl⟩
  exact q
theorem lO:FnOk P w Z.K mg base di 3 T.d_first_fault.f T.d_first_fault.fd ["rows"] (aT Z oq):=by
 have nd:=lY.nd;refine bg T.d_first_fault.F lY [0,0] (by decide) (λds R h=>by obtain ⟨_,rfl,_⟩:=h;rfl) (λbQ A outer s H E ds R hr h=>?_)
 have hu:=hr.units
 refine ⟨_,(ah (aF false 1 nd (aB T.d_alien_fault (ud T) hr (ab (aa 0) ag)))
   (ah (cY (aU vx (aa 1) fO (bH _)) (au (aF false 1 nd (aB T.d_self_fault (vG T) hr (ab (aa 0) ag)))) bJ)
   (ah (cY (aU vx (aa 1) fO (bH _)) (au (aF false 1 nd (aB T.d_twice_fault (uf T) hr (ab (aa 0) ag)))) bJ)
   (ah (cY (aU vx (aa 1) fO (bH _)) (au (aF false 1 nd (aB T.d_lone_fault (vF T) hr (ab (aa 0) ag)))) bJ)
   (ah (cY (aU vx (aa 1) fO (bH _)) (au (aF false 1 nd (aB T.d_apart_fault (ue T) hr (ab (aa 0) ag)))) bJ)
   (au (aM (aa 1)))))))),?_⟩
 obtain ⟨w',rfl,g,h1,bL,q⟩:=h;have no:∀(u:e8)(E:gT)(ρ:DN)(te:br),ρ[1]? =some (some .bo)→E.nx ρ→Nr (zp (Gk (Ik false) (Nu 1) (dC .bo))) u Ip E ρ→True:=λ_ _ _ _ _ _ _=>trivial;refine ⟨_,rfl,w',rfl,g,h1,bL,trivial,?_⟩;refine ⟨_,rfl,_,rfl,eY ⟨_,rfl,w',rfl,g,h1,bL,trivial,?_⟩⟩;refine ⟨_,rfl,_,rfl,eY ⟨_,rfl,w',rfl,g,h1,bL,trivial,?_⟩⟩;refine ⟨_,rfl,_,rfl,eY ⟨_,rfl,w',rfl,g,h1,bL,trivial,?_⟩⟩;refine ⟨_,rfl,_,rfl,eY ⟨_,rfl,w',rfl,g,h1,bL,trivial,?_⟩⟩;exact ⟨_,rfl,q⟩
theorem sC{P:Program}{w:World}{mg:Str→Option Value}{base:Heap}{Z:DC}(T:Txt Z mg):FnOk P w Z.K mg base di 4 T.i_f T.i_fd ["self","turns"] (CG Z):=by
 have IM:=lO (P:=P) (w:=w) (base:=base) T;have nd:=kE.nd;refine T.i_F.ok kE (λvs H Q E h=>?_) (λbQ A outer s H vs Q E hr h=>?_)
 ·obtain ⟨p,dx,v,G,w',rfl,_⟩:=h;rfl
 obtain ⟨p,dx,v,G,w',rfl,hp,sG,gp,dv,g,h1,bL,q⟩:=h;have hu:=hr.units
 refine ⟨_,kB (t:=pU Z [0,0,0,0] 0 _)
   (cY (nZ (Gu Eo Eo aw (ax aP rfl T.B.len aO (ab (aa 1) ag)) (Gp rfl T.c_MOST_POINTS))) (au xw) bJ)
  (kB (t:=pU Z [0,0,0,0] 0 _)
   (Gs 2 (NC:= ["row"]) (src:= [none]) rfl nd (oH (ar eH)) trivial (bZ (aa 1)) (λ_ _ _=>(bU 0 (show (["row"]:List Str).Nodup from by decide+kernel))) (λ_ _ _=>eC) (λ_ _ _=>(pH uM rfl T.B.list qk (ab (aa 0) ag))))
  (kB (t:=pU Z [0,0,0,0] 0 _)
   (aF false 3 nd (aB T.d_first_fault (lO T) hr (ab (aa 2) ag)))
  (kB (t:=pU Z [0,0,0,0] 0 _)
   (cY (aU Hb (aa 3) fO (bH _)) (au xw) bJ)
  (Cp (Mx (pv 0) (pv 2) rfl))))),?_⟩
 have lw:(w'.map aq).length=w'.length:=aI _;refine ⟨⟨G,H,G⟩,[some (.obj p),some (aN w'),none,none],{nx:=λρ=>ρ= [some (.obj p),some (aN w'),none,none],rt:=λ_=>False},⟨G,λ_=> [],?_⟩,?_,⟨?_,λ_ z=>z.elim,λ_ z=>z.elim,λ_ z=>z.elim⟩⟩
 ·refine ⟨.refl sG, .refl _,rfl,λi d hi=>?_,λ_=>mw,(λ_ _ _ _ z=>by cases z),(λ_ _ z=>by cases z)⟩
  match i,hi with
  |0,hi=>cases hi;exact ⟨_,rfl, .obj p,rfl⟩
  |1,hi=>cases hi;exact ⟨_,rfl,dv,rfl⟩
  |2,hi=>cases hi
  |3,hi=>cases hi
  |i+4,hi=>cases hi
 ·have e1:D.bl (decide ((1:Int)≤((w'.map aq).length:Int)))= .bl true:=congrArg D.bl (decide_eq_true (by rw [lw];omega))
  have e2:D.bl (decide (((w'.map aq).length:Int)≤14))= .bl true:=congrArg D.bl (decide_eq_true (by rw [lw];omega))
  exact ⟨_,rfl,true,e1,eY ⟨true,e2,dg rfl⟩⟩
 rintro _ rfl Fb H1 S1;refine ⟨⟨G,H,G⟩,_,{nx:=λρ=>ρ= [some (.obj p),some (aN w'),some (aN w'),none],rt:=λ_=>False},S1,?_,⟨?_,λ_ z=>z.elim,λ_ z=>z.elim,λ_ z=>z.elim⟩⟩
 ·exact ⟨_,rfl,jC (ρ:= [none]) aq aq w' _ (λy hy Y h=>⟨_,rfl,h⟩) rfl (small (by omega)) λaD=>⟨trivial,rfl⟩⟩
 rintro _ rfl eV H2 S2;refine ⟨⟨G,H,G⟩,_,{nx:=λρ=>ρ= [some (.obj p),some (aN w'),some (aN w'),some .bo],rt:=λ_=>False},S2,?_,⟨?_,λ_ z=>z.elim,λ_ z=>z.elim,λ_ z=>z.elim⟩⟩
 ·exact ⟨_,rfl,w',rfl,g,h1,bL,trivial,rfl⟩
 rintro _ rfl uk H3 S3;refine ⟨⟨G,H,G⟩,_,{nx:=λρ=>ρ= [some (.obj p),some (aN w'),some (aN w'),some .bo],rt:=λ_=>False},S3,?_,⟨?_,λ_ z=>z.elim,λ_ z=>z.elim,λ_ z=>z.elim⟩⟩
 ·exact ⟨_,rfl,_,rfl,dg rfl⟩
 rintro _ rfl fc H4 ⟨G4,fp,S4⟩;obtain ⟨v0,Jp,o0⟩:=S4.at_ 0 _ rfl;obtain ⟨v2,YY,o2⟩:=S4.at_ 2 _ rfl;obtain ⟨d0,_⟩:=o0;obtain ⟨d2,_⟩:=o2;cases d0;have XF:=d2;cases d2 with
 | @lst R xs ds hR e=>
  have YS:=S4.ex.hh _ _ hp;refine ⟨_,YY,_,Jp,p,Z.C,dx,[],rfl,YS,T.W.cl,T.W.nR,by decide,?_⟩
  have g4:G4 p=none:=S4.ex.off p (by show H p≠none;rw [hp];exact λz=>nomatch z) gp
  refine q R G4 _ S4.ex.gg (λb o eb=>?_) (λb o eb nb=>?_) S4.ex.off aC XF
  ·rw [aG (aY eb g4)];exact S4.ex.sub _ _ eb
  ·rw [aG nb];exact S4.ex.hh _ _ eb
def KG:dD:=λds P=>∃(w:W),ds= [.fo w]∧w.length≤14∧P (aN w)
theorem oY:FnOk P w Z.K mg base di 1 T.m_turns.f T.m_turns.fd ["self"] (aT Z KG):=by
 have nd:=pd.nd;refine bg T.m_turns.F pd [0] (by decide) (λds R h=>by obtain ⟨_,rfl,_⟩:=h;rfl) (λbQ A outer s H E ds R hr h=>?_)
 have hu:=hr.units;refine ⟨_,(au (aM (kR (NC:= ["row"]) (src:= [none]) rfl (oH (ar iN)) trivial (bZ (BA T.W (aa 0))) (λ_ _ _=>(bU 0 (show (["row"]:List Str).Nodup from by decide+kernel))) (λ_ _ _=>eC) (λ_ _ _=>(pH uM rfl T.B.list qk (ab (aa 0) ag)))))),?_⟩
 obtain ⟨w',rfl,bL,q⟩:=h;exact ⟨_,rfl,w',rfl,jC (ρ:= [none]) aq aq w' _ (λy hy Y h=>⟨_,rfl,h⟩) rfl (small (by omega)) λaD=>q⟩
end rK
namespace Wb
theorem bY{a b:List Nat}{x y:Nat}(nd:(a++x::y::b).Nodup):af (a++x::y::b) x=y:=by
 have hx:x∉a:=λh=>by
  have:=(fN.mp nd).2.2 x h x (cD ..)
  exact this rfl
 have e:(a++x::y::b).idxOf x=a.length:=by
  rw [List.idxOf_append,if_neg hx,List.idxOf_cons_self];simp
 unfold af;rw [e,fu (by simp),aL,f7 (by omega)]
 simp
theorem cV{b:List Nat}{x y:Nat}(nd:(y::(b++ [x])).Nodup):af (y::(b++ [x])) x=y:=by
 have hx:x∉y::b:=λh=>by
  have h2:(y::b++ [x]).Nodup:=nd;exact (fN.mp h2).2.2 x h x (by simp) rfl
 have e:(y::(b++ [x])).idxOf x=b.length+1:=by
  show (y::b++ [x]).idxOf x=_;rw [List.idxOf_append,if_neg hx];simp
 unfold af;rw [e]
 have:(b.length+1+1)%(y::(b++ [x])).length=0:=by simp
 rw [this];rfl
theorem fU{a b:List Nat}{x:Nat}(nd:(a++b).Nodup)(h:x∈a++b):af (b++a) x=af (a++b) x:=by
 have ko:(b++a).Nodup:=(List.perm_append_comm.nodup_iff).mp nd;obtain ⟨u,v,e⟩:=List.append_of_mem h;cases v with
 |cons y v=>
  rw [e,bY (e▸nd)]
  rcases List.append_eq_append_iff.mp e with ⟨c,h1,h2⟩ | ⟨c,h1,h2⟩
  ·
   rw [h2,show c++x::y::v++a=c++x::y::(v++a) by simp]
   refine bY ?_;rw [h2] at ko;simpa using ko
  ·
   cases c with
   |nil=>
    have hb:b=x::y::v:=by simpa using h2.symm
    rw [hb,show x::y::v++a= []++x::y::(v++a) by simp]
    refine bY ?_;rw [hb] at ko;simpa using ko
   |cons z c=>
    have hz:x=z∧y::v=c++b:=by simpa using h2
    obtain ⟨rfl,h3⟩:=hz;cases c with
    |nil=>
     have hb:b=y::v:=by simpa using h3.symm
     rw [h1,hb,show y::v++(u++ [x])=y::((v++u)++ [x]) by simp]
     refine cV ?_;rw [h1,hb] at ko;simpa using ko
    |cons z c=>
     have hz:y=z∧v=c++b:=by simpa using h3
     obtain ⟨rfl,rfl⟩:=hz;rw [h1,show b++(u++x::y::c)=(b++u)++x::y::c by simp]
     refine bY ?_;rw [h1] at ko;simpa using ko
 |nil=>
  cases b with
  |nil=>simp
  |cons y b=>
   rcases List.eq_nil_or_concat b with rfl| ⟨b',z,rfl⟩
   ·
    have:a=u∧y=x:=by
     have:=List.append_inj' e rfl
     exact ⟨this.1,by simpa using this.2⟩
    obtain ⟨rfl,rfl⟩:=this;cases a with
    |nil=>rfl
    |cons t a=>
     have e1:af (t::a++ [y]) y=t:=cV (b:=a) nd;rw [e1];show af ([]++y::t::a) y=t;exact bY (by simpa using ko)
   ·have hx:z=x:=by
     rw [A8] at e;have e:(a++y::b')++ [z]=u++ [x]:=by simpa using e
     exact by simpa using (List.append_inj' e rfl).2
    subst hx;rw [A8] at nd ko ⊢;cases a with
    |nil=>simp
    |cons t a=>
     have e1:af (t::a++y::(b'++ [z])) z=t:=by
      have:=cV (y:=t) (b:=a++y::b') (x:=z) (by simpa using nd)
      simpa using this
     have e2:af (y::(b'++ [z])++t::a) z=t:=by
      have:=bY (a:=y::b') (x:=z) (y:=t) (b:=a) (by simpa using ko)
      simpa using this
     rw [e1,e2]
structure Disc (w:W) (R:List Nat) (A:Nat×Nat→Prop):Prop where
 nd:R.Nodup
 len:3≤R.length
 dart:∀d,A d→aQ w d
 face:∀d,aQ w d→(A d↔A (aZ w d))
 tri:∀d,A d→aZ w (aZ w (aZ w d))=d
 ring:∀p∈R,aQ w (af R p,p)∧A (af R p,p)∧¬A (p,af R p)
 sym:∀p q,aQ w (p,q)→¬(p∈R∧q=af R p)→¬(q∈R∧p=af R q)→(A (p,q)↔A (q,p))
structure WG (w:W) (v:Nat) (m:Nat) (y:Nat→Nat):Prop where
 on:∀k,k<m→af (row w v) (y k)=y (k+1)
 mem:∀k,k≤m→y k∈row w v
 inj:∀i j,i≤m→j≤m→y i=y j→i=j
 pos:1≤m
structure At (w:W) (R:List Nat) (v:Nat) (m:Nat) (y:Nat→Nat):Prop where
 fan:WG w v m y
 vm:v∈R
 nx:y 0=af R v
 pm:y m∈R
 pv:af R (y m)=v
theorem aE{l:List Nat}{i:Nat}(nd:l.Nodup)(h:i+1<l.length):af l (l.getD i 0)=l.getD (i+1) 0:=by
 have e:l.getD i 0=l[i]:=by rw [aL,bz (by omega)];rfl
 unfold af;rw [e,nd.idxOf_getElem i (by omega),fu h]
theorem ba{l:List Nat}{i:Nat}(nd:l.Nodup)(h:i+1=l.length):af l (l.getD i 0)=l.getD 0 0:=by
 have e:l.getD i 0=l[i]:=by rw [aL,bz (by omega)];rfl
 unfold af;rw [e,nd.idxOf_getElem i (by omega),h,qj]
section
variable {w:W} {R:List Nat} {A:Nat×Nat→Prop} {v m:Nat} {y:Nat→Nat}
theorem At.ne(g:Good w)(F:At w R v m y){k:Nat}(hk:k≤m):y k≠v:=λe=>g.irr v (by have:=F.fan.mem k hk;rw [e] at this;exact this)
theorem At.dart(g:Good w)(F:At w R v m y){k:Nat}(hk:k≤m):aQ w (y k,v):=g.sym _ _ (F.fan.mem k hk)
theorem At.Cc(F:At w R v m y){k:Nat}(hk:k<m):aZ w (y k,v)=(v,y (k+1)):=by
 show (v,af (row w v) (y k))=_;rw [F.fan.on k hk]
theorem At.ym(D:Disc w R A)(F:At w R v m y){k:Nat}(hk:k≤m)(hR:y k∈R)(e:v=af R (y k)):k=m:=by
 have:=F.pv
 rw [e] at this;exact F.fan.inj k m hk (bC _) (cZ D.nd hR F.pm this.symm)
theorem At.y0(F:At w R v m y){k:Nat}(hk:k≤m)(e:y k=af R v):k=0:=F.fan.inj k 0 hk (cH _) (by rw [e,F.nx])
theorem At.BV(g:Good w)(D:Disc w R A)(F:At w R v m y):∀k,k<m→A (y k,v)∧A (v,y (k+1))
 |0,h=>by
  have a:A (y 0,v):=by rw [F.nx];exact (D.ring v F.vm).2.1
  refine ⟨a,?_⟩
  have:=(D.face _ (F.dart g (cH _))).mp a
  rw [F.Cc h] at this;exact this
 |k+1,h=>by
  have ih:=(F.BV g D k (by omega)).2
  have a:A (y (k+1),v):=by
   refine (D.sym v (y (k+1)) (F.fan.mem (k+1) (by omega)) (λz=>?_) (λz=>?_)).mp ih
   ·have:=F.y0 (by omega) z.2;omega
   ·have:=F.ym D (by omega) z.1 z.2;omega
  refine ⟨a,?_⟩
  have:=(D.face _ (F.dart g (by omega))).mp a
  rw [F.Cc h] at this;exact this
theorem At.Cd(g:Good w)(D:Disc w R A)(F:At w R v m y){k:Nat}(hk:k<m):aZ w (v,y (k+1))=(y (k+1),y k)∧aZ w (y (k+1),y k)=(y k,v)∧A (y (k+1),y k):=by
 have a:=F.BV g D k hk;have t:=D.tri _ a.1;rw [F.Cc hk] at t
 have e:aZ w (v,y (k+1))=(y (k+1),y k):=by
  have h1:(aZ w (aZ w (v,y (k+1)))).1=y k:=by rw [t]
  show (y (k+1),af (row w (y (k+1))) v)=_;exact congrArg (Prod.mk _) h1
 refine ⟨e,by rw [e] at t;exact t,?_⟩
 have:=(D.face _ (D.dart _ a.2)).mp a.2
 rw [e] at this;exact this
def cx(v m:Nat)(y:Nat→Nat)(d:Nat×Nat):Prop:=∃k,k<m∧(d=(y k,v)∨d=(v,y (k+1))∨d=(y (k+1),y k))
theorem At.Wt(g:Good w)(D:Disc w R A)(F:At w R v m y){d:Nat×Nat}(h:cx v m y d):A d:=by
 obtain ⟨k,hk,h⟩:=h;have a:=F.BV g D k hk;have b:=(F.Cd g D hk).2.2
 rcases h with rfl|rfl|rfl
 ·exact a.1
 ·exact a.2
 ·exact b
theorem At.N3(g:Good w)(D:Disc w R A)(F:At w R v m y){d:Nat×Nat}(hd:aQ w d):cx v m y d↔cx v m y (aZ w d):=by
 constructor
 ·rintro ⟨k,hk,h⟩
  have b:=F.Cd g D hk;refine ⟨k,hk,?_⟩
  rcases h with rfl|rfl|rfl
  ·rw [F.Cc hk];exact .inr (.inl rfl)
  ·rw [b.1];exact .inr (.inr rfl)
  ·rw [b.2.1];exact .inl rfl
 ·rintro ⟨k,hk,h⟩
  have b:=F.Cd g D hk;have a:=F.BV g D k hk;refine ⟨k,hk,?_⟩
  rcases h with h|h|h
  ·exact .inr (.inr (kr g hd (D.dart _ b.2.2) (by rw [h,b.2.1])))
  ·exact .inl (kr g hd (D.dart _ a.1) (by rw [h,F.Cc hk]))
  ·exact .inr (.inl (kr g hd (D.dart _ a.2) (by rw [h,b.1])))
def cT(pre:List Nat)(m:Nat)(y:Nat→Nat):List Nat:=pre++(List.range m).map λi=>y (m-i)
theorem g5(pre:List Nat)(m:Nat)(y:Nat→Nat):(cT pre m y).length=pre.length+m:=by unfold cT;simp
theorem r8{pre:List Nat}{m i:Nat}{y:Nat→Nat}(h:i<pre.length):(cT pre m y).getD i 0=pre.getD i 0:=by
 unfold cT;rw [aL,eI h,←aL]
theorem r6{pre:List Nat}{m i:Nat}{y:Nat→Nat}(h:i<m):(cT pre m y).getD (pre.length+i) 0=y (m-i):=by
 unfold cT;rw [aL,f7 (by omega),show pre.length+i-pre.length=i by omega,e7,wq h];rfl
theorem eo{pre:List Nat}{m p:Nat}{y:Nat→Nat}:p∈cT pre m y↔p∈pre∨∃k,1≤k∧k≤m∧p=y k:=by
 unfold cT;rw [dh,bK]
 constructor
 ·rintro (h| ⟨i,hi,rfl⟩)
  ·exact .inl h
  ·have:=cE.mp hi
   exact .inr ⟨m-i,by omega,by omega,rfl⟩
 ·rintro (h| ⟨k,h1,h2,rfl⟩)
  ·exact .inl h
  ·exact .inr ⟨m-k,cE.mpr (by omega),by rw [show m-(m-k)=k by omega]⟩
theorem vt(g:Good w)(D:Disc w R A)(F:At w R v m y){pre:List Nat}(hR:R=pre++ [y m,v])(h0:pre.getD 0 0=y 0)(hp:pre≠ [])(w9:∀k,0<k→k<m→y k∉R)(hl:3≤pre.length+m):
  Disc w (cT pre m y) λd=>A d∧¬cx v m y d:=by
 have mH:=D.nd;have lR:R.length=pre.length+2:=by rw [hR];simp
 have FQ:0<pre.length:=tU.mpr hp;have Co:∀p∈pre,p∈R:=λp h=>by rw [hR];exact fL _ h
 have ndp:pre.Nodup:=by rw [hR] at mH;exact (fN.mp mH).1
 have pv:∀p∈pre,p≠v∧p≠y m:=λp h=>by
  rw [hR] at mH
  have:=(fN.mp mH).2.2 p h
  exact ⟨this v (by simp),this (y m) (by simp)⟩
 have m0:y 0∈pre:=by
  rw [←h0,aL,bz FQ];exact rH FQ
 have out:∀k,1≤k→k≤m→y k∉pre:=λk h1 h2 hk=>by
  by_cases e:k=m
  ·subst e;exact (pv _ hk).2 rfl
  ·exact w9 k (by omega) (by omega) (Co _ hk)
 have xf:(cT pre m y).Nodup:=by
  unfold cT;refine fN.mpr ⟨ndp,?_,λa ha b hb e=>?_⟩
  ·unfold List.Nodup
   rw [jM];refine List.Pairwise.imp_of_mem (λ {i j} hi hj h e=>?_) pC
   have:=cE.mp hi
   have:=cE.mp hj
   have:=F.fan.inj (m-i) (m-j) (by omega) (by omega) e
   omega
  ·obtain ⟨i,hi,rfl⟩:=bK.mp hb
   have:=cE.mp hi
   subst e;exact out (m-i) (by omega) (by omega) ha
 have Fu:∀i,i<pre.length→R.getD i 0=pre.getD i 0:=λi hi=>by
  rw [hR,aL,eI hi,←aL]
 have O3:R.getD pre.length 0=y m:=by
  rw [hR,aL,f7 (bC _)];simp
 have NV:∀p∈pre,af (cT pre m y) p=af R p:=λp h=>by
  obtain ⟨i,hi,rfl⟩:=fM.mp h;have e:pre[i]=pre.getD i 0:=by rw [aL,bz hi];rfl
  have l1:af R (R.getD i 0)=R.getD (i+1) 0:=aE mH (by omega)
  have mp:=F.fan.pos;have l2:af (cT pre m y) ((cT pre m y).getD i 0)=(cT pre m y).getD (i+1) 0:=aE xf (by rw [g5];omega)
  rw [Fu i hi] at l1;rw [r8 hi] at l2;rw [e,l1,l2]
  by_cases c:i+1<pre.length
  ·rw [r8 c,Fu _ c]
  ·have c:i+1=pre.length:=by omega
   have:=r6 (pre:=pre) (y:=y) (m:=m) (i:=0) (by omega)
   rw [c,O3];simpa using this
 have sY:∀k,1≤k→k≤m→af (cT pre m y) (y k)=y (k-1):=λk h1 h2=>by
  have e1:=r6 (pre:=pre) (y:=y) (m:=m) (i:=m-k) (by omega)
  rw [show m-(m-k)=k by omega] at e1
  rw [←e1]
  by_cases c:k=1
  ·rw [ba xf (by rw [g5];omega),r8 FQ,h0,c]
  ·rw [aE xf (by rw [g5];omega)]
   have e2:=r6 (pre:=pre) (y:=y) (m:=m) (i:=m-k+1) (by omega)
   rw [show pre.length+(m-k)+1=pre.length+(m-k+1) by omega,e2,show m-(m-k+1)=k-1 by omega]
 have three:m=1→af R (y 0)≠y 1:=λhm e=>by
  have e0:R.getD 0 0=y 0:=by rw [Fu 0 FQ,h0]
  have s0:=aE mH (i:=0) (by omega)
  rw [e0,e] at s0
  by_cases c:1<pre.length
  ·rw [Fu 1 c] at s0
   have:y 1∈pre:=by rw [s0,aL,bz c];exact rH c
   exact out 1 (by omega) (by omega) this
  ·omega
 have Wc:∀k,1≤k→k≤m→A (y (k-1),y k):=λk h1 h2=>by
  have b:=F.Cd g D (k:=k-1) (by omega)
  rw [show k-1+1=k by omega] at b
  have GN:∀i,i≤m→y i∈R→i=0∨i=m:=λi hi h=>by
   by_cases c:0<i∧i<m
   ·exact absurd h (w9 i c.1 c.2)
   ·omega
  refine (D.sym _ _ (D.dart _ b.2.2) (λz=>?_) (λz=>?_)).mp b.2.2
  ·have r2:y (k-1)∈R:=by rw [z.2];exact bf z.1
   have i1:=GN k h2 z.1;have i2:=GN (k-1) (by omega) r2
   have hm:m=1:=by omega
   have hk:k=1:=by omega
   subst hk;have e:=z.2;have p:=F.pv;rw [hm] at p;rw [p] at e;exact F.ne g (k:=0) (cH _) e
  ·have r2:y k∈R:=by rw [z.2];exact bf z.1
   have i1:=GN k h2 r2;have i2:=GN (k-1) (by omega) z.1
   have hm:m=1:=by omega
   have hk:k=1:=by omega
   subst hk;exact three hm z.2.symm
 refine ⟨xf,by rw [g5];exact hl,λd h=>D.dart d h.1,λd hd=>?_,λd h=>D.tri d h.1,λp jV=>?_,λp q hd n1 n2=>?_⟩
 ·rw [D.face d hd,F.N3 g D hd]
 ·rcases eo.mp jV with h| ⟨k,h1,h2,rfl⟩
  ·rw [NV p h]
   have r:=D.ring p (Co p h);refine ⟨r.1,⟨r.2.1,?_⟩,λz=>r.2.2 z.1⟩;rintro ⟨k,hk,e|e|e⟩
   ·exact (pv p h).1 (congrArg Prod.snd e)
   ·have:af R p=v:=congrArg Prod.fst e
    have e2:=congrArg Prod.snd e;exact out (k+1) (by omega) (by omega) (by rw [←(show p=y (k+1) from e2)];exact h)
   ·have e1:af R p=y (k+1):=congrArg Prod.fst e
    have e2:p=y k:=congrArg Prod.snd e
    have k0:k=0:=by
     by_cases c:k=0
     ·exact c
     ·exact absurd (e2▸h) (out k (by omega) (by omega))
    subst k0
    have:y 1∈R:=by rw [←(show af R p=y 1 from e1)];exact bf (Co p h)
    have hm:m=1:=by
     by_cases c:1<m
     ·exact absurd this (w9 1 (by omega) c)
     ·omega
    rw [e2] at e1;exact three hm e1
  ·rw [sY k h1 h2]
   have a:=Wc k h1 h2;refine ⟨D.dart _ a,⟨a,?_⟩,λz=>z.2 ⟨k-1,by omega, .inr (.inr (by rw [show k-1+1=k by omega]))⟩⟩
   rintro ⟨j,hj,e|e|e⟩
   ·exact F.ne g (k:=k) h2 (congrArg Prod.snd e)
   ·exact F.ne g (k:=k-1) (by omega) (congrArg Prod.fst e)
   ·have e1:=F.fan.inj (k-1) (j+1) (by omega) (by omega) (congrArg Prod.fst e)
    have e2:=F.fan.inj k j (by omega) (by omega) (congrArg Prod.snd e)
    omega
 ·
  have one:∀p q,aQ w (p,q)→¬(p∈cT pre m y∧q=af (cT pre m y) p)→¬(q∈cT pre m y∧p=af (cT pre m y) q)→(A (p,q)∧¬cx v m y (p,q))→(A (q,p)∧¬cx v m y (q,p)):=by
   intro p q hd n1 n2 ⟨a,nt⟩;have r1:¬(p∈R∧q=af R p):=λz=>(D.ring p z.1).2.2 (by rw [←z.2];exact a)
   have r2:¬(q∈R∧p=af R q):=λz=>by
    have hq:=z.1;rw [hR] at hq
    rcases dh.mp hq with h|h
    ·exact n2 ⟨eo.mpr (.inl h),by rw [NV q h];exact z.2⟩
    ·have h:q=y m∨q=v:=by simpa using h
     rcases h with rfl|rfl
     ·have:p=v:=by rw [z.2];exact F.pv
      subst this;exact nt ⟨m-1,by have:=F.fan.pos;omega, .inr (.inl (by rw [show m-1+1=m by have:=F.fan.pos;omega]))⟩
     ·have:p=y 0:=by rw [z.2,F.nx]
      subst this;exact nt ⟨0,F.fan.pos, .inl rfl⟩
   refine ⟨(D.sym p q hd r1 r2).mp a,?_⟩;rintro ⟨k,hk,e|e|e⟩
   ·have e1:q=y k:=congrArg Prod.fst e
    have e2:p=v:=congrArg Prod.snd e;subst e1 e2
    by_cases c:k=0
    ·subst c;exact r1 ⟨F.vm,F.nx⟩
    ·exact nt ⟨k-1,by omega, .inr (.inl (by rw [show k-1+1=k by omega]))⟩
   ·have e1:q=v:=congrArg Prod.fst e
    have e2:p=y (k+1):=congrArg Prod.snd e;subst e1 e2
    by_cases c:k+1=m
    ·exact r1 ⟨by rw [c];exact F.pm,by rw [c];exact F.pv.symm⟩
    ·exact nt ⟨k+1,by omega, .inl rfl⟩
   ·have e1:q=y (k+1):=congrArg Prod.fst e
    have e2:p=y k:=congrArg Prod.snd e;subst e1 e2;exact n2 ⟨eo.mpr (.inr ⟨k+1,by omega,by omega,rfl⟩),by rw [sY (k+1) (by omega) (by omega)];rfl⟩
  exact ⟨one p q hd n1 n2,one q p (g.sym _ _ hd) n2 n1⟩
end
theorem Disc.vO{w:W}{a b:List Nat}{A:Nat×Nat→Prop}(D:Disc w (a++b) A):Disc w (b++a) A:=by
 have mem:∀p,p∈b++a↔p∈a++b:=λp=>List.perm_append_comm.mem_iff;have s:∀p,p∈b++a→af (b++a) p=af (a++b) p:=λp h=>fU D.nd ((mem p).mp h);refine ⟨(List.perm_append_comm.nodup_iff).mp D.nd,by have:=D.len;simp at this ⊢;omega,D.dart,D.face,D.tri,λp hp=>?_,λp q hd n1 n2=>?_⟩
 ·rw [s p hp];exact D.ring p ((mem p).mp hp)
 ·refine D.sym p q hd (λz=>n1 ⟨(mem p).mpr z.1,?_⟩) (λz=>n2 ⟨(mem q).mpr z.1,?_⟩)
  ·rw [s p ((mem p).mpr z.1)];exact z.2
  ·rw [s q ((mem q).mpr z.1)];exact z.2
def cg(l:List Nat)(a:Nat):List Nat:=l.drop (l.idxOf a)++l.take (l.idxOf a)
theorem jh(l:List Nat)(a:Nat):(cg l a).Perm l:=by
 unfold cg;exact List.perm_append_comm.trans (by rw [iq])
theorem oj(l:List Nat)(a:Nat):(cg l a).length=l.length:=(jh l a).length_eq
theorem EG{l:List Nat}{a x:Nat}(nd:l.Nodup)(hx:x∈l):af (cg l a) x=af l x:=by
 unfold cg;have e:l.take (l.idxOf a)++l.drop (l.idxOf a)=l:=iq _ _
 have:=fU (a:=l.take (l.idxOf a)) (b:=l.drop (l.idxOf a)) (x:=x) (by rw [e];exact nd) (by rw [e];exact hx)
 rw [this,e]
theorem vP{l:List Nat}{a:Nat}(h:a∈l):(cg l a).getD 0 0=a:=by
 have hl:=fq.mpr h;unfold cg;rw [aL,eI (by rw [dY];omega),pz,Nat.add_zero,bz hl,gK hl];rfl
theorem getD_inj{l:List Nat}(nd:l.Nodup){i j:Nat}(hi:i<l.length)(hj:j<l.length)(e:l.getD i 0=l.getD j 0):i=j:=by
 have ei:l.getD i 0=l[i]:=by rw [aL,bz hi];rfl
 have ej:l.getD j 0=l[j]:=by rw [aL,bz hj];rfl
 rw [ei,ej] at e;have h1:=nd.idxOf_getElem i hi;have h2:=nd.idxOf_getElem j hj;rw [e,h2] at h1;exact h1.symm
theorem az{l:List Nat}{i:Nat}(h:i<l.length):l.getD i 0∈l:=by
 rw [aL,bz h];exact rH h
theorem qW{R:List Nat}{x:Nat}(nd:R.Nodup)(h:x∈R):∃b,b∈R∧af R b=x:=by
 obtain ⟨i,hi,rfl⟩:=fM.mp h;have e:R[i]=R.getD i 0:=by rw [aL,bz hi];rfl
 by_cases c:i=0
 ·subst c
  exact ⟨R.getD (R.length-1) 0,az (by omega),by rw [ba nd (by omega),e]⟩
 ·refine ⟨R.getD (i-1) 0,az (by omega),?_⟩
  rw [aE nd (by omega),show i-1+1=i by omega,e]
structure Whole (w:W) (R:List Nat) (v m L:Nat) (y:Nat→Nat):Prop where
 at_:At w R v m y
 lt:m<L
 on:∀k,k+1<L→af (row w v) (y k)=y (k+1)
 all:∀z,z∈row w v→∃k,k<L∧y k=z
 inj:∀i j,i<L→j<L→y i=y j→i=j
 mem:∀k,k<L→y k∈row w v
section
variable {w:W} {R:List Nat} {A:Nat×Nat→Prop}
theorem oz(g:Good w)(D:Disc w R A){v:Nat}(hv:v∈R){b:Nat}(hb:b∈R)(eb:af R b=v):
  Whole w R v ((cg (row w v) (af R v)).idxOf b) (row w v).length λk=>(cg (row w v) (af R v)).getD k 0:=by
 have a:=(D.ring v hv).1;have am:af R v∈row w v:=g.sym _ _ a
 have bm:b∈row w v:=by
  have:=(D.ring b hb).1
  rw [eb] at this;exact this
 have JL:=g.nod v;have ko:(cg (row w v) (af R v)).Nodup:=(jh _ _).nodup_iff.mpr JL;have ll:=oj (row w v) (af R v);have FD:∀z,z∈cg (row w v) (af R v)↔z∈row w v:=λz=>(jh _ _).mem_iff;have bl:=fq.mpr ((FD b).mpr bm)
 have gb:(cg (row w v) (af R v)).getD ((cg (row w v) (af R v)).idxOf b) 0=b:=by
  rw [aL,bz bl,gK bl];rfl
 have on:∀k,k+1<(row w v).length→af (row w v) ((cg (row w v) (af R v)).getD k 0)=(cg (row w v) (af R v)).getD (k+1) 0:=λk hk=>by
  rw [←EG (a:=af R v) JL ((FD _).mp (az (by omega)))]
  exact aE ko (by omega)
 have mem:∀k,k<(row w v).length→(cg (row w v) (af R v)).getD k 0∈row w v:=λk hk=>(FD _).mp (az (by omega))
 have inj:∀i j,i<(row w v).length→j<(row w v).length→(cg (row w v) (af R v)).getD i 0=(cg (row w v) (af R v)).getD j 0→i=j:=λi j hi hj e=>getD_inj ko (by omega) (by omega) e
 have zK:af R v≠b:=by
  intro e;have h1:=D.len;obtain ⟨i,hi,rfl⟩:=fM.mp hv;have ei:R[i]=R.getD i 0:=by rw [aL,bz hi];rfl
  rw [←e,ei] at eb
  by_cases c:i+1<R.length
  ·rw [aE D.nd c] at eb
   by_cases c2:i+2<R.length
   ·rw [aE D.nd c2] at eb
    have:=getD_inj D.nd (by omega) (by omega) eb;omega
   ·rw [ba D.nd (by omega)] at eb
    have:=getD_inj D.nd (by omega) (by omega) eb;omega
  ·rw [ba D.nd (by omega),aE D.nd (by omega)] at eb
   have:=getD_inj D.nd (by omega) (by omega) eb;omega
 have h0:=vP am;refine ⟨⟨⟨λk hk=>on k (by omega),λk hk=>mem k (by omega),λi j hi hj e=>inj i j (by omega) (by omega) e,?_⟩,hv,h0,by rw [gb];exact hb,by rw [gb];exact eb⟩,by omega,on,λz hz=>?_,inj,mem⟩
 ·apply Classical.byContradiction
  intro c;have c:(cg (row w v) (af R v)).idxOf b=0:=by omega
  rw [c,h0] at gb;exact zK gb
 ·have zl:=fq.mpr ((FD z).mpr hz)
  exact ⟨(cg (row w v) (af R v)).idxOf z,by omega,by rw [aL,bz zl,gK zl];rfl⟩
theorem Whole.out(g:Good w)(D:Disc w R A){v m L:Nat}{y:Nat→Nat}(F:Whole w R v m L y):∀k,m+k<L→1≤k→¬A (v,y (m+k))
 |0,_,h=>by omega
 |k+1,hk,_=>by
  have d:aQ w (y (m+k),v):=g.sym _ _ (F.mem _ (by omega))
  have e:aZ w (y (m+k),v)=(v,y (m+(k+1))):=by
   show (v,af (row w v) (y (m+k)))=_;rw [F.on _ (by omega)];rfl
  have nA:¬A (y (m+k),v):=by
   by_cases c:k=0
   ·subst c
    have:=(D.ring (y m) F.at_.pm).2.2
    rw [F.at_.pv] at this;exact this
   ·intro a
    refine F.out g D k (by omega) (by omega) ((D.sym v (y (m+k)) (F.mem _ (by omega)) (λz=>?_) (λz=>?_)).mpr a)
    ·have:=F.inj (m+k) 0 (by omega) (by omega) (by rw [z.2,F.at_.nx]);omega
    ·have:=F.at_.pv
     have e2:=cZ D.nd z.1 F.at_.pm (by rw [this];exact z.2.symm)
     have:=F.inj (m+k) m (by omega) (by omega) e2;omega
  intro a;rw [←e] at a;exact nA ((D.face _ d).mpr a)
theorem Whole.between(g:Good w)(D:Disc w R A){v m L:Nat}{y:Nat→Nat}(F:Whole w R v m L y){z:Nat}(hz:A (v,z)):∃k,1≤k∧k≤m∧y k=z:=by
 obtain ⟨k,hk,rfl⟩:=F.all z (D.dart _ hz);refine ⟨k,?_,?_,rfl⟩
 ·apply Classical.byContradiction
  intro c;have c:k=0:=by omega
  subst c;rw [F.at_.nx] at hz;exact (D.ring v F.at_.vm).2.2 hz
 ·apply Classical.byContradiction
  intro c
  have:=F.out g D (k-m) (by omega) (by omega)
  rw [show m+(k-m)=k by omega] at this
  exact this hz
def cz(C:List Nat)(x y:Nat):Prop:=x∈C∧y=af C x
structure Bd (w:W) (C:List Nat) (S:Nat×Nat→Prop):Prop where
 face:∀d,aQ w d→(S d↔S (aZ w d))
 no:∀x y,aQ w (x,y)→¬cz C x y→¬cz C y x→(S (x,y)↔S (y,x))
 yes:∀x y,aQ w (x,y)→cz C x y∨cz C y x→(S (x,y)↔¬S (y,x))
theorem Bd.neg{C:List Nat}{S:Nat×Nat→Prop}(B:Bd w C S):Bd w C λd=>¬S d:=
 ⟨λd h=>not_congr (B.face d h),λx y h a b=>not_congr (B.no x y h a b),λx y h a=>not_congr (B.yes x y h a)⟩
theorem Whole.seg(g:Good w){v m L:Nat}{y:Nat→Nat}(F:Whole w R v m L y){C:List Nat}{S:Nat×Nat→Prop}(B:Bd w C S){i:Nat}:∀n,i+n+1<L→(∀k,i<k→k≤i+n→¬cz C v (y k)∧¬cz C (y k) v)→(S (y i,v)↔S (v,y (i+n+1)))
 |0,h,_=>by
  have d:aQ w (y i,v):=g.sym _ _ (F.mem _ (by omega))
  have e:aZ w (y i,v)=(v,y (i+0+1)):=by
   show (v,af (row w v) (y i))=_;rw [F.on _ (by omega)]
  rw [B.face _ d,e]
 |n+1,h,q=>by
  have ih:=F.seg g B n (by omega) λk h1 h2=>q k h1 (by omega)
  have c:=q (i+n+1) (by omega) (by omega)
  have s:=B.no v (y (i+n+1)) (F.mem _ (by omega)) c.1 c.2
  have d:aQ w (y (i+n+1),v):=g.sym _ _ (F.mem _ (by omega))
  have e:aZ w (y (i+n+1),v)=(v,y (i+(n+1)+1)):=by
   show (v,af (row w v) (y (i+n+1)))=_;rw [F.on _ (by omega)];rfl
  rw [ih,s,B.face _ d,e]
theorem lI{a b:List Nat}{z x:Nat}(nd:(a++ [z]++b).Nodup)(hx:x∈a):af (a++ [z]++b) x=af (a++ [z]) x:=by
 have sj:(a++ [z]).Nodup:=(fN.mp nd).1;obtain ⟨i,hi,rfl⟩:=fM.mp hx
 have e1:(a++ [z]++b).getD i 0=a[i]:=by
  rw [aL,rF,eI hi,bz hi];rfl
 have e2:(a++ [z]).getD i 0=a[i]:=by
  rw [aL,eI hi,bz hi];rfl
 have h1:=aE (i:=i) nd (by simp;omega)
 have h2:=aE (i:=i) sj (by simp;omega)
 rw [e1] at h1;rw [e2] at h2;rw [h1,h2,aL,eI (by simp;omega),←aL]
theorem parted(g:Good w)(D:Disc w R A){p q:Nat}{B C:List Nat}(hR:R=p::(B++q::C))(hB:B≠ [])(hC:C≠ [])(ch:A (p,q)){S:Nat×Nat→Prop}(bd:Bd w (p::(B++ [q])) S)(hs:S (af R p,p)):
  Disc w (p::(B++ [q])) (λd=>A d∧S d)∧Disc w (q::(C++ [p])) (λd=>A d∧¬S d):=by
 have mH:=D.nd;have Gz:R=(p::B)++ [q]++C:=by rw [hR];simp
 have DJ:R=(p::B)++(q::C):=by rw [hR];simp
 have JL:((q::C)++ [p]++B).Nodup:=by
  have:((q::C)++(p::B)).Nodup:=List.perm_append_comm.nodup_iff.mp (DJ▸mH)
  simpa using this
 have sj:((p::B)++ [q]).Nodup:=by rw [Gz] at mH;exact (fN.mp mH).1
 have xf:((q::C)++ [p]).Nodup:=(fN.mp JL).1
 have sp:∀x∈p::B,af (p::(B++ [q])) x=af R x:=λx hx=>by
  have:=lI (a:=p::B) (b:=C) (z:=q) (Gz▸mH) hx
  rw [Gz,this];rfl
 have sq:∀x∈q::C,af (q::(C++ [p])) x=af R x:=λx hx=>by
  have h1:=lI (a:=q::C) (b:=B) (z:=p) JL hx;have h2:=fU (a:=p::B) (b:=q::C) (x:=x) (DJ▸mH) (cG _ hx);rw [←DJ] at h2;rw [←h2];have e:(q::C)++ [p]++B=(q::C)++(p::B):=by simp
  rw [e] at h1;exact h1.symm
 have EJ:af (p::(B++ [q])) q=p:=cV sj;have Qr:af (q::(C++ [p])) p=q:=cV xf
 have oV:∀x,x∈p::B→x∉q::C:=λx h1 h2=>by
  rw [DJ] at mH;exact (fN.mp mH).2.2 x h1 x h2 rfl
 have mR:∀x,x∈R↔x∈p::B∨x∈q::C:=λx=>by rw [DJ,dh]
 have m1:∀x,x∈p::(B++ [q])↔x∈p::B∨x=q:=λx=>by simp [or_assoc]
 have m2:∀x,x∈q::(C++ [p])↔x∈q::C∨x=p:=λx=>by simp [or_assoc]
 have pB:p∉B:=by
  have:=(fN.mp sj).1
  exact (gS.mp this).1
 have pq:p≠q:=λe=>oV p (cD ..) (e▸cD ..)
 have V7:af R p∈B:=by
  obtain ⟨b,B',rfl⟩:=List.exists_cons_of_ne_nil hB
  have:af R p=b:=by
   rw [hR];exact bY (a:= []) (b:=B'++q::C) (by rw [hR] at mH;simpa using mH)
  rw [this];exact cD ..
 have Qs:af R q∈C:=by
  obtain ⟨c,C',rfl⟩:=List.exists_cons_of_ne_nil hC
  have:af R q=c:=by
   rw [hR,show p::(B++q::c::C')=(p::B)++q::c::C' by simp]
   exact bY (by rw [hR] at mH;simpa using mH)
  rw [this];exact cD ..
 have qp:¬cz R q p:=λz=>oV p (cD ..) (by rw [z.2];exact cM _ Qs)
 have pq':¬cz R p q:=λz=>oV q (by rw [z.2];exact cM _ V7) (cD ..)
 have Rt:A (q,p):=(D.sym p q (D.dart _ ch) pq' qp).mp ch
 have Qu:∀x b,x∈B→b∈R→af R b=x→(S (af R x,x)↔S (x,b)):=λx b hx hb eb=>by
  have Jq:x∈R:=(mR x).mpr (.inl (cM _ hx));have F:=oz g D Jq hb eb;generalize (cg (row w x) (af R x)).idxOf b=m at F;generalize (λk=>(cg (row w x) (af R x)).getD k 0)=y at F;have mp:=F.at_.fan.pos;have yb:y m=b:=cZ D.nd F.at_.pm hb (by rw [F.at_.pv,eb])
  have:=F.seg g bd (i:=0) (m-1) (by have:=F.lt;omega) λk h1 h2=>⟨λz=>?_,λz=>?_⟩
  ·rw [F.at_.nx,show 0+(m-1)+1=m by omega,yb] at this
   exact this
  ·have e:=z.2
   rw [sp x (cM _ hx)] at e
   have:=F.at_.y0 (by omega) e
   omega
  ·have e:=z.2
   rcases (m1 _).mp z.1 with h|h
   ·rw [sp _ h] at e
    have:=F.at_.ym D (by omega) ((mR _).mpr (.inl h)) e
    omega
   ·rw [h,EJ] at e
    exact pB (e▸hx)
 have Qv:∀x b,x∈C→b∈R→af R b=x→(S (af R x,x)↔S (x,b)):=λx b hx hb eb=>by
  have Jq:x∈R:=(mR x).mpr (.inr (cM _ hx))
  have xn:x∉p::(B++ [q]):=λz=>by
   rcases (m1 x).mp z with h|h
   ·exact oV x h (cM _ hx)
   ·subst h
    have:=(fN.mp xf).1
    exact (gS.mp this).1 hx
  have F:=oz g D Jq hb eb;generalize (cg (row w x) (af R x)).idxOf b=m at F;generalize (λk=>(cg (row w x) (af R x)).getD k 0)=y at F;have mp:=F.at_.fan.pos;have yb:y m=b:=cZ D.nd F.at_.pm hb (by rw [F.at_.pv,eb])
  have:=F.seg g bd (i:=0) (m-1) (by have:=F.lt;omega) λk h1 h2=>⟨λz=>xn z.1,λz=>xn (by rw [z.2];exact bf z.1)⟩
  rw [F.at_.nx,show 0+(m-1)+1=m by omega,yb] at this
  exact this
 have Tu:p∈R:=(mR p).mpr (.inl (cD ..))
 have Rf:∀b,b∈R→af R b=p→S (p,q)∧¬S (q,p)∧¬S (p,b):=λb hb eb=>by
  have F:=oz g D Tu hb eb;generalize (cg (row w p) (af R p)).idxOf b=m at F;generalize (λk=>(cg (row w p) (af R p)).getD k 0)=y at F;have mp:=F.at_.fan.pos;have yb:y m=b:=cZ D.nd F.at_.pm hb (by rw [F.at_.pv,eb])
  obtain ⟨j,j1,j2,yj⟩:=F.between g D ch
  have jm:j≠m:=λe=>by
   rw [e,yb] at yj;rw [yj] at eb;exact oV p (cD ..) (by rw [←eb];exact cM _ Qs)
  have lt:=F.lt
  have bo:∀k,0<k→k<m→k≠j→¬cz (p::(B++ [q])) p (y k)∧¬cz (p::(B++ [q])) (y k) p:=λk h1 h2 h3=>⟨λz=>by
   have e:=z.2;rw [sp p (cD ..)] at e
   have:=F.at_.y0 (by omega) e
   omega,λz=>by
   have e:=z.2
   rcases (m1 _).mp z.1 with h|h
   ·rw [sp _ h] at e
    have:=F.at_.ym D (by omega) ((mR _).mpr (.inl h)) e
    omega
   ·rw [←yj] at h
    exact h3 (F.inj k j (by omega) (by omega) h)⟩
  have g1:=F.seg g bd (i:=0) (j-1) (by omega) λk h1 h2=>bo k h1 (by omega) (by omega)
  rw [F.at_.nx,show 0+(j-1)+1=j by omega,yj] at g1
  have s1:S (p,q):=g1.mp hs;have s2:¬S (q,p):=(bd.yes p q (D.dart _ ch) (.inr ⟨(m1 q).mpr (.inr rfl),EJ.symm⟩)).mp s1;have g2:=F.seg g bd (i:=j) (m-j-1) (by omega) λk h1 h2=>bo k (by omega) (by omega) (by omega)
  rw [yj,show j+(m-j-1)+1=m by omega,yb] at g2
  exact ⟨s1,s2,λz=>s2 (g2.mpr z)⟩
 obtain ⟨bl,Yr,X8⟩:=qW D.nd Tu;obtain ⟨VM,VN,_⟩:=Rf bl Yr X8;have lR:R.length=B.length+C.length+2:=by rw [hR];simp;omega
 have gB:∀i,1≤i→i≤B.length→R.getD i 0∈B:=λi h1 h2=>by
  obtain ⟨k,rfl⟩:∃k,i=k+1:=⟨i-1,by omega⟩
  rw [hR,mj,aL,eI (by omega),bz (by omega)]
  exact rH _
 have gC:∀i,B.length+2≤i→i<R.length→R.getD i 0∈C:=λi h1 h2=>by
  rw [show R=(p::B++ [q])++C by rw [Gz],aL,f7 (by simp;omega),bz (by simp;omega)]
  exact rH _
 have g0:R.getD 0 0=p:=by rw [hR];rfl
 have gq:R.getD (B.length+1) 0=q:=by
  rw [hR,mj,aL,f7 (bC _)];simp
 have gR:∀i,i<R.length→R.getD i 0∈R:=λi h=>az h
 have upB:∀i,i≤B.length→S (af R (R.getD i 0),R.getD i 0):=by
  intro i
  induction i with
  |zero=>intro _;rw [g0];exact hs
  |succ i ih=>
   intro h;have e:=aE D.nd (i:=i) (by omega)
   have ih:=ih (by omega)
   rw [e] at ih;exact (Qu _ _ (gB (i+1) (by omega) h) (gR i (by omega)) e).mpr ih
 have X2:∀n i,i+n+1=R.length→B.length+1≤i→¬S (af R (R.getD i 0),R.getD i 0):=by
  intro n
  induction n with
  |zero=>
   intro i h1 h2;have e:=ba D.nd (i:=i) (by omega)
   rw [g0] at e;rw [e];exact (Rf _ (gR i (by omega)) e).2.2
  |succ n ih=>
   intro i h1 h2;have e:=aE D.nd (i:=i) (by omega)
   have ih:=ih (i+1) (by omega) (by omega)
   rw [e];exact λz=>ih ((Qv _ _ (gC (i+1) (by omega) (by omega)) (gR i (by omega)) e).mpr z)
 have QU:∀x∈p::B,S (af R x,x):=λx hx=>by
  obtain ⟨i,hi,rfl⟩:=fM.mp hx;have e:R.getD i 0=(p::B)[i]:=by rw [DJ,aL,eI hi,bz hi];rfl
  have:=upB i (by simp at hi;omega)
  rw [e] at this;exact this
 have QV:∀x∈q::C,¬S (af R x,x):=λx hx=>by
  obtain ⟨i,hi,rfl⟩:=fM.mp hx
  have e:R.getD (B.length+1+i) 0=(q::C)[i]:=by
   rw [DJ,aL,f7 (by simp),show B.length+1+i-(p::B).length=i by simp,bz hi];rfl
  have iK:i<C.length+1:=by simpa using hi
  have:=X2 (R.length-(B.length+1+i)-1) (B.length+1+i) (by omega) (by omega)
  rw [e] at this;exact this
 have OY:∀d,aQ w d→((A d∧S d)↔(A (aZ w d)∧S (aZ w d))):=λd hd=>and_congr (D.face d hd) (bd.face d hd);have OX:∀d,aQ w d→((A d∧¬S d)↔(A (aZ w d)∧¬S (aZ w d))):=λd hd=>and_congr (D.face d hd) (not_congr (bd.face d hd));have lB:=tU.mpr hB;have lC:=tU.mpr hC
 have FI:∀x∈q::C,¬S (x,af R x)∧¬S (af R x,x):=λx hx=>by
  have a:=QV x hx;have Jq:=(mR x).mpr (.inr hx);have d:=(D.ring x Jq).1;refine ⟨λz=>a ?_,a⟩;refine (bd.no x (af R x) (g.sym _ _ d) (λz=>?_) (λz=>?_)).mp z
  ·rcases (m1 x).mp z.1 with h|h
   ·exact oV x h hx
   ·have e:=z.2
    subst h;rw [EJ] at e;exact oV p (cD ..) (by rw [←e];exact cM _ Qs)
  ·have e:=z.2
   rcases (m1 _).mp z.1 with h|h
   ·rw [sp _ h] at e
    have:af R x∈q::C∨af R x=p:=by
     rw [←sq x hx]
     have:=bf (l:=q::(C++ [p])) (x:=x) ((m2 x).mpr (.inl hx))
     exact (m2 _).mp this
    rcases this with h2|h2
    ·exact oV _ h h2
    ·rw [h2] at e
     exact oV x (by rw [e];exact cM _ V7) hx
   ·rw [h,EJ] at e
    exact oV p (cD ..) (e▸hx)
 refine ⟨⟨sj,by simp;omega,λd h=>D.dart d h.1,OY,λd h=>D.tri d h.1,λx hx=>?_,λx y hd n1 n2=>?_⟩,⟨xf,by simp;omega,λd h=>D.dart d h.1,OX,λd h=>D.tri d h.1,λx hx=>?_,λx y hd n1 n2=>?_⟩⟩
 ·rcases (m1 x).mp hx with h|rfl
  ·rw [sp x h]
   have r:=D.ring x ((mR x).mpr (.inl h));exact ⟨r.1,⟨r.2.1,QU x h⟩,λz=>r.2.2 z.1⟩
  ·rw [EJ]
   exact ⟨D.dart _ ch,⟨ch,VM⟩,λz=>VN z.2⟩
 ·have sy:=bd.no x y hd n1 n2
  by_cases c1:cz R x y
  ·obtain ⟨hx,rfl⟩:=c1
   rcases (mR x).mp hx with h|h
   ·exact absurd ⟨(m1 x).mpr (.inl h),(sp x h).symm⟩ n1
   ·exact ⟨λz=>absurd z.2 (FI x h).1,λz=>absurd z.2 (FI x h).2⟩
  ·by_cases c2:cz R y x
   ·obtain ⟨hy,rfl⟩:=c2
    rcases (mR y).mp hy with h|h
    ·exact absurd ⟨(m1 y).mpr (.inl h),(sp y h).symm⟩ n2
    ·exact ⟨λz=>absurd z.2 (FI y h).2,λz=>absurd z.2 (FI y h).1⟩
   ·exact and_congr (D.sym x y hd c1 c2) sy
 ·rcases (m2 x).mp hx with h|rfl
  ·rw [sq x h]
   have r:=D.ring x ((mR x).mpr (.inr h));exact ⟨r.1,⟨r.2.1,QV x h⟩,λz=>r.2.2 z.1⟩
  ·rw [Qr]
   exact ⟨D.dart _ Rt,⟨Rt,VN⟩,λz=>z.2 VM⟩
 ·have ku:∀x∈p::B,¬(A (x,af R x)∧¬S (x,af R x))∧¬(A (af R x,x)∧¬S (af R x,x)):=λx hx=>
   ⟨λz=>(D.ring x ((mR x).mpr (.inl hx))).2.2 z.1,λz=>z.2 (QU x hx)⟩
  by_cases c1:cz R x y
  ·obtain ⟨hx,rfl⟩:=c1
   rcases (mR x).mp hx with h|h
   ·exact ⟨λz=>absurd z (ku x h).1,λz=>absurd z (ku x h).2⟩
   ·exact absurd ⟨(m2 x).mpr (.inl h),(sq x h).symm⟩ n1
  ·by_cases c2:cz R y x
   ·obtain ⟨hy,rfl⟩:=c2
    rcases (mR y).mp hy with h|h
    ·exact ⟨λz=>absurd z (ku y h).2,λz=>absurd z (ku y h).1⟩
    ·exact absurd ⟨(m2 y).mpr (.inl h),(sq y h).symm⟩ n2
   ·refine and_congr (D.sym x y hd c1 c2) (not_congr (bd.no x y hd (λz=>?_) (λz=>?_)))
    ·rcases (m1 x).mp z.1 with h|rfl
     ·exact c1 ⟨(mR x).mpr (.inl h),by rw [z.2,sp x h]⟩
     ·have e:=z.2
      rw [EJ] at e;exact n2 ⟨(m2 y).mpr (.inr e),by rw [e,Qr]⟩
    ·rcases (m1 y).mp z.1 with h|rfl
     ·exact c2 ⟨(mR y).mpr (.inl h),by rw [z.2,sp y h]⟩
     ·have e:=z.2
      rw [EJ] at e;exact n1 ⟨(m2 x).mpr (.inr e),by rw [e,Qr]⟩
end
def par{α:Type}(f:α→Bool):List α→Bool
 | []=>false
 |x::l=>(f x).xor (par f l)
theorem kv{α:Type}(f:α→Bool):∀l m:List α,par f (l++m)=(par f l).xor (par f m)
 | [],m=>by simp [par]
 |x::l,m=>by rw [List.cons_append,par,par,kv f l m,Bool.xor_assoc]
theorem qT{α:Type}(f g:α→Bool):∀l:List α,par (λx=>(f x).xor (g x)) l=(par f l).xor (par g l)
 | []=>rfl
 |x::l=>by
  rw [par,par,par,qT f g l];cases f x<;>cases g x<;>cases par f l<;>cases par g l<;>rfl
theorem g7{α:Type}{f:α→Bool}:∀{l:List α},(∀x∈l,f x=false)→par f l=false
 | [],_=>rfl
 |x::l,h=>by rw [par,h x (cD ..),g7 λy hy=>h y (cM _ hy)];rfl
theorem lA{α:Type}{f g:α→Bool}:∀{l:List α},(∀x∈l,f x=g x)→par f l=par g l
 | [],_=>rfl
 |x::l,h=>by rw [par,par,h x (cD ..),lA λy hy=>h y (cM _ hy)]
theorem nu{b:Bool}{a:Nat}:∀{l:List Nat},l.Nodup→a∈l→par (λx=>decide (x=a)&&b) l=b
 | [],_,h=>by cases h
 |x::l,nd,h=>by
  obtain ⟨n1,n2⟩:=gS.mp nd;rw [par]
  by_cases e:x=a
  ·subst e
   rw [g7 λy hy=>by
    have:y≠x:=λz=>n1 (z▸hy)
    simp [this]]
   simp
  ·have:a∈l:=by
    rcases cv.mp h with z|z
    ·exact absurd z.symm e
    ·exact z
   rw [nu n2 this];simp [e]
theorem Cf{α:Type}(f:α→Bool):∀l:List α,par f l.reverse=par f l
 | []=>rfl
 |x::l=>by
  rw [List.reverse_cons,kv,Cf f l,par,par,par];cases f x<;>cases par f l<;>rfl
def oF(w:W):Prop:=∀c:Nat→Nat→Bool,(∀x y,c x y=c y x)→(∀p,p<w.length→par (c p) (row w p)=false)→
 ∃S:Nat×Nat→Bool,(∀d,aQ w d→S d=S (aZ w d))∧∀x y,aQ w (x,y)→(S (x,y)).xor (S (y,x))=c x y
open Classical in
theorem oF.ring{w:W}(B:oF w)(g:Good w){C:List Nat}(nd:C.Nodup)(len:3≤C.length)(tie:∀p∈C,af C p∈row w p):∃S:Nat×Nat→Prop,Bd w C S:=by
 have sy:∀x y,decide (cz C x y∨cz C y x)=decide (cz C y x∨cz C x y):=λx y=>decide_eq_decide.mpr Or.comm
 have ev:∀p,p<w.length→par (λy=>decide (cz C p y∨cz C y p)) (row w p)=false:=λp _=>by
  by_cases hp:p∈C
  ·obtain ⟨b,hb,eb⟩:=qW nd hp
   have ne:af C p≠b:=by
    intro e;rw [←e] at eb;obtain ⟨i,hi,rfl⟩:=fM.mp hp;have ei:C[i]=C.getD i 0:=by rw [aL,bz hi];rfl
    rw [ei] at eb
    by_cases c:i+1<C.length
    ·rw [aE nd c] at eb
     by_cases c2:i+2<C.length
     ·rw [aE nd c2] at eb
      have:=getD_inj nd (by omega) (by omega) eb;omega
     ·rw [ba nd (by omega)] at eb
      have:=getD_inj nd (by omega) (by omega) eb;omega
    ·rw [ba nd (by omega),aE nd (by omega)] at eb
     have:=getD_inj nd (by omega) (by omega) eb;omega
   have e:par (λy=>decide (cz C p y∨cz C y p)) (row w p)=par (λy=>(decide (y=af C p)&&true).xor (decide (y=b)&&true)) (row w p):=lA λy _=>by
    have h1:cz C p y↔y=af C p:=⟨λz=>z.2,λz=>⟨hp,z⟩⟩;have h2:cz C y p↔y=b:=⟨λz=>cZ nd z.1 hb (by rw [eb];exact z.2.symm),λz=>by rw [z];exact ⟨hb,eb.symm⟩⟩
    have e3:decide (cz C p y∨cz C y p)=decide (y=af C p∨y=b):=decide_eq_decide.mpr (or_congr h1 h2);rw [e3]
    by_cases c1:y=af C p
    ·have c2:y≠b:=λz=>ne (c1▸z)
     simp [c1,ne]
    ·by_cases c2:y=b
     ·simp [c2,Ne.symm ne]
     ·simp [c1,c2]
   rw [e,qT,nu (g.nod p) (tie p hp),nu (g.nod p) (by
    have:=g.sym _ _ (tie b hb)
    rw [eb] at this;have h:=tie b hb;rw [eb] at h;exact g.sym _ _ h)]
   rfl
  ·refine g7 λy _=>decide_eq_false ?_
   rintro (z|z)
   ·exact hp z.1
   ·exact hp (by rw [z.2];exact bf z.1)
 obtain ⟨S,h1,h2⟩:=B (λx y=>decide (cz C x y∨cz C y x)) sy ev;refine ⟨λd=>S d=true,λd hd=>by rw [h1 d hd],λx y hd n1 n2=>?_,λx y hd a=>?_⟩
 ·have:=h2 x y hd
  rw [decide_eq_false (show ¬(cz C x y∨cz C y x) from λz=>z.elim n1 n2)] at this;cases e1:S (x,y)<;>cases e2:S (y,x)<;>simp [e1,e2] at this ⊢
 ·have:=h2 x y hd
  rw [decide_eq_true a] at this;cases e1:S (x,y)<;>cases e2:S (y,x)<;>simp [e1,e2] at this ⊢
structure cw (w:W) (R:List Nat):Prop where
 g:Good w
 nd:R.Nodup
 len:3≤R.length
 hd:∀x∈R,af R x∈row w x∧(row w x).getD 0 0=af R x
 ls:∀x∈R,(row w x).getD ((row w x).length-1) 0∈R∧af R ((row w x).getD ((row w x).length-1) 0)=x
 tri:∀x y,aQ w (x,y)→¬cz R x y→aZ w (aZ w (aZ w (x,y)))=(x,y)∧¬cz R (aZ w (x,y)).1 (aZ w (x,y)).2
 bnd:oF w
theorem cw.vO{w:W}{a b:List Nat}(G:cw w (a++b)):cw w (b++a):=by
 have mem:∀p,p∈b++a↔p∈a++b:=λp=>List.perm_append_comm.mem_iff;have s:∀p,p∈b++a→af (b++a) p=af (a++b) p:=λp h=>fU G.nd ((mem p).mp h)
 have ad:∀x y,cz (b++a) x y↔cz (a++b) x y:=λx y=>by
  constructor
  ·rintro ⟨h,e⟩;exact ⟨(mem x).mp h,by rw [e,s x h]⟩
  ·rintro ⟨h,e⟩;exact ⟨(mem x).mpr h,by rw [e,s x ((mem x).mpr h)]⟩
 refine ⟨G.g,List.perm_append_comm.nodup_iff.mp G.nd,by have:=G.len;simp at this ⊢;omega,λx hx=>?_,λx hx=>?_,λx y hd n=>?_,G.bnd⟩
 ·rw [s x hx];exact G.hd x ((mem x).mp hx)
 ·have:=G.ls x ((mem x).mp hx)
  exact ⟨(mem _).mpr this.1,by rw [s _ ((mem _).mpr this.1)];exact this.2⟩
 ·have:=G.tri x y hd (λz=>n ((ad x y).mpr z))
  exact ⟨this.1,λz=>this.2 ((ad _ _).mp z)⟩
theorem cw.vf{w:W}{R:List Nat}(G:cw w R){x b:Nat}(hx:x∈R)(hb:b∈R)(e:af R b=x):(row w x).getD ((row w x).length-1) 0=b∧(row w x).length≠0:=by
 have:=G.ls x hx
 refine ⟨cZ G.nd this.1 hb (by rw [this.2,e]),?_⟩
 have:=(G.hd x hx).1
 intro z;rw [CZ.mp z] at this;cases this
theorem cw.outer{w:W}{R:List Nat}(G:cw w R){x y:Nat}(h:cz R x y):aZ w (x,y)=(y,af R y):=by
 obtain ⟨hx,rfl⟩:=h;have hy:=bf hx;obtain ⟨e,ne⟩:=G.vf hy hx rfl;show (_,af (row w (af R x)) x)=_;have e2:=ba (G.g.nod (af R x)) (i:=(row w (af R x)).length-1) (by omega)
 rw [e] at e2;rw [e2,(G.hd _ hy).2]
theorem cw.IB{w:W}{R:List Nat}(G:cw w R):Disc w R λd=>aQ w d∧¬cz R d.1 d.2:=by
 have two:∀x∈R,af R (af R x)≠x:=λx hx e=>by
  have len:=G.len;obtain ⟨i,hi,rfl⟩:=fM.mp hx;have ei:R[i]=R.getD i 0:=by rw [aL,bz hi];rfl
  rw [ei] at e
  by_cases c:i+1<R.length
  ·rw [aE G.nd c] at e
   by_cases c2:i+2<R.length
   ·rw [aE G.nd c2] at e
    have:=getD_inj G.nd (by omega) (by omega) e;omega
   ·rw [ba G.nd (by omega)] at e
    have:=getD_inj G.nd (by omega) (by omega) e;omega
  ·rw [ba G.nd (by omega),aE G.nd (by omega)] at e
   have:=getD_inj G.nd (by omega) (by omega) e;omega
 refine ⟨G.nd,G.len,λd h=>h.1,λd hd=>⟨λh=>⟨fB G.g hd,(G.tri d.1 d.2 hd h.2).2⟩,λh=>⟨hd,λz=>h.2 ?_⟩⟩,λd h=>(G.tri d.1 d.2 h.1 h.2).1,λp hp=>?_,λp q hd n1 n2=>?_⟩
 ·have e:aZ w d=(d.2,af R d.2):=G.outer z
  rw [e];exact ⟨by rw [z.2];exact bf z.1,rfl⟩
 ·have h1:=(G.hd p hp).1
  exact ⟨G.g.sym _ _ h1,⟨G.g.sym _ _ h1,λz=>two p hp z.2.symm⟩,λz=>z.2 ⟨hp,rfl⟩⟩
 ·exact ⟨λh=>⟨G.g.sym _ _ h.1,n2⟩,λh=>⟨G.g.sym _ _ h.1,n1⟩⟩
end Wb
set_option maxHeartbeats 1000000
namespace Wb
structure Step (w w':W) (R:List Nat) (f:Nat):Prop where
 l:w'.length=w.length+1
 f1:1≤f
 fn:f<R.length
 rv:row w' w.length=(R.take (f+1)).reverse
 r0:row w' (R.getD 0 0)=w.length::row w (R.getD 0 0)
 rk:∀k,1≤k→k≤f→row w' (R.getD k 0)=row w (R.getD k 0)++ [w.length]
 ro:∀x,x≠w.length→(∀k,k≤f→x≠R.getD k 0)→row w' x=row w x
def cc(R:List Nat)(f v:Nat):List Nat:=R.getD 0 0::v::R.drop f
theorem eO{R:List Nat}{f k:Nat}(h:f<R.length)(hk:k≤f):(R.take (f+1)).reverse.getD (f-k) 0=R.getD k 0:=by
 have l:(R.take (f+1)).length=f+1:=by rw [b8];omega
 rw [aL,List.getElem?_reverse (by omega),l,show f+1-1-(f-k)=k by omega,pk (by omega),←aL]
theorem ui{l:List Nat}{v x:Nat}(nd:(v::l).Nodup)(hx:x∈l)(hl:x≠l.getD (l.length-1) 0):af (v::l) x=af l x:=by
 obtain ⟨i,hi,rfl⟩:=fM.mp hx;have e:l[i]=l.getD i 0:=by rw [aL,bz hi];rfl
 have oM:i+1<l.length:=by
  apply Classical.byContradiction;intro c;exact hl (by rw [e,show l.length-1=i by omega])
 have h1:=aE (i:=i+1) nd (by simp;omega)
 have h2:=aE (i:=i) (gS.mp nd).2 oM;rw [mj,mj] at h1;rw [e,h1,h2]
theorem uj{l:List Nat}{v x:Nat}(nd:(l++ [v]).Nodup)(hx:x∈l)(hl:x≠l.getD (l.length-1) 0):af (l++ [v]) x=af l x:=by
 obtain ⟨i,hi,rfl⟩:=fM.mp hx;have e:l[i]=l.getD i 0:=by rw [aL,bz hi];rfl
 have oM:i+1<l.length:=by
  apply Classical.byContradiction;intro c;exact hl (by rw [e,show l.length-1=i by omega])
 have g:∀j,j<l.length→(l++ [v]).getD j 0=l.getD j 0:=λj hj=>by rw [aL,eI hj,←aL]
 have h1:=aE (i:=i) nd (by simp;omega)
 have h2:=aE (i:=i) (fN.mp nd).1 oM;rw [g i hi,g (i+1) oM] at h1;rw [e,h1,h2]
section
variable {w w':W} {R:List Nat} {f:Nat}
theorem qd(G:cw w R)(T:Step w w' R f):Good w':=by
 have g:=G.g;have fn:=T.fn;have zR:∀k,k≤f→R.getD k 0∈R:=λk h=>az (by omega)
 have zlt:∀k,k≤f→R.getD k 0<w.length:=λk h=>bI (G.hd _ (zR k h)).1
 have HV:∀x,x∈(R.take (f+1)).reverse↔∃k,k≤f∧x=R.getD k 0:=λx=>by
  rw [pD]
  constructor
  ·intro h
   obtain ⟨i,hi,rfl⟩:=fM.mp h;rw [b8] at hi;exact ⟨i,by omega,by rw [sU,aL,bz (by omega)];rfl⟩
  ·rintro ⟨k,hk,rfl⟩
   refine fM.mpr ⟨k,by rw [b8];omega,?_⟩
   rw [sU,aL,bz (by omega)];rfl
 have mem:∀x,x≠w.length→∀y,y∈row w' x↔y∈row w x∨(y=w.length∧∃k,k≤f∧x=R.getD k 0):=λx hx y=>by
  by_cases c:∃k,k≤f∧x=R.getD k 0
  ·obtain ⟨k,hk,rfl⟩:=c
   by_cases k0:k=0
   ·subst k0
    rw [T.r0,cv];exact ⟨λh=>h.elim (λz=> .inr ⟨z,0,hk,rfl⟩) .inl,λh=>h.elim .inr (λz=> .inl z.1)⟩
   ·rw [T.rk k (by omega) hk,dh,gQ]
    exact ⟨λh=>h.elim .inl (λz=> .inr ⟨z,k,hk,rfl⟩),λh=>h.elim .inl (λz=> .inr z.1)⟩
  ·rw [T.ro x hx (λk hk z=>c ⟨k,hk,z⟩)]
   exact ⟨.inl,λh=>h.elim id (λz=>absurd z.2 c)⟩
 have FE:∀y,y∈row w' w.length↔∃k,k≤f∧y=R.getD k 0:=λy=>by rw [T.rv];exact HV y
 have KW:∀x,w.length∉row w x:=λx h=>iw _ (g.rng _ _ h)
 have noR:∀x,x≠w.length→(row w' x).Nodup:=λx hx=>by
  by_cases c:∃k,k≤f∧x=R.getD k 0
  ·obtain ⟨k,hk,rfl⟩:=c
   by_cases k0:k=0
   ·subst k0
    rw [T.r0];exact gS.mpr ⟨KW _,g.nod _⟩
   ·rw [T.rk k (by omega) hk]
    exact fN.mpr ⟨g.nod _,by simp,λa ha b hb e=>by
     have:b=w.length:=gQ.mp hb
     rw [e,this] at ha;exact KW _ ha⟩
  ·rw [T.ro x hx (λk hk z=>c ⟨k,hk,z⟩)];exact g.nod x
 have up:∀x y,y∈row w x→y∈row w' x:=λx y h=>(mem x (by have:=bI h;omega) y).mpr (.inl h)
 have con:∀x,x<w.length→Reach w' 0 x:=λx hx=>(g.con x hx).mono up;refine ⟨λx y h=>?_,λx h=>?_,λx=>?_,λx y h=>?_,λx hx=>?_⟩
 ·rw [T.l]
  by_cases c:x=w.length
  ·subst c
   obtain ⟨k,hk,rfl⟩:=(FE y).mp h
   have:=zlt k hk;omega
  ·rcases (mem x c y).mp h with h| ⟨h,_⟩
   ·have:=g.rng _ _ h;omega
   ·omega
 ·by_cases c:x=w.length
  ·subst c
   obtain ⟨k,hk,e⟩:=(FE _).mp h
   have:=zlt k hk;omega
  ·rcases (mem x c x).mp h with h| ⟨h,_⟩
   ·exact g.irr x h
   ·exact c h
 ·by_cases c:x=w.length
  ·subst c
   rw [T.rv];exact (List.reverse_perm _).nodup_iff.mpr (G.nd.sublist (List.take_sublist _ _))
  ·exact noR x c
 ·by_cases c:x=w.length
  ·subst c
   obtain ⟨k,hk,rfl⟩:=(FE y).mp h;exact (mem _ (by have:=zlt k hk;omega) _).mpr (.inr ⟨rfl,k,hk,rfl⟩)
  ·rcases (mem x c y).mp h with h| ⟨rfl,k,hk,rfl⟩
   ·exact up _ _ (g.sym _ _ h)
   ·exact (FE _).mpr ⟨k,hk,rfl⟩
 ·rw [T.l] at hx
  by_cases c:x=w.length
  ·subst c
   exact .step (con _ (zlt 0 (cH _))) ((mem _ (by have:=zlt 0 (cH _);omega) _).mpr (.inr ⟨rfl,0,cH _,rfl⟩))
  ·exact con x (by omega)
structure SF (w w':W) (R:List Nat) (f:Nat):Prop where
 z:∀k,k<R.length→R.getD k 0∈R
 zlt:∀k,k<R.length→R.getD k 0<w.length
 inj:∀i j,i<R.length→j<R.length→R.getD i 0=R.getD j 0→i=j
 dv:∀y,aQ w' (w.length,y)↔∃k,k≤f∧y=R.getD k 0
 dx:∀x,x≠w.length→∀y,aQ w' (x,y)↔aQ w (x,y)∨(y=w.length∧∃k,k≤f∧x=R.getD k 0)
 n1:∀x y,aQ w (x,y)→¬cz R x y→aZ w' (x,y)=aZ w (x,y)
 n1o:∀i,f≤i→i+1<R.length→aZ w' (R.getD i 0,R.getD (i+1) 0)=(R.getD (i+1) 0,af R (R.getD (i+1) 0))
 n1e:aZ w' (R.getD (R.length-1) 0,R.getD 0 0)=(R.getD 0 0,w.length)
 n2:∀k,k<f→aZ w' (R.getD k 0,R.getD (k+1) 0)=(R.getD (k+1) 0,w.length)
 n3:∀k,k<f→aZ w' (R.getD (k+1) 0,w.length)=(w.length,R.getD k 0)
 n3e:aZ w' (R.getD 0 0,w.length)=(w.length,R.getD f 0)
 n4:∀k,k≤f→aZ w' (w.length,R.getD k 0)=(R.getD k 0,af R (R.getD k 0))
theorem tO(G:cw w R)(T:Step w w' R f):SF w w' R f:=by
 have g:=G.g;have g':=qd G T;have fn:=T.fn;have f1:=T.f1;have zR:∀k,k<R.length→R.getD k 0∈R:=λk h=>az h;have zlt:∀k,k<R.length→R.getD k 0<w.length:=λk h=>bI (G.hd _ (zR k h)).1;have inj:∀i j,i<R.length→j<R.length→R.getD i 0=R.getD j 0→i=j:=λi j hi hj e=>getD_inj G.nd hi hj e;have KW:∀x,w.length∉row w x:=λx h=>iw _ (g.rng _ _ h);have sx:∀i,i+1<R.length→af R (R.getD i 0)=R.getD (i+1) 0:=λi h=>aE G.nd h;have se:af R (R.getD (R.length-1) 0)=R.getD 0 0:=ba G.nd (by omega)
 have HV:∀x,x∈(R.take (f+1)).reverse↔∃k,k≤f∧x=R.getD k 0:=λx=>by
  rw [pD]
  constructor
  ·intro h
   obtain ⟨i,hi,rfl⟩:=fM.mp h;rw [b8] at hi;exact ⟨i,by omega,by rw [sU,aL,bz (by omega)];rfl⟩
  ·rintro ⟨k,hk,rfl⟩
   refine fM.mpr ⟨k,by rw [b8];omega,?_⟩
   rw [sU,aL,bz (by omega)];rfl
 have dx:∀x,x≠w.length→∀y,aQ w' (x,y)↔aQ w (x,y)∨(y=w.length∧∃k,k≤f∧x=R.getD k 0):=λx hx y=>by
  show y∈row w' x↔y∈row w x∨_
  by_cases c:∃k,k≤f∧x=R.getD k 0
  ·obtain ⟨k,hk,rfl⟩:=c
   by_cases k0:k=0
   ·subst k0
    rw [T.r0,cv];exact ⟨λh=>h.elim (λz=> .inr ⟨z,0,hk,rfl⟩) .inl,λh=>h.elim .inr (λz=> .inl z.1)⟩
   ·rw [T.rk k (by omega) hk,dh,gQ]
    exact ⟨λh=>h.elim .inl (λz=> .inr ⟨z,k,hk,rfl⟩),λh=>h.elim .inl (λz=> .inr z.1)⟩
  ·rw [T.ro x hx (λk hk z=>c ⟨k,hk,z⟩)]
   exact ⟨.inl,λh=>h.elim id (λz=>absurd z.2 c)⟩
 have NM:∀k,k<R.length→(row w (R.getD k 0)).length≠0:=λk hk z=>by
  have:=(G.hd _ (zR k hk)).1
  rw [CZ.mp z] at this;cases this
 have s0:∀x,x∈row w (R.getD 0 0)→x≠(row w (R.getD 0 0)).getD ((row w (R.getD 0 0)).length-1) 0→af (row w' (R.getD 0 0)) x=af (row w (R.getD 0 0)) x:=λx h1 h2=>by
  rw [T.r0];exact ui (by rw [←T.r0];exact g'.nod _) h1 h2
 have sk:∀k,1≤k→k≤f→∀x,x∈row w (R.getD k 0)→x≠(row w (R.getD k 0)).getD ((row w (R.getD k 0)).length-1) 0→af (row w' (R.getD k 0)) x=af (row w (R.getD k 0)) x:=λk h1 h2 x h3 h4=>by
  rw [T.rk k h1 h2];exact uj (by rw [←T.rk k h1 h2];exact g'.nod _) h3 h4
 have lastOf:∀y∈R,∀x,x=(row w y).getD ((row w y).length-1) 0→cz R x y:=λy hy x e=>by
  have:=G.ls y hy
  rw [←e] at this;exact ⟨this.1,this.2.symm⟩
 have MG:∀k,1≤k→k≤f→af (row w' (R.getD k 0)) ((row w (R.getD k 0)).getD ((row w (R.getD k 0)).length-1) 0)=w.length:=λk h1 h2=>by
  have nd:=g'.nod (R.getD k 0);have ln:=NM k (by omega)
  rw [T.rk k h1 h2] at nd ⊢;have h:=aE (i:=(row w (R.getD k 0)).length-1) nd (by rw [cy,wD];omega)
  have e1:(row w (R.getD k 0)++ [w.length]).getD ((row w (R.getD k 0)).length-1) 0=(row w (R.getD k 0)).getD ((row w (R.getD k 0)).length-1) 0:=by
   rw [aL,eI (by omega),←aL]
  have e2:(row w (R.getD k 0)++ [w.length]).getD ((row w (R.getD k 0)).length-1+1) 0=w.length:=by
   rw [aL,f7 (by omega),show (row w (R.getD k 0)).length-1+1-(row w (R.getD k 0)).length=0 by omega];rfl
  rw [e1,e2] at h;exact h
 refine ⟨zR,zlt,inj,λy=>by show y∈row w' w.length↔_;rw [T.rv];exact HV y,dx,λx y hd n=>?_,λi h1 h2=>?_,?_,λk hk=>?_,λk hk=>?_,?_,λk hk=>?_⟩
 ·
  show (y,af (row w' y) x)=(y,af (row w y) x);have xy:x∈row w y:=g.sym _ _ hd
  by_cases c:∃k,k≤f∧y=R.getD k 0
  ·obtain ⟨k,hk,rfl⟩:=c
   have nl:x≠(row w (R.getD k 0)).getD ((row w (R.getD k 0)).length-1) 0:=λe=>n (lastOf _ (zR k (by omega)) x e)
   by_cases k0:k=0
   ·subst k0;rw [s0 x xy nl]
   ·rw [sk k (by omega) hk x xy nl]
  ·rw [T.ro y (by have:=g.rng _ _ hd;omega) (λk hk z=>c ⟨k,hk,z⟩)]
 ·
  have hm:=zR (i+1) h2;obtain ⟨e,ne⟩:=G.vf hm (zR i (by omega)) (sx i h2)
  show (_,af (row w' (R.getD (i+1) 0)) (R.getD i 0))=_;rw [T.ro _ (by have:=zlt (i+1) h2;omega) (λk hk z=>by have:=inj _ _ h2 (by omega) z;omega)]
  have e2:=ba (g.nod (R.getD (i+1) 0)) (i:=(row w (R.getD (i+1) 0)).length-1) (by omega)
  rw [e] at e2;rw [e2,(G.hd _ hm).2]
 ·
  have hm:=zR 0 (by omega)
  obtain ⟨e,ne⟩:=G.vf hm (zR (R.length-1) (by omega)) se
  show (_,af (row w' (R.getD 0 0)) (R.getD (R.length-1) 0))=_;rw [T.r0];have nd:=g'.nod (R.getD 0 0);rw [T.r0] at nd;have e2:=ba nd (i:=(row w (R.getD 0 0)).length) (by simp)
  have e3:(w.length::row w (R.getD 0 0)).getD (row w (R.getD 0 0)).length 0=R.getD (R.length-1) 0:=by
   rw [←e,show (row w (R.getD 0 0)).length=(row w (R.getD 0 0)).length-1+1 by omega,mj];simp
  rw [e3] at e2;rw [e2];rfl
 ·
  have hm:=zR (k+1) (by omega)
  obtain ⟨e,ne⟩:=G.vf hm (zR k (by omega)) (sx k (by omega))
  show (_,af (row w' (R.getD (k+1) 0)) (R.getD k 0))=_
  have:=MG (k+1) (by omega) (by omega)
  rw [e] at this;rw [this]
 ·
  show (_,af (row w' w.length) (R.getD (k+1) 0))=_;have nd:=g'.nod w.length;rw [T.rv] at nd ⊢;have l:(R.take (f+1)).reverse.length=f+1:=by rw [y9,b8];omega
  have h:=aE (i:=f-(k+1)) nd (by omega)
  rw [eO fn (by omega),show f-(k+1)+1=f-k by omega,eO fn (by omega)] at h
  rw [h]
 ·
  show (_,af (row w' w.length) (R.getD 0 0))=_;have nd:=g'.nod w.length;rw [T.rv] at nd ⊢;have l:(R.take (f+1)).reverse.length=f+1:=by rw [y9,b8];omega
  have h:=ba nd (i:=f) (by omega)
  have e0:=eO fn (cH f);have e1:=eO fn (bC f);rw [Nat.sub_zero] at e0;rw [jQ] at e1;rw [e0,e1] at h;rw [h]
 ·
  have hm:=zR k (by omega)
  show (_,af (row w' (R.getD k 0)) w.length)=_;have nd:=g'.nod (R.getD k 0);have ln:=NM k (by omega)
  by_cases k0:k=0
  ·subst k0
   rw [T.r0] at nd ⊢;have h:=aE (i:=0) nd (by rw [dB];omega)
   rw [List.getD_cons_zero,mj,(G.hd _ hm).2] at h;rw [h]
  ·rw [T.rk k (by omega) hk] at nd ⊢
   have h:=ba nd (i:=(row w (R.getD k 0)).length) (by simp)
   have e1:(row w (R.getD k 0)++ [w.length]).getD (row w (R.getD k 0)).length 0=w.length:=by
    rw [aL,f7 (bC _),jQ];rfl
   have e2:(row w (R.getD k 0)++ [w.length]).getD 0 0=(row w (R.getD k 0)).getD 0 0:=by
    rw [aL,eI (by omega),←aL]
   rw [e1,e2,(G.hd _ hm).2] at h;rw [h]
end
end Wb
set_option maxHeartbeats 2000000
namespace Wb
section
variable {w w':W} {R:List Nat} {f:Nat}
structure HQ (w:W) (R:List Nat) (f:Nat):Prop where
 nd:(cc R f w.length).Nodup
 len:(cc R f w.length).length+f=R.length+2
 mem:∀x,x∈cc R f w.length↔x=R.getD 0 0∨x=w.length∨∃i,f≤i∧i<R.length∧x=R.getD i 0
 s0:af (cc R f w.length) (R.getD 0 0)=w.length
 sv:af (cc R f w.length) w.length=R.getD f 0
 si:∀i,f≤i→i<R.length→af (cc R f w.length) (R.getD i 0)=af R (R.getD i 0)
theorem EE(G:cw w R)(T:Step w w' R f):HQ w R f:=by
 have fn:=T.fn;have f1:=T.f1;have zR:∀k,k<R.length→R.getD k 0∈R:=λk h=>az h;have zlt:∀k,k<R.length→R.getD k 0<w.length:=λk h=>bI (G.hd _ (zR k h)).1;have inj:∀i j,i<R.length→j<R.length→R.getD i 0=R.getD j 0→i=j:=λi j hi hj e=>getD_inj G.nd hi hj e
 have dm:∀x,x∈R.drop f↔∃i,f≤i∧i<R.length∧x=R.getD i 0:=λx=>by
  constructor
  ·intro h
   obtain ⟨i,hi,rfl⟩:=fM.mp h;rw [dY] at hi;exact ⟨f+i,by omega,by omega,by rw [List.getElem_drop,aL,bz (by omega)];rfl⟩
  ·rintro ⟨i,h1,h2,rfl⟩
   refine fM.mpr ⟨i-f,by rw [dY];omega,?_⟩
   rw [List.getElem_drop,aL,bz h2];simp only [show f+(i-f)=i by omega];rfl
 have nd:(cc R f w.length).Nodup:=by
  unfold cc;refine gS.mpr ⟨λh=>?_,gS.mpr ⟨λh=>?_,G.nd.sublist (List.drop_sublist _ _)⟩⟩
  ·rcases cv.mp h with h|h
   ·have:=zlt 0 (by omega);omega
   ·obtain ⟨i,h1,h2,e⟩:=(dm _).mp h
    have:=inj 0 i (by omega) h2 e;omega
  ·obtain ⟨i,h1,h2,e⟩:=(dm _).mp h
   have:=zlt i h2;omega
 have len:(cc R f w.length).length=R.length-f+2:=by unfold cc;simp
 have get:∀i,f≤i→i<R.length→(cc R f w.length).getD (i-f+2) 0=R.getD i 0:=λi h1 h2=>by
  unfold cc;rw [mj,mj,aL,pz,show f+(i-f)=i by omega,←aL]
 have g0:(cc R f w.length).getD 0 0=R.getD 0 0:=rfl;have g1:(cc R f w.length).getD 1 0=w.length:=rfl;refine ⟨nd,by omega,λx=>?_,?_,?_,λi h1 h2=>?_⟩
 ·unfold cc
  rw [cv,cv,dm]
 ·have:=aE nd (i:=0) (by omega)
  rw [g0] at this;exact this
 ·have:=aE nd (i:=1) (by omega)
  have e:=get f (bC _) fn;rw [jQ] at e;rw [g1] at this;rw [this];exact e
 ·by_cases c:i+1<R.length
  ·have:=aE nd (i:=i-f+2) (by omega)
   have e:=get (i+1) (by omega) c
   rw [get i h1 h2,show i-f+2+1=i+1-f+2 by omega,e] at this
   rw [this,aE G.nd c]
  ·have:=ba nd (i:=i-f+2) (by omega)
   rw [get i h1 h2,g0] at this;rw [this,ba G.nd (by omega)]
theorem HQ.cz(F:HQ w R f){x y:Nat}(h:cz (cc R f w.length) x y):(x=R.getD 0 0∧y=w.length)∨(x=w.length∧y=R.getD f 0)∨∃i,f≤i∧i<R.length∧x=R.getD i 0∧y=af R (R.getD i 0):=by
 obtain ⟨hx,e⟩:=h
 rcases (F.mem x).mp hx with rfl|rfl| ⟨i,h1,h2,rfl⟩
 ·exact .inl ⟨rfl,by rw [e,F.s0]⟩
 ·exact .inr (.inl ⟨rfl,by rw [e,F.sv]⟩)
 ·exact .inr (.inr ⟨i,h1,h2,rfl,by rw [e,F.si i h1 h2]⟩)
open Classical in
theorem Hz(G:cw w R)(T:Step w w' R f):oF w':=by
 have g:=G.g;have g':=qd G T;have fn:=T.fn;have f1:=T.f1;have K:=tO G T;have len:=G.len;have zlt:=K.zlt;have oP:∀k,k<R.length→R.getD k 0≠w.length:=λk h=>by have:=zlt k h;omega
 have sx:∀i,i+1<R.length→af R (R.getD i 0)=R.getD (i+1) 0:=λi h=>aE G.nd h;have se:af R (R.getD (R.length-1) 0)=R.getD 0 0:=ba G.nd (by omega)
 intro c sy ev
 let s:Nat→Bool:=λk=>par (λi=>c w.length (R.getD i 0)) (List.range (k+1))
 let sp:Nat→Bool:=λk=>match k with|0=>false|k+1=>s k
 have ss:∀k,s (k+1)=(s k).xor (c w.length (R.getD (k+1) 0)):=λk=>by
  show par _ (List.range (k+1+1))=_;rw [tY,kv];show (s k).xor ((c w.length (R.getD (k+1) 0)).xor false)=_;rw [wA]
 have s0:s 0=c w.length (R.getD 0 0):=by
  show (c w.length (R.getD 0 0)).xor false=_;rw [wA]
 have K8:R.take (f+1)=(List.range (f+1)).map λi=>R.getD i 0:=by
  refine List.ext_getElem (by rw [b8,aI,iu];omega) λi h1 h2=>?_
  rw [b8] at h1;rw [sU,List.getElem_map,List.getElem_range,aL,bz (by omega)];rfl
 have qS:∀(h:Nat→Bool)(φ:Nat→Nat)(l:List Nat),par h (l.map φ)=par (λi=>h (φ i)) l:=λh φ l=>by
  induction l with
  |nil=>rfl
  |cons a l ih=>rw [gL,par,par,ih]
 have sf:s f=false:=by
  have:=ev w.length (by rw [T.l];omega)
  rw [T.rv,Cf,K8,qS] at this;exact this
 let de:Nat→Nat→Bool:=λx y=>decide (∃k,k<f∧x=R.getD k 0∧y=R.getD (k+1) 0∧s k=true)
 have ON:∀k,k<f→∀y,de (R.getD k 0) y=(decide (y=R.getD (k+1) 0)&&s k):=λk hk y=>by
  show decide _=_
  by_cases c1:y=R.getD (k+1) 0
  ·cases hs:s k with
   |true=>rw [decide_eq_true ⟨k,hk,rfl,c1,hs⟩,decide_eq_true c1];rfl
   |false=>
    rw [Bool.and_false];refine decide_eq_false ?_;rintro ⟨j,hj,e,_,h⟩
    have:=K.inj k j (by omega) (by omega) e
    subst this;rw [hs] at h;cases h
  ·rw [decide_eq_false c1,wz]
   refine decide_eq_false ?_;rintro ⟨j,hj,e,e2,h⟩
   have:=K.inj k j (by omega) (by omega) e
   subst this;exact c1 e2
 have Sw:∀k,k<f→∀x,de x (R.getD (k+1) 0)=(decide (x=R.getD k 0)&&s k):=λk hk x=>by
  show decide _=_
  by_cases c1:x=R.getD k 0
  ·cases hs:s k with
   |true=>rw [decide_eq_true ⟨k,hk,c1,rfl,hs⟩,decide_eq_true c1];rfl
   |false=>
    rw [Bool.and_false];refine decide_eq_false ?_;rintro ⟨j,hj,_,e,h⟩
    have:=K.inj (k+1) (j+1) (by omega) (by omega) e
    have:k=j:=by omega
    subst this;rw [hs] at h;cases h
  ·rw [decide_eq_false c1,wz]
   refine decide_eq_false ?_;rintro ⟨j,hj,e2,e,h⟩
   have:=K.inj (k+1) (j+1) (by omega) (by omega) e
   have:k=j:=by omega
   subst this;exact c1 e2
 have Su:∀x y,(∀k,k<f→x≠R.getD k 0)→de x y=false:=λx y h=>decide_eq_false λ⟨k,hk,e,_⟩=>h k hk e;have Sv:∀x y,(∀k,k<f→y≠R.getD (k+1) 0)→de x y=false:=λx y h=>decide_eq_false λ⟨k,hk,_,e,_⟩=>h k hk e
 have tie:∀k,k+1<R.length→R.getD (k+1) 0∈row w (R.getD k 0):=λk hk=>by
  have:=(G.hd _ (K.z k (by omega))).1
  rw [sx k hk] at this;exact this
 obtain ⟨S,SF,SC⟩:=G.bnd (λx y=>((c x y).xor (de x y)).xor (de y x)) (λx y=>by
   show ((c x y).xor (de x y)).xor (de y x)=((c y x).xor (de y x)).xor (de x y);rw [sy x y];cases c y x<;>cases de x y<;>cases de y x<;>rfl) (λp hp=>by
   have e:par (λy=>((c p y).xor (de p y)).xor (de y p)) (row w p)=((par (c p) (row w p)).xor (par (de p) (row w p))).xor (par (λy=>de y p) (row w p)):=by
    rw [qT (λy=>(c p y).xor (de p y)) (λy=>de y p),qT (c p) (de p)]
   rw [e];have BH:=ev p (by rw [T.l];omega)
   by_cases hk:∃k,k≤f∧p=R.getD k 0
   ·obtain ⟨k,hk,rfl⟩:=hk
    have hc:par (c (R.getD k 0)) (row w (R.getD k 0))=c w.length (R.getD k 0):=by
     by_cases k0:k=0
     ·subst k0
      rw [T.r0,par] at BH;rw [sy w.length];cases h1:c (R.getD 0 0) w.length<;>cases h2:par (c (R.getD 0 0)) (row w (R.getD 0 0))<;>rw [h1,h2] at BH<;>simp at BH ⊢
     ·rw [T.rk k (by omega) hk,kv,par,par,wA] at BH
      rw [sy w.length];cases h1:c (R.getD k 0) w.length<;>cases h2:par (c (R.getD k 0)) (row w (R.getD k 0))<;>rw [h1,h2] at BH<;>simp at BH ⊢
    have h1:par (de (R.getD k 0)) (row w (R.getD k 0))=if k<f then s k else false:=by
     by_cases kf:k<f
     ·rw [if_pos kf,lA (λy _=>ON k kf y)]
      exact nu (g.nod _) (tie k (by omega))
     ·rw [if_neg kf]
      exact g7 λy _=>Su _ _ λj hj e=>by have:=K.inj k j (by omega) (by omega) e;omega
    have h2:par (λy=>de y (R.getD k 0)) (row w (R.getD k 0))=sp k:=by
     cases k with
     |zero=>exact g7 λy _=>Sv _ _ λj hj e=>by have:=K.inj 0 (j+1) (by omega) (by omega) e;omega
     |succ k=>
      rw [lA (λy _=>Sw k (by omega) y)]
      exact nu (g.nod _) (g.sym _ _ (tie k (by omega)))
    rw [hc,h1,h2];cases k with
    |zero=>
     rw [if_pos (by omega),s0]
     show ((c w.length (R.getD 0 0)).xor _).xor false=false;rw [Bool.xor_self];rfl
    |succ k=>
     show (_:Bool).xor (s k)=false
     by_cases kf:k+1<f
     ·rw [if_pos kf,ss k]
      cases s k<;>cases c w.length (R.getD (k+1) 0)<;>rfl
     ·rw [if_neg kf]
      have:k+1=f:=by omega
      have h:=ss k;rw [this,sf] at h;rw [this];cases h1:s k<;>cases h2:c w.length (R.getD f 0)<;>rw [h1,h2] at h<;>simp at h ⊢
   ·have n1:∀k,k≤f→p≠R.getD k 0:=λk h z=>hk ⟨k,h,z⟩
    rw [T.ro p (by omega) n1] at BH
    rw [BH,g7 λy _=>Su p y λk h=>n1 k (by omega),g7 λy _=>Sv y p λk h=>n1 (k+1) (by omega)]
    rfl)
 have ya:∀i,i<R.length→S (R.getD i 0,af R (R.getD i 0))=S (R.getD 0 0,af R (R.getD 0 0)):=by
  intro i
  induction i with
  |zero=>intro _;rfl
  |succ i ih=>
   intro h;rw [←ih (by omega)]
   have d:aQ w (R.getD i 0,af R (R.getD i 0)):=(G.hd _ (K.z i (by omega))).1
   rw [SF _ d,G.outer ⟨K.z i (by omega),rfl⟩,sx i h]
 generalize ho:S (R.getD 0 0,af R (R.getD 0 0))=o at ya
 let ix:Nat→Nat:=λx=>R.idxOf x
 have PU:∀k,k<R.length→ix (R.getD k 0)=k:=λk hk=>by
  show R.idxOf _=k;rw [aL,bz hk];exact G.nd.idxOf_getElem k hk
 let U:Nat×Nat→Bool:=λd=>if d.1=w.length then o.xor (s (ix d.2)) else if d.2=w.length then o.xor (sp (ix d.1)) else if ∃k,k<f∧d.1=R.getD k 0∧d.2=R.getD (k+1) 0 then o.xor (s (ix d.1)) else S d
 have Uv:∀k,k≤f→U (w.length,R.getD k 0)=o.xor (s k):=λk hk=>by
  show (if w.length=w.length then o.xor (s (ix (R.getD k 0))) else _)=_;rw [if_pos rfl,PU k (by omega)]
 have Ux:∀k,k≤f→U (R.getD k 0,w.length)=o.xor (sp k):=λk hk=>by
  show (if R.getD k 0=w.length then _ else if w.length=w.length then o.xor (sp (ix (R.getD k 0))) else _)=_;rw [if_neg (oP k (by omega)),if_pos rfl,PU k (by omega)]
 have Ua:∀k,k<f→U (R.getD k 0,R.getD (k+1) 0)=o.xor (s k):=λk hk=>by
  show (if R.getD k 0=w.length then _ else if R.getD (k+1) 0=w.length then _ else if _ then o.xor (s (ix (R.getD k 0))) else _)=_;rw [if_neg (oP k (by omega)),if_neg (oP (k+1) (by omega)),if_pos ⟨k,hk,rfl,rfl⟩,PU k (by omega)]
 have Uo:∀x y,x≠w.length→y≠w.length→(∀k,k<f→x=R.getD k 0→y≠R.getD (k+1) 0)→U (x,y)=S (x,y):=λx y h1 h2 h3=>by
  show (if x=w.length then _ else if y=w.length then _ else if _ then _ else S (x,y))=_;rw [if_neg h1,if_neg h2,if_neg (λ⟨k,hk,e1,e2⟩=>h3 k hk e1 e2)]
 have Ve:∀b:Bool,b.xor false=b:=wA;refine ⟨U,λd hd=>?_,λx y hd=>?_⟩
 ·obtain ⟨x,y⟩:=d
  by_cases xv:x=w.length
  ·subst xv
   obtain ⟨k,hk,rfl⟩:=(K.dv y).mp hd;rw [K.n4 k hk,Uv k hk]
   by_cases kf:k<f
   ·rw [sx k (by omega),Ua k kf]
   ·have:k=f:=by omega
    subst this
    rw [Uo _ _ (oP k (by omega)) (by
     have:=bf (K.z k (by omega))
     have:=bI (G.hd _ this).1
     omega) (λj hj e=>by have:=K.inj k j (by omega) (by omega) e;omega),ya k (by omega),sf,Ve]
  ·by_cases yv:y=w.length
   ·subst yv
    rcases (K.dx x xv _).mp hd with h| ⟨_,k,hk,rfl⟩
    ·exact absurd (g.rng _ _ h) (iw _)
    ·cases k with
     |zero=>
      rw [K.n3e,Ux 0 hk,Uv f (bC _),sf]
     |succ k=>
      rw [K.n3 k (by omega),Ux (k+1) hk,Uv k (by omega)]
   ·have d0:aQ w (x,y):=by
     rcases (K.dx x xv y).mp hd with h| ⟨h,_⟩
     ·exact h
     ·exact absurd h yv
    by_cases ad:cz R x y
    ·obtain ⟨hx,rfl⟩:=ad
     obtain ⟨i,hi,rfl⟩:∃i,i<R.length∧x=R.getD i 0:=by
      obtain ⟨i,hi,e⟩:=fM.mp hx;exact ⟨i,hi,by rw [aL,bz hi];exact e.symm⟩
     by_cases c1:i<f
     ·rw [sx i (by omega),K.n2 i c1,Ua i c1,Ux (i+1) (by omega)]
     ·have u1:U (R.getD i 0,af R (R.getD i 0))=o:=by
       rw [Uo _ _ xv yv (λj hj e=>by have:=K.inj i j (by omega) (by omega) e;omega),ya i hi]
      rw [u1]
      by_cases c2:i+1<R.length
      ·rw [sx i c2,K.n1o i (by omega) c2,Uo _ _ (oP _ c2) (by
        have:=bf (K.z (i+1) c2)
        have:=bI (G.hd _ this).1
        omega) (λj hj e=>by have:=K.inj (i+1) j (by omega) (by omega) e;omega),ya (i+1) c2]
      ·have:i=R.length-1:=by omega
       subst this;rw [se,K.n1e,Ux 0 (cH _)];exact (Ve o).symm
    ·have e:=K.n1 x y d0 ad
     have tr:=(G.tri x y d0 ad).2;have dn:=fB g d0
     have lo:∀p q,aQ w (p,q)→¬cz R p q→U (p,q)=S (p,q):=λp q h1 h2=>by
      have a1:=bI (show q∈row w p from h1);have a2:=g.rng _ _ (show q∈row w p from h1);exact Uo p q (by omega) (by omega) λk hk e1 e2=>h2 ⟨by rw [e1];exact K.z k (by omega),by rw [e1,e2,sx k (by omega)]⟩
     rw [e,lo x y d0 ad,SF _ d0];exact (lo _ _ dn tr).symm
 ·by_cases xv:x=w.length
  ·subst xv
   obtain ⟨k,hk,rfl⟩:=(K.dv y).mp hd;rw [Uv k hk,Ux k hk];cases k with
   |zero=>
    rw [s0];show (o.xor _).xor (o.xor false)=_;cases o<;>cases c w.length (R.getD 0 0)<;>rfl
   |succ k=>
    rw [ss k];show (o.xor _).xor (o.xor (s k))=_;cases o<;>cases s k<;>cases c w.length (R.getD (k+1) 0)<;>rfl
  ·by_cases yv:y=w.length
   ·subst yv
    rcases (K.dx x xv _).mp hd with h| ⟨_,k,hk,rfl⟩
    ·exact absurd (g.rng _ _ h) (iw _)
    ·rw [Uv k hk,Ux k hk,sy]
     cases k with
     |zero=>
      rw [s0];show (o.xor false).xor (o.xor _)=_;cases o<;>cases c w.length (R.getD 0 0)<;>rfl
     |succ k=>
      rw [ss k];show (o.xor (s k)).xor (o.xor _)=_;cases o<;>cases s k<;>cases c w.length (R.getD (k+1) 0)<;>rfl
   ·have d0:aQ w (x,y):=by
     rcases (K.dx x xv y).mp hd with h| ⟨h,_⟩
     ·exact h
     ·exact absurd h yv
    have sc:=SC x y d0
    by_cases a1:∃k,k<f∧x=R.getD k 0∧y=R.getD (k+1) 0
    ·obtain ⟨k,hk,rfl,rfl⟩:=a1
     have e1:S (R.getD k 0,R.getD (k+1) 0)=o:=by rw [←sx k (by omega)];exact ya k (by omega)
     have e2:de (R.getD k 0) (R.getD (k+1) 0)=s k:=by rw [ON k hk];simp
     have e3:de (R.getD (k+1) 0) (R.getD k 0)=false:=decide_eq_false λ⟨j,hj,e,e',_⟩=>by
      have:=K.inj (k+1) j (by omega) (by omega) e
      have:=K.inj k (j+1) (by omega) (by omega) e'
      omega
     rw [Ua k hk,Uo _ _ (oP (k+1) (by omega)) (oP k (by omega)) (λj hj e e'=>by
      have:=K.inj (k+1) j (by omega) (by omega) e
      have:=K.inj k (j+1) (by omega) (by omega) e'
      omega)]
     rw [e1,e2,e3] at sc
     revert sc
     cases o<;>cases s k<;>cases S (R.getD (k+1) 0,R.getD k 0)<;>cases c (R.getD k 0) (R.getD (k+1) 0)<;>simp
    ·by_cases a2:∃k,k<f∧y=R.getD k 0∧x=R.getD (k+1) 0
     ·obtain ⟨k,hk,rfl,rfl⟩:=a2
      have e1:S (R.getD k 0,R.getD (k+1) 0)=o:=by rw [←sx k (by omega)];exact ya k (by omega)
      have e2:de (R.getD k 0) (R.getD (k+1) 0)=s k:=by rw [ON k hk];simp
      have e3:de (R.getD (k+1) 0) (R.getD k 0)=false:=decide_eq_false λ⟨j,hj,e,e',_⟩=>by
       have:=K.inj (k+1) j (by omega) (by omega) e
       have:=K.inj k (j+1) (by omega) (by omega) e'
       omega
      rw [Ua k hk,Uo _ _ (oP (k+1) (by omega)) (oP k (by omega)) (λj hj e e'=>a1 ⟨j,hj,e,e'⟩)]
      rw [e1,e2,e3] at sc
      revert sc
      cases o<;>cases s k<;>cases S (R.getD (k+1) 0,R.getD k 0)<;>cases c (R.getD (k+1) 0) (R.getD k 0)<;>simp
     ·have e2:de x y=false:=decide_eq_false λ⟨j,hj,e,e',_⟩=>a1 ⟨j,hj,e,e'⟩
      have e3:de y x=false:=decide_eq_false λ⟨j,hj,e,e',_⟩=>a2 ⟨j,hj,e,e'⟩;rw [Uo x y xv yv (λj hj e e'=>a1 ⟨j,hj,e,e'⟩),Uo y x yv xv (λj hj e e'=>a2 ⟨j,hj,e,e'⟩),sc,e2,e3];simp
theorem CJ(G:cw w R)(T:Step w w' R f):cw w' (cc R f w.length):=by
 have g:=G.g;have g':=qd G T;have fn:=T.fn;have f1:=T.f1;have K:=tO G T;have F:=EE G T;have len:=G.len;have oP:∀k,k<R.length→R.getD k 0≠w.length:=λk h=>by have:=K.zlt k h;omega
 have sx:∀i,i+1<R.length→af R (R.getD i 0)=R.getD (i+1) 0:=λi h=>aE G.nd h;have se:af R (R.getD (R.length-1) 0)=R.getD 0 0:=ba G.nd (by omega)
 have NI:∀k,k<R.length→(row w (R.getD k 0)).length≠0:=λk hk z=>by
  have:=(G.hd _ (K.z k hk)).1
  rw [CZ.mp z] at this;cases this
 have rvl:(R.take (f+1)).reverse.length=f+1:=by rw [y9,b8];omega
 have e0:=eO fn (cH f);have ef:=eO fn (bC f);rw [Nat.sub_zero] at e0;rw [jQ] at ef;have m0:R.getD 0 0∈cc R f w.length:=(F.mem _).mpr (.inl rfl);have mv:w.length∈cc R f w.length:=(F.mem _).mpr (.inr (.inl rfl));have mi:∀i,f≤i→i<R.length→R.getD i 0∈cc R f w.length:=λi h1 h2=>(F.mem _).mpr (.inr (.inr ⟨i,h1,h2,rfl⟩));have FW:∀i,f<i→i<R.length→row w' (R.getD i 0)=row w (R.getD i 0):=λi h1 h2=>T.ro _ (oP i h2) λk hk e=>by have:=K.inj i k h2 (by omega) e;omega
 refine ⟨g',F.nd,by have:=F.len;omega,λx hx=>?_,λx hx=>?_,λx y hd n=>?_,Hz G T⟩
 ·rcases (F.mem x).mp hx with rfl|rfl| ⟨i,h1,h2,rfl⟩
  ·rw [F.s0,T.r0]
   exact ⟨cD ..,rfl⟩
  ·rw [F.sv,T.rv]
   exact ⟨by rw [←ef];exact az (by omega),ef⟩
  ·rw [F.si i h1 h2]
   have h:=G.hd _ (K.z i h2)
   by_cases c:i=f
   ·subst c
    rw [T.rk i f1 (bC _)];refine ⟨fL _ h.1,?_⟩;rw [aL,eI (by have:=NI i h2;omega),←aL]
    exact h.2
   ·rw [FW i (by omega) h2];exact h
 ·rcases (F.mem x).mp hx with rfl|rfl| ⟨i,h1,h2,rfl⟩
  ·have h:=G.ls _ (K.z 0 (by omega))
   have el:(row w' (R.getD 0 0)).getD ((row w' (R.getD 0 0)).length-1) 0=R.getD (R.length-1) 0:=by
    have l0:=NI 0 (by omega)
    rw [T.r0,dB,show (row w (R.getD 0 0)).length+1-1=(row w (R.getD 0 0)).length-1+1 by omega,mj]
    exact cZ G.nd h.1 (K.z _ (by omega)) (by rw [h.2,se])
   rw [el];exact ⟨mi _ (by omega) (by omega),by rw [F.si _ (by omega) (by omega),se]⟩
  ·rw [T.rv,rvl,show f+1-1=f by omega,e0]
   exact ⟨m0,F.s0⟩
  ·by_cases c:i=f
   ·subst c
    have el:(row w' (R.getD i 0)).getD ((row w' (R.getD i 0)).length-1) 0=w.length:=by
     rw [T.rk i f1 (bC _),cy,wD,Nat.add_sub_cancel,aL,f7 (bC _),jQ];rfl
    rw [el];exact ⟨mv,F.sv⟩
   ·obtain ⟨e,ne⟩:=G.vf (K.z i h2) (K.z (i-1) (by omega)) (by rw [sx (i-1) (by omega),show i-1+1=i by omega])
    rw [FW i (by omega) h2,e]
    refine ⟨mi _ (by omega) (by omega),?_⟩
    rw [F.si _ (by omega) (by omega),sx (i-1) (by omega),show i-1+1=i by omega]
 ·by_cases xv:x=w.length
  ·subst xv
   obtain ⟨k,hk,rfl⟩:=(K.dv y).mp hd
   have kf:k<f:=by
    apply Classical.byContradiction;intro c
    have:k=f:=by omega
    subst this;exact n ⟨mv,F.sv.symm⟩
   have e1:=K.n4 k hk;rw [sx k (by omega)] at e1
   rw [e1,K.n2 k kf,K.n3 k kf];refine ⟨rfl,λz=>?_⟩
   rcases F.cz z with ⟨_,h⟩ | ⟨h,_⟩ | ⟨i,h1,h2,h3,_⟩
   ·exact oP (k+1) (by omega) h
   ·exact oP k (by omega) h
   ·have:=K.inj k i (by omega) h2 h3;omega
  ·by_cases yv:y=w.length
   ·subst yv
    rcases (K.dx x xv _).mp hd with h| ⟨_,k,hk,rfl⟩
    ·exact absurd (g.rng _ _ h) (iw _)
    ·cases k with
     |zero=>exact absurd ⟨m0,F.s0.symm⟩ n
     |succ k=>
      have e4:=K.n4 k (by omega)
      rw [sx k (by omega)] at e4
      rw [K.n3 k (by omega),e4,K.n2 k (by omega)]
      refine ⟨rfl,λz=>?_⟩
      rcases F.cz z with ⟨h,_⟩ | ⟨_,h⟩ | ⟨i,h1,h2,h3,_⟩
      ·exact oP 0 (by omega) h.symm
      ·have:=K.inj k f (by omega) fn h;omega
      ·exact oP i h2 h3.symm
   ·have d0:aQ w (x,y):=by
     rcases (K.dx x xv y).mp hd with h| ⟨h,_⟩
     ·exact h
     ·exact absurd h yv
    by_cases ad:cz R x y
    ·obtain ⟨hx,rfl⟩:=ad
     obtain ⟨i,hi,rfl⟩:∃i,i<R.length∧x=R.getD i 0:=by
      obtain ⟨i,hi,e⟩:=fM.mp hx;exact ⟨i,hi,by rw [aL,bz hi];exact e.symm⟩
     have c1:i<f:=by
      apply Classical.byContradiction;intro c;exact n ⟨mi i (by omega) hi,(F.si i (by omega) hi).symm⟩
     have e4:=K.n4 i (by omega)
     rw [sx i (by omega)] at e4
     rw [sx i (by omega),K.n2 i c1,K.n3 i c1,e4]
     refine ⟨rfl,λz=>?_⟩
     rcases F.cz z with ⟨h,_⟩ | ⟨h,_⟩ | ⟨j,h1,h2,_,h4⟩
     ·have:=K.inj (i+1) 0 (by omega) (by omega) h;omega
     ·exact oP (i+1) (by omega) h
     ·have:=bf (K.z j h2)
      have:=bI (G.hd _ this).1
      have h4:w.length=af R (R.getD j 0):=h4;omega
    ·have step:∀p q,aQ w (p,q)→¬cz R p q→aZ w' (p,q)=aZ w (p,q):=λp q h1 h2=>K.n1 p q h1 h2
     have t1:=G.tri x y d0 ad;have d1:=fB g d0;have t2:=G.tri _ _ d1 t1.2;have d2:=fB g d1;have e1:=step x y d0 ad;have e2:aZ w' (aZ w (x,y))=aZ w (aZ w (x,y)):=step _ _ d1 t1.2;have e3:aZ w' (aZ w (aZ w (x,y)))=aZ w (aZ w (aZ w (x,y))):=step _ _ d2 t2.2;rw [e1,e2,e3];refine ⟨t1.1,λz=>?_⟩;have b1:=bI (show (aZ w (x,y)).2∈row w (aZ w (x,y)).1 from d1);have b2:=g.rng _ _ (show (aZ w (x,y)).2∈row w (aZ w (x,y)).1 from d1)
     rcases F.cz z with ⟨_,h⟩ | ⟨h,_⟩ | ⟨i,h1,h2,h3,h4⟩
     ·omega
     ·omega
     ·exact t1.2 ⟨by rw [h3];exact K.z i h2,by rw [h4,←h3]⟩
theorem zz:cw [[1,2],[2,0],[0,1]] [0,1,2]:=by
 have FV:row [[1,2],[2,0],[0,1]] 0= [1,2]:=rfl;have NU:row [[1,2],[2,0],[0,1]] 1= [2,0]:=rfl;have VH:row [[1,2],[2,0],[0,1]] 2= [0,1]:=rfl;have FW:∀x,3≤x→row [[1,2],[2,0],[0,1]] x= []:=λx h=>Cu h;have c3:∀x,x<3→x=0∨x=1∨x=2:=λx h=>by omega
 have rl:∀{x y},y∈row [[1,2],[2,0],[0,1]] x→x<3:=λh=>bI h;have dec:∀x,x<3→∀y,y<3→(y∈row [[1,2],[2,0],[0,1]] x↔x≠y):=by decide
 have inR:∀{x y},y∈row [[1,2],[2,0],[0,1]] x→y<3:=λ {x y} h=>by
  rcases c3 x (rl h) with rfl|rfl|rfl
  ·rw [FV] at h;simp at h;omega
  ·rw [NU] at h;simp at h;omega
  ·rw [VH] at h;simp at h;omega
 have g:Good [[1,2],[2,0],[0,1]]:=by
  refine ⟨λp q h=>inR h,λp h=>?_,λp=>?_,λp q h=>?_,λp hp=>?_⟩
  ·exact ((dec p (rl h) p (rl h)).mp h) rfl
  ·by_cases c:p<3
   ·rcases c3 p c with rfl|rfl|rfl<;>decide
   ·rw [FW p (by omega)];exact mw
  ·have a:=rl h
   have b:=inR h;exact (dec q b p a).mpr (Ne.symm ((dec p a q b).mp h))
  ·rcases c3 p hp with rfl|rfl|rfl
   ·exact .refl _
   ·exact .step (.refl _) (by rw [FV];simp)
   ·exact .step (.refl _) (by rw [FV];simp)
 have zq:∀x y,aQ [[1,2],[2,0],[0,1]] (x,y)→(x,y)∈ [(0,1),(1,2),(2,0),(1,0),(0,2),(2,1)]:=λx y h=>by
  have a:=rl h;have b:=inR h;have n:=(dec x a y b).mp h
  rcases c3 x a with rfl|rfl|rfl<;>rcases c3 y b with rfl|rfl|rfl<;>first|exact absurd rfl n|decide
 have sc:af [0,1,2] 0=1∧af [0,1,2] 1=2∧af [0,1,2] 2=0:=by decide
 refine ⟨g,by decide,by decide,by decide,by decide,λx y hd n=>?_,?_⟩
 ·have hm:=zq x y hd
  simp only [cv,Prod.mk.injEq,wL,or_false] at hm
  rcases hm with ⟨rfl,rfl⟩ | ⟨rfl,rfl⟩ | ⟨rfl,rfl⟩ | ⟨rfl,rfl⟩ | ⟨rfl,rfl⟩ | ⟨rfl,rfl⟩
  ·exact absurd ⟨by simp,sc.1.symm⟩ n
  ·exact absurd ⟨by simp,sc.2.1.symm⟩ n
  ·exact absurd ⟨by simp,sc.2.2.symm⟩ n
  ·exact ⟨by decide,λz=>by have h:=z.2;revert h;decide⟩
  ·exact ⟨by decide,λz=>by have h:=z.2;revert h;decide⟩
  ·exact ⟨by decide,λz=>by have h:=z.2;revert h;decide⟩
 ·intro c sy ev
  have h0:=ev 0 (by decide)
  have h1:=ev 1 (by decide)
  rw [FV] at h0;rw [NU] at h1;simp only [par,wA] at h0 h1;refine ⟨λd=>decide (d=(1,0)∨d=(0,2)∨d=(2,1))&&c 0 1,λd hd=>?_,λx y hd=>?_⟩
  ·obtain ⟨x,y⟩:=d
   have hm:=zq x y hd;simp only [cv,Prod.mk.injEq,wL,or_false] at hm
   rcases hm with ⟨rfl,rfl⟩ | ⟨rfl,rfl⟩ | ⟨rfl,rfl⟩ | ⟨rfl,rfl⟩ | ⟨rfl,rfl⟩ | ⟨rfl,rfl⟩<;>(refine congrArg (·&&c 0 1) ?_;decide)
  ·have hm:=zq x y hd
   simp only [cv,Prod.mk.injEq,wL,or_false] at hm;have e1:c 0 2=c 0 1:=by revert h0;cases c 0 1<;>cases c 0 2<;>simp
   have e2:c 1 2=c 0 1:=by
    rw [sy 1 0] at h1
    revert h1;cases c 0 1<;>cases c 1 2<;>simp
   rcases hm with ⟨rfl,rfl⟩ | ⟨rfl,rfl⟩ | ⟨rfl,rfl⟩ | ⟨rfl,rfl⟩ | ⟨rfl,rfl⟩ | ⟨rfl,rfl⟩
   ·simp
   ·simp [e2]
   ·rw [sy 2 0,e1];simp
   ·rw [sy 1 0];simp
   ·simp [e1]
   ·rw [sy 2 1,e2];simp
end
structure kQ (w w':W) (f:Nat→Nat):Prop where
 len:w'.length=w.length
 lt:∀x,x<w.length→f x<w.length
 inj:∀x y,x<w.length→y<w.length→f x=f y→x=y
 onto:∀y,y<w.length→∃x,x<w.length∧f x=y
 rows:∀x,x<w.length→∃a b,row w x=a++b∧row w' (f x)=(b++a).map f
theorem vc{f:Nat→Nat}{x:Nat}:∀{l:List Nat},(∀y∈l,f y=f x→y=x)→(l.map f).idxOf (f x)=l.idxOf x
 | [],_=>rfl
 |a::l,h=>by
  rw [gL,sW,sW,vc λy hy=>h y (cM _ hy)]
  by_cases c:a=x
  ·subst c;simp
  ·have:f a≠f x:=λz=>c (h a (cD ..) z)
   have e1:(f a==f x)=false:=by simpa using this
   have e2:(a==x)=false:=by simpa using c
   rw [e1,e2]
theorem qe{f:Nat→Nat}{l:List Nat}{x:Nat}(h:∀y∈l,f y=f x→y=x)(hx:x∈l):af (l.map f) (f x)=f (af l x):=by
 have e:=lH hx;show (l.map f).getD (((l.map f).idxOf (f x)+1)%(l.map f).length) 0=_;rw [vc h,aI,aL,e7,e];rfl
section
variable {w w':W} {f:Nat→Nat}
theorem kQ.good(N:kQ w w' f)(g:Good w):Good w':=
 good_ren g N.len N.lt N.inj N.onto λp hp=>by
  obtain ⟨a,b,e1,e2⟩:=N.rows p hp;rw [e1,e2];exact (List.perm_append_comm (l₁:=b) (l₂:=a)).map f
theorem kQ.mem(N:kQ w w' f){x z:Nat}(hx:x<w.length):z∈row w' (f x)↔∃y,y∈row w x∧f y=z:=by
 obtain ⟨a,b,e1,e2⟩:=N.rows x hx;rw [e2,bK]
 constructor
 ·rintro ⟨y,hy,rfl⟩
  exact ⟨y,by rw [e1];exact List.perm_append_comm.mem_iff.mp hy,rfl⟩
 ·rintro ⟨y,hy,rfl⟩
  rw [e1] at hy;exact ⟨y,List.perm_append_comm.mem_iff.mp hy,rfl⟩
theorem kQ.dart(N:kQ w w' f)(g:Good w){x y:Nat}(hx:x<w.length)(hy:y<w.length):aQ w' (f x,f y)↔aQ w (x,y):=by
 show f y∈row w' (f x)↔y∈row w x;rw [N.mem hx]
 constructor
 ·rintro ⟨z,hz,e⟩
  have:=N.inj z y (g.rng _ _ hz) hy e
  rw [←this];exact hz
 ·exact λh=>⟨y,h,rfl⟩
theorem kQ.all(N:kQ w w' f)(g:Good w){d:Nat×Nat}(h:aQ w' d):∃x y,aQ w (x,y)∧d=(f x,f y):=by
 obtain ⟨a,b⟩:=d;have ha:=bI (show b∈row w' a from h);rw [N.len] at ha;obtain ⟨x,hx,rfl⟩:=N.onto a ha;obtain ⟨y,hy,e⟩:=(N.mem hx).mp h;have e:f y=b:=e;exact ⟨x,y,hy,by rw [e]⟩
theorem kQ.succ(N:kQ w w' f)(g:Good w){x y:Nat}(h:y∈row w x):af (row w' (f x)) (f y)=f (af (row w x) y):=by
 obtain ⟨a,b,e1,e2⟩:=N.rows x (bI h);have hm:y∈a++b:=e1▸h;have GI:y∈b++a:=List.perm_append_comm.mem_iff.mp hm;have nd:=g.nod x;rw [e1] at nd;rw [e2,e1,qe (λz hz e=>N.inj z y (g.rng x z (by rw [e1];exact List.perm_append_comm.mem_iff.mp hz)) (g.rng _ _ h) e) GI,fU nd hm]
theorem kQ.JO(N:kQ w w' f)(g:Good w){x y:Nat}(h:aQ w (x,y)):aZ w' (f x,f y)=(f (aZ w (x,y)).1,f (aZ w (x,y)).2):=by
 show (f y,af (row w' (f y)) (f x))=(f y,f (af (row w y) x));rw [N.succ g (g.sym _ _ h)]
theorem kQ.IB(N:kQ w w' f)(g:Good w){R:List Nat}{A:Nat×Nat→Prop}(D:Disc w R A):
  Disc w' (R.map f) λd=>∃x y,A (x,y)∧d=(f x,f y):=by
 have mG:∀{x y},aQ w (x,y)→x<w.length∧y<w.length:=λh=>⟨bI h,g.rng _ _ h⟩;have Eg:∀p∈R,p<w.length:=λp hp=>(mG (D.ring p hp).1).2;have inj:∀p∈R,∀y∈R,f y=f p→y=p:=λp hp y hy e=>N.inj y p (Eg y hy) (Eg p hp) e
 have xK:∀{x y},aQ w (x,y)→((∃x' y',A (x',y')∧(f x,f y)=(f x',f y'))↔A (x,y)):=λ {x y} h=>by
  constructor
  ·rintro ⟨x',y',a,e⟩
   have h':=mG (D.dart _ a);have e1:=N.inj x x' (mG h).1 h'.1 (congrArg Prod.fst e);have e2:=N.inj y y' (mG h).2 h'.2 (congrArg Prod.snd e);rw [e1,e2];exact a
  ·exact λa=>⟨x,y,a,rfl⟩
 have sR:∀p∈R,af (R.map f) (f p)=f (af R p):=λp hp=>qe (inj p hp) hp;have nx:∀{x y},aQ w (x,y)→aQ w ((aZ w (x,y)).1,(aZ w (x,y)).2):=λh=>fB g h;refine ⟨?_,by rw [aI];exact D.len,?_,?_,?_,?_,?_⟩
 ·unfold List.Nodup
  rw [jM];exact List.Pairwise.imp_of_mem (λ {a b} ha hb ne e=>ne (inj b hb a ha e)) D.nd
 ·rintro d ⟨x,y,a,rfl⟩
  have h:=D.dart _ a;exact (N.dart g (mG h).1 (mG h).2).mpr h
 ·intro d hd
  obtain ⟨x,y,h,rfl⟩:=N.all g hd;rw [N.JO g h,xK h,xK (nx h)];exact D.face _ h
 ·rintro d ⟨x,y,a,rfl⟩
  have h:=D.dart _ a;rw [N.JO g h,N.JO g (nx h),N.JO g (nx (nx h))];have e:=D.tri _ a;show (f (aZ w (aZ w (aZ w (x,y)))).1,f (aZ w (aZ w (aZ w (x,y)))).2)=_;rw [e]
 ·intro p' jV
  obtain ⟨p,hp,rfl⟩:=bK.mp jV;rw [sR p hp];have r:=D.ring p hp;have h:=mG r.1;refine ⟨(N.dart g h.1 h.2).mpr r.1,(xK r.1).mpr r.2.1,λz=>r.2.2 ((xK (g.sym _ _ r.1)).mp z)⟩
 ·intro p' q' hd n1 n2
  obtain ⟨p,q,h,e⟩:=N.all g hd;obtain ⟨rfl,rfl⟩:=Prod.mk.injEq .. ▸e;rw [xK h,xK (g.sym _ _ h)];refine D.sym p q h (λz=>n1 ⟨bK.mpr ⟨p,z.1,rfl⟩,by rw [sR p z.1,←z.2]⟩) (λz=>n2 ⟨bK.mpr ⟨q,z.1,rfl⟩,by rw [sR q z.1,←z.2]⟩)
theorem qS{α β:Type}(c:β→Bool)(f:α→β):∀l:List α,par c (l.map f)=par (λx=>c (f x)) l
 | []=>rfl
 |x::l=>by rw [gL,par,par,qS c f l]
open Classical in
theorem kQ.bnd(N:kQ w w' f)(g:Good w)(B:oF w):oF w':=by
 intro c sy ev;have mG:∀{x y},aQ w (x,y)→x<w.length∧y<w.length:=λh=>⟨bI h,g.rng _ _ h⟩
 obtain ⟨S,h1,h2⟩:=B (λx y=>c (f x) (f y)) (λx y=>sy _ _) (λp hp=>by
  obtain ⟨a,b,e1,e2⟩:=N.rows p hp
  have:=ev (f p) (by rw [N.len];exact N.lt p hp)
  rw [e2,qS,kv] at this;rw [e1,kv,Bool.xor_comm];exact this)
 have val:∀{x y},aQ w (x,y)→decide (∃x' y',aQ w (x',y')∧S (x',y')=true∧(f x,f y)=(f x',f y'))=S (x,y):=λ {x y} h=>by
  by_cases s:S (x,y)=true
  ·rw [s]
   exact decide_eq_true ⟨x,y,h,s,rfl⟩
  ·rw [Bool.not_eq_true] at s
   rw [s];refine decide_eq_false ?_;rintro ⟨x',y',h',s',e⟩;have e1:=N.inj x x' (mG h).1 (mG h').1 (congrArg Prod.fst e);have e2:=N.inj y y' (mG h).2 (mG h').2 (congrArg Prod.snd e);rw [e1,e2,s'] at s;exact absurd s (by decide)
 have nx:∀{x y},aQ w (x,y)→aQ w ((aZ w (x,y)).1,(aZ w (x,y)).2):=λh=>fB g h;refine ⟨λd=>decide (∃x' y',aQ w (x',y')∧S (x',y')=true∧d=(f x',f y')),λd hd=>?_,λa b hd=>?_⟩
 ·obtain ⟨x,y,h,rfl⟩:=N.all g hd
  rw [N.JO g h];show decide _=decide _;rw [val h,val (nx h)];exact h1 _ h
 ·obtain ⟨x,y,h,e⟩:=N.all g hd
  obtain ⟨rfl,rfl⟩:=Prod.mk.injEq .. ▸e;show (decide _).xor (decide _)=_;rw [val h,val (g.sym _ _ h)];exact h2 _ _ h
end
theorem cw.three{w:W}{R:List Nat}(G:cw w R)(l3:R.length=3){d:Nat×Nat}(hd:aQ w d):aZ w (aZ w (aZ w d))=d:=by
 by_cases c:cz R d.1 d.2
 ·have e1:aZ w d=(d.2,af R d.2):=G.outer c
  have m2:d.2∈R:=by rw [c.2];exact bf c.1
  have e2:=G.outer (x:=d.2) (y:=af R d.2) ⟨m2,rfl⟩;have m3:=bf m2;have e3:=G.outer (x:=af R d.2) (y:=af R (af R d.2)) ⟨m3,rfl⟩;rw [e1,e2,e3,c.2]
  have key:∀x∈R,af R (af R (af R x))=x:=λx hx=>by
   match R,l3,G.nd,hx with
   | [a,b,e],_,nd,hx=>
    simp only [gS,cv,wL,or_false,not_or] at nd;have s1:af [a,b,e] a=b:=bY (a:= []) (b:= [e]) (by simp [nd])
    have s2:af [a,b,e] b=e:=bY (a:= [a]) (b:= []) (by simp [nd])
    have s3:af [a,b,e] e=a:=cV (b:= [b]) (by simp [nd])
    simp only [cv,wL,or_false] at hx
    rcases hx with rfl|rfl|rfl
    ·rw [s1,s2,s3]
    ·rw [s2,s3,s1]
    ·rw [s3,s1,s2]
  rw [key _ c.1];exact Prod.ext rfl c.2.symm
 ·exact (G.tri d.1 d.2 hd c).1
theorem Ea{w:W}(g:Good w)(tri:∀d,aQ w d→aZ w (aZ w (aZ w d))=d){a b:Nat}(hd:aQ w (a,b)):
  Disc w [a,b,af (row w b) a] λd=>aQ w d∧d≠(a,b)∧d≠(b,af (row w b) a)∧d≠(af (row w b) a,a):=by
 have e1:aZ w (a,b)=(b,af (row w b) a):=rfl;have d2:aQ w (b,af (row w b) a):=e1▸fB g hd;generalize hc:af (row w b) a=c at*;have e3:=tri _ hd;rw [e1] at e3;have X7:aZ w (b,c)=(c,af (row w c) b):=rfl
 have e2:aZ w (b,c)=(c,a):=by
  rw [X7] at e3 ⊢
  have:=congrArg Prod.fst e3
  exact congrArg _ this
 have d3:aQ w (c,a):=e2▸fB g d2;have t6:aZ w (c,a)=(a,b):=by rw [e2] at e3;exact e3
 have L4:a≠b:=λz=>g.irr a (by have:b∈row w a:=hd;rw [←z] at this;exact this)
 have L5:b≠c:=λz=>g.irr b (by have:c∈row w b:=d2;rw [←z] at this;exact this)
 have L6:c≠a:=λz=>g.irr c (by have:a∈row w c:=d3;rw [←z] at this;exact this)
 have nd: [a,b,c].Nodup:=by simp [L4,L5,Ne.symm L6]
 have s1:af [a,b,c] a=b:=bY (a:= []) (b:= [c]) nd;have s2:af [a,b,c] b=c:=bY (a:= [a]) (b:= []) nd;have s3:af [a,b,c] c=a:=cV (b:= [b]) nd
 have step:∀d,aQ w d→((d≠(a,b)∧d≠(b,c)∧d≠(c,a))↔(aZ w d≠(a,b)∧aZ w d≠(b,c)∧aZ w d≠(c,a))):=λd h=>by
  have i1:aZ w d=(a,b)↔d=(c,a):=⟨λz=>kr g h d3 (z.trans t6.symm),λz=>by rw [z,t6]⟩
  have i2:aZ w d=(b,c)↔d=(a,b):=⟨λz=>kr g h hd (z.trans e1.symm),λz=>by rw [z,e1]⟩
  have i3:aZ w d=(c,a)↔d=(b,c):=⟨λz=>kr g h d2 (z.trans e2.symm),λz=>by rw [z,e2]⟩
  rw [Ne,Ne,Ne,Ne,Ne,Ne,i1,i2,i3];exact ⟨λh=>⟨h.2.2,h.1,h.2.1⟩,λh=>⟨h.2.1,h.2.2,h.1⟩⟩
 refine ⟨nd,by simp,λd h=>h.1,λd h=>?_,λd h=>tri d h.1,λp hp=>?_,λp q h n1 n2=>?_⟩
 ·exact ⟨λz=>⟨fB g h,(step d h).mp z.2⟩,λz=>⟨h,(step d h).mpr z.2⟩⟩
 ·simp only [cv,wL,or_false] at hp
  rcases hp with rfl|rfl|rfl
  ·rw [s1]
   exact ⟨g.sym _ _ hd,⟨g.sym _ _ hd,λz=>L4 (congrArg Prod.snd z),λz=>L6 (congrArg Prod.snd z).symm,λz=>L5 (congrArg Prod.fst z)⟩,λz=>z.2.1 rfl⟩
  ·rw [s2]
   exact ⟨g.sym _ _ d2,⟨g.sym _ _ d2,λz=>L6 (congrArg Prod.fst z),λz=>L5 (congrArg Prod.snd z),λz=>L4 (congrArg Prod.snd z).symm⟩,λz=>z.2.2.1 rfl⟩
  ·rw [s3]
   exact ⟨g.sym _ _ d3,⟨g.sym _ _ d3,λz=>L5 (congrArg Prod.snd z).symm,λz=>L4 (congrArg Prod.fst z),λz=>L6 (congrArg Prod.snd z)⟩,λz=>z.2.2.2 rfl⟩
 ·have key:∀p q,aQ w (p,q)→¬(q∈ [a,b,c]∧p=af [a,b,c] q)→(q,p)≠(a,b)∧(q,p)≠(b,c)∧(q,p)≠(c,a):=λp q h n=>by
   refine ⟨λz=>n ?_,λz=>n ?_,λz=>n ?_⟩
   ·have z1:q=a:=congrArg Prod.fst z
    have z2:p=b:=congrArg Prod.snd z;rw [z1,z2,s1];exact ⟨by simp,rfl⟩
   ·have z1:q=b:=congrArg Prod.fst z
    have z2:p=c:=congrArg Prod.snd z;rw [z1,z2,s2];exact ⟨by simp,rfl⟩
   ·have z1:q=c:=congrArg Prod.fst z
    have z2:p=a:=congrArg Prod.snd z;rw [z1,z2,s3];exact ⟨by simp,rfl⟩
  exact ⟨λ_=>⟨g.sym _ _ h,key p q h n2⟩,λ_=>⟨h,key q p (g.sym _ _ h) n1⟩⟩
def bD(R:List Nat)(i:Nat):Nat:=if i=0 then R.length-1 else i-1
def withinL(w:W)(R:List Nat)(i:Nat):List Nat:=
 ((row w (R.getD i 0)).drop ((row w (R.getD i 0)).idxOf (R.getD ((i+1)%R.length) 0)+1)++(row w (R.getD i 0)).take ((row w (R.getD i 0)).idxOf (R.getD ((i+1)%R.length) 0))).take
   (((row w (R.getD i 0)).drop ((row w (R.getD i 0)).idxOf (R.getD ((i+1)%R.length) 0)+1)++(row w (R.getD i 0)).take ((row w (R.getD i 0)).idxOf (R.getD ((i+1)%R.length) 0))).idxOf (R.getD (bD R i) 0))
theorem iW{R:List Nat}{i:Nat}(nd:R.Nodup)(h:i<R.length):af R (R.getD i 0)=R.getD ((i+1)%R.length) 0:=by
 by_cases c:i+1<R.length
 ·rw [aE nd c,fu c]
 ·rw [ba nd (by omega),show i+1=R.length by omega,qj]
theorem fY{R:List Nat}{i:Nat}(nd:R.Nodup)(h:i<R.length):af R (R.getD (bD R i) 0)=R.getD i 0:=by
 unfold bD
 split
 ·next e=>subst e;rw [ba nd (by omega)]
 ·next e=>rw [aE nd (by omega),show i-1+1=i by omega]
theorem eM{R:List Nat}{i:Nat}(h:i<R.length):bD R i<R.length:=by unfold bD;split<;>omega
theorem lE{l:List Nat}{a:Nat}(h:a∈l):cg l a=a::(l.drop (l.idxOf a+1)++l.take (l.idxOf a)):=by
 unfold cg;have hl:=fq.mpr h;rw [rD hl,gK hl,List.cons_append]
theorem take_range{T:List Nat}{a n:Nat}(h:n≤T.length):T.take n=(List.range n).map λk=>(a::T).getD (k+1) 0:=by
 refine List.ext_getElem (by simp [Nat.min_eq_left h]) λk h1 h2=>?_
 rw [sU,List.getElem_map,List.getElem_range];rw [aI,iu] at h2;show _=(a::T).getD (k+1) 0;rw [mj,aL,bz (by omega)]
 rfl
section
variable {w:W} {R:List Nat} {A:Nat×Nat→Prop}
theorem jK(g:Good w)(D:Disc w R A){i:Nat}(hi:i<R.length):
  ∃m y,Whole w R (R.getD i 0) m (row w (R.getD i 0)).length y∧y 0=R.getD ((i+1)%R.length) 0∧y m=R.getD (bD R i) 0∧
   withinL w R i=(List.range (m-1)).map λk=>y (k+1):=by
 have hv:=az hi;have hb:=az (eM hi);have eb:=fY D.nd hi;have F:=oz g D hv hb eb;have am:af R (R.getD i 0)∈row w (R.getD i 0):=g.sym _ _ (D.ring _ hv).1;have pos:=F.at_.fan.pos
 have ym:(cg (row w (R.getD i 0)) (af R (R.getD i 0))).getD ((cg (row w (R.getD i 0)) (af R (R.getD i 0))).idxOf (R.getD (bD R i) 0)) 0=R.getD (bD R i) 0:=by
  have bm:R.getD (bD R i) 0∈row w (R.getD i 0):=by
   have:=(D.ring _ hb).1
   rw [eb] at this;exact this
  have bl:=fq.mpr ((jh (row w (R.getD i 0)) (af R (R.getD i 0))).mem_iff.mpr bm);rw [aL,bz bl,gK bl];rfl
 refine ⟨_,_,F,by rw [←iW D.nd hi];exact vP am,ym,?_⟩
 unfold withinL;rw [←iW D.nd hi];have bN:=F.lt;have hlen:=oj (row w (R.getD i 0)) (af R (R.getD i 0));rw [lE am] at pos bN hlen ⊢;generalize hT:(row w (R.getD i 0)).drop ((row w (R.getD i 0)).idxOf (af R (R.getD i 0))+1)++(row w (R.getD i 0)).take ((row w (R.getD i 0)).idxOf (af R (R.getD i 0)))=T at*
 have ne:(af R (R.getD i 0)==R.getD (bD R i) 0)=false:=by
  rw [sW] at pos;cases c:(af R (R.getD i 0)==R.getD (bD R i) 0)
  ·rfl
  ·rw [c] at pos;simp at pos
 rw [sW,ne] at bN ⊢;simp only [cond_false] at bN ⊢;rw [dB] at hlen;rw [Nat.add_sub_cancel];exact take_range (by omega)
theorem fW{m:Nat}{y:Nat→Nat}{z:Nat}:z∈(List.range (m-1)).map (λk=>y (k+1))↔∃k,0<k∧k<m∧y k=z:=by
 rw [bK]
 constructor
 ·rintro ⟨k,hk,rfl⟩
  rw [cE] at hk;exact ⟨k+1,by omega,by omega,rfl⟩
 ·rintro ⟨k,h1,h2,rfl⟩
  exact ⟨k-1,cE.mpr (by omega),by rw [show k-1+1=k by omega]⟩
theorem cn(g:Good w)(D:Disc w R A){i:Nat}(hi:i<R.length){z:Nat}:z∈withinL w R i↔A (R.getD i 0,z)∧z≠R.getD (bD R i) 0:=by
 obtain ⟨m,y,F,e0,em,ew⟩:=jK g D hi;rw [ew,fW];have hl:=F.lt
 constructor
 ·rintro ⟨k,h1,h2,rfl⟩
  have:=(F.at_.BV g D (k-1) (by omega)).2
  rw [show k-1+1=k by omega] at this
  refine ⟨this,λe=>?_⟩
  have:=F.inj k m (by omega) (by omega) (by rw [em];exact e)
  omega
 ·rintro ⟨a,ne⟩
  obtain ⟨k,h1,h2,e⟩:=F.between g D a;refine ⟨k,h1,?_,e⟩
  by_cases c:k=m
  ·subst c;exact absurd (e.symm.trans em) ne
  ·omega
theorem lK(g:Good w)(D:Disc w R A){i:Nat}(hi:i<R.length):R.getD ((i+1)%R.length) 0∉withinL w R i:=by
 rw [cn g D hi];rintro ⟨a,_⟩;rw [←iW D.nd hi] at a;exact (D.ring _ (az hi)).2.2 a
theorem fZ(g:Good w)(D:Disc w R A){i j:Nat}(hi:i<R.length)(hj:j<R.length)(h:R.getD j 0∈withinL w R i):R.getD i 0∈withinL w R j:=by
 have h':=(cn g D hi).mp h;have n1:=lK g D hi;have hd:=D.dart _ h'.1;have c1:¬(R.getD i 0∈R∧R.getD j 0=af R (R.getD i 0)):=λz=>n1 (by rw [←iW D.nd hi,←z.2];exact h)
 have c2:¬(R.getD j 0∈R∧R.getD i 0=af R (R.getD j 0)):=λz=>h'.2 (cZ D.nd z.1 (az (eM hi)) (by rw [←z.2,fY D.nd hi]))
 refine (cn g D hj).mpr ⟨(D.sym _ _ hd c1 c2).mp h'.1,λe=>c1 ⟨az hi,?_⟩⟩;rw [e,fY D.nd hj]
open Classical in
noncomputable def cnt(w:W)(A:Nat×Nat→Prop):Nat:=((b7 w).filter λd=>decide (A d)).length
open Classical in
theorem nX{A A':Nat×Nat→Prop}(sub:∀d,A' d→A d){d:Nat×Nat}(hd:aQ w d)(a:A d)(n:¬A' d):cnt w A'<cnt w A:=by
 unfold cnt
 have key:∀l:List (Nat×Nat),d∈l→(l.filter λd=>decide (A' d)).length<(l.filter λd=>decide (A d)).length:=λl=>by
  have le:∀l:List (Nat×Nat),(l.filter λd=>decide (A' d)).length≤(l.filter λd=>decide (A d)).length:=λl=>by
   induction l with
   |nil=>simp
   |cons x l ih=>
    rw [tX,tX]
    by_cases c:A' x
    ·rw [if_pos (decide_eq_true c),if_pos (decide_eq_true (sub x c))];simp;exact ih
    ·rw [if_neg (by simp [c])]
     split
     ·simp;omega
     ·exact ih
  induction l with
  |nil=>intro h;cases h
  |cons x l ih=>
   intro h;rw [tX,tX]
   by_cases e:x=d
   ·subst e
    rw [if_neg (by simp [n]),if_pos (decide_eq_true a)]
    have:=le l
    simp;omega
   ·have h:d∈l:=by
     rcases cv.mp h with z|z
     ·exact absurd z.symm e
     ·exact z
    have:=ih h
    by_cases c:A' x
    ·rw [if_pos (decide_eq_true c),if_pos (decide_eq_true (sub x c))];simp;exact this
    ·rw [if_neg (by simp [c])]
     split
     ·simp;omega
     ·exact this
 exact key _ (cL.mpr hd)
end
section
variable {w:W} {R:List Nat} {A:Nat×Nat→Prop}
theorem uy{R:List Nat}{i j:Nat}(cK:i<j)(hj:j<R.length):
  R=R.take i++R.getD i 0::((R.drop (i+1)).take (j-i-1)++R.getD j 0::R.drop (j+1)):=by
 have gi:R.getD i 0=R[i]'(by omega):=by rw [aL,bz (by omega)];rfl
 have gj:R.getD j 0=R[j]:=by rw [aL,bz hj];rfl
 have e1:R.getD j 0::R.drop (j+1)=(R.drop (i+1)).drop (j-i-1):=by
  rw [List.drop_drop,show i+1+(j-i-1)=j by omega,rD hj,gj]
 rw [e1,iq,gi,←rD (by omega),iq]
theorem IU{R:List Nat}{i j:Nat}(cK:i<j)(hj:j<R.length):(R.take (j+1)).drop i=R.getD i 0::((R.drop (i+1)).take (j-i-1)++ [R.getD j 0]):=by
 have gi:R.getD i 0=R[i]'(by omega):=by rw [aL,bz (by omega)];rfl
 have gj:R.getD j 0=R[j]:=by rw [aL,bz hj];rfl
 rw [List.drop_take,rD (by omega:i<R.length),←gi,show j+1-i=(j-i-1)+1+1 by omega,List.take_succ_cons]
 congr 1
 rw [List.take_succ,pz,show i+1+(j-i-1)=j by omega,bz hj,gj]
 rfl
theorem IW{R:List Nat}{i j:Nat}(cK:i<j)(hj:j<R.length):R.drop j++R.take (i+1)=R.getD j 0::((R.drop (j+1)++R.take i)++ [R.getD i 0]):=by
 have gi:R.getD i 0=R[i]'(by omega):=by rw [aL,bz (by omega)];rfl
 have gj:R.getD j 0=R[j]:=by rw [aL,bz hj];rfl
 rw [rD hj,List.take_succ,bz (by omega:i<R.length),←gi,←gj]
 simp
theorem jy(g:Good w)(B:oF w)(D:Disc w R A){i j:Nat}(cK:i<j)(hj:j<R.length)(h:R.getD j 0∈withinL w R i):
  (∃A',Disc w ((R.take (j+1)).drop i) A'∧cnt w A'<cnt w A)∧∃A',Disc w (R.drop j++R.take (i+1)) A'∧cnt w A'<cnt w A:=by
 have hi:i<R.length:=by omega
 have hw:=(cn g D hi).mp h
 have hB:(R.drop (i+1)).take (j-i-1)≠ []:=by
  intro e;have e:=congrArg List.length e;simp only [b8,dY,jr] at e;have e:j=i+1:=by omega
  refine lK g D hi ?_;rw [fu (by omega),←e];exact h
 have hC:R.drop (j+1)++R.take i≠ []:=by
  intro e;have e:=congrArg List.length e;simp only [cy,b8,dY,jr] at e;refine hw.2 ?_;unfold bD;rw [if_pos (by omega),show j=R.length-1 by omega]
 rw [IU cK hj,IW cK hj];have s3:=uy cK hj;generalize hP:R.take i=P at*;generalize hp:R.getD i 0=p at*;generalize Yj:(R.drop (i+1)).take (j-i-1)=BB at*;generalize hq:R.getD j 0=q at*;generalize Yk:R.drop (j+1)=CC at*;have D0:Disc w (P++p::(BB++q::CC)) A:=s3▸D
 have D1:Disc w (p::(BB++q::(CC++P))) A:=by
  have:=D0.vO
  simpa using this
 have sj:=D1.nd;have e1:p::(BB++q::(CC++P))=(p::BB)++ [q]++(CC++P):=by simp
 have JK:(p::(BB++ [q])).Nodup:=by
  rw [e1] at sj
  have:=(fN.mp sj).1
  simpa using this
 have bl:1≤BB.length:=tU.mpr hB
 have tie:∀x∈p::(BB++ [q]),af (p::(BB++ [q])) x∈row w x:=λx hx=>by
  have hx:x∈p::BB∨x=q:=by simpa [or_assoc] using hx
  rcases hx with hx|rfl
  ·have:=lI (a:=p::BB) (z:=q) (b:=CC++P) (by rw [←e1];exact sj) hx
   rw [←e1] at this;rw [show p::(BB++ [q])=(p::BB)++ [q] by simp,←this]
   exact g.sym _ _ (D1.ring x (by rw [e1];exact fL _ (fL _ hx))).1
  ·rw [cV JK]
   exact g.sym _ _ (D.dart _ hw.1)
 obtain ⟨S,bd⟩:=B.ring g JK (by simp;omega) tie
 have main:∃S:Nat×Nat→Prop,Disc w (p::(BB++ [q])) (λd=>A d∧S d)∧Disc w (q::((CC++P)++ [p])) (λd=>A d∧¬S d):=by
  by_cases c:S (af (p::(BB++q::(CC++P))) p,p)
  ·exact ⟨S,parted g D1 rfl hB hC hw.1 bd c⟩
  ·exact ⟨λd=>¬S d,parted g D1 rfl hB hC hw.1 bd.neg c⟩
 obtain ⟨S,E1,E2⟩:=main;have r1:=(E1.ring p (cD ..)).2.1;have r2:=(E2.ring q (cD ..)).2.1;exact ⟨⟨_,E1,nX (λd z=>z.1) (D.dart _ r2.1) r2.1 λz=>r2.2 z.2⟩,⟨_,E2,nX (λd z=>z.1) (D.dart _ r1.1) r1.1 λz=>z.2 r1.2⟩⟩
theorem ED{m:Nat}{y:Nat→Nat}:((List.range m).map λk=>y (k+1)).reverse=(List.range m).map λi=>y (m-i):=by
 refine List.ext_getElem (by simp) λk h1 h2=>?_
 have hk:k<m:=by simpa using h2
 rw [List.getElem_reverse];simp only [aI,iu,List.getElem_map,List.getElem_range,y9]
 congr 1
 omega
theorem vh(g:Good w)(D:Disc w R A)(no:∀i,i<R.length-1→R.getD (R.length-1) 0∉withinL w R i):
  (R.dropLast++(withinL w R (R.length-1)).reverse).length=2∨∃A',Disc w (R.dropLast++(withinL w R (R.length-1)).reverse) A'∧cnt w A'<cnt w A:=by
 have len:=D.len;have hl:R.length-1<R.length:=by omega
 obtain ⟨m,y,F,e0,em,ew⟩:=jK g D hl;have pos:=F.at_.fan.pos;have bN:=F.lt;rw [show R.length-1+1=R.length by omega,qj] at e0
 have ep:bD R (R.length-1)=R.length-2:=by unfold bD;rw [if_neg (by omega)];omega
 rw [ep] at em;have sp:=uy (R:=R) (i:=R.length-2) (j:=R.length-1) (by omega) hl
 rw [show R.length-1-(R.length-2)-1=0 by omega,show R.length-1+1=R.length by omega,List.drop_length,sX,kJ,←em] at sp
 have pl:(R.take (R.length-2)).length=R.length-2:=by rw [b8];omega
 have p0:(R.take (R.length-2)).getD 0 0=y 0:=by
  rw [e0,aL,pk (by omega),←aL]
 have eq:R.dropLast++(withinL w R (R.length-1)).reverse=cT (R.take (R.length-2)) m y:=by
  rw [ew,ED];unfold cT
  have e1:R.dropLast=R.take (R.length-2)++ [y m]:=by
   rw [List.dropLast_eq_take,show R.length-1=R.length-2+1 by omega,List.take_succ,bz (by omega),em,aL,bz (by omega)]
   rfl
  rw [e1,rF]
  congr 1
  obtain ⟨m',rfl⟩:∃m',m=m'+1:=⟨m-1,by omega⟩
  rw [List.range_succ_eq_map,gL,gd];simp only [Nat.add_sub_cancel,List.singleton_append,Nat.sub_zero]
  congr 1
  refine Ba λi _=>?_;show y (m'-i)=y (m'+1-(i+1))
  congr 1;omega
 rw [eq]
 by_cases c:3≤(R.take (R.length-2)).length+m
 ·refine .inr ⟨_,vt g D F.at_ sp p0 (λe=>by rw [e] at pl;simp at pl;omega) (λk h1 h2 hR=>?_) c,?_⟩
  ·obtain ⟨i,hi,ei⟩:=fM.mp hR
   have IG:R.getD i 0=y k:=by rw [←ei,aL,bz hi];rfl
   have hm:y k∈withinL w R (R.length-1):=by rw [ew];exact fW.mpr ⟨k,h1,h2,rfl⟩
   rw [←IG] at hm;have hs:=fZ g D hl hi hm
   have ne:i≠R.length-1:=by
    intro z;refine F.at_.ne g (k:=k) (by omega) ?_
    rw [←IG,z]
   exact no i (by omega) hs
  ·have a:=(F.at_.BV g D 0 (by omega)).1
   exact nX (λd z=>z.1) (D.dart _ a) a λz=>z.2 ⟨0,by omega, .inl rfl⟩
 ·refine .inl ?_
  rw [g5];omega
end
theorem qY{w:W}{i x:Nat}{r:List Nat}(h:i<w.length):row (w.set i r) x=if i=x then r else row w x:=by
 unfold row;rw [aL,tV,aL]
 by_cases e:i=x
 ·subst e;rw [if_pos rfl,if_pos h,if_pos rfl];rfl
 ·rw [if_neg e,if_neg e]
theorem vQ{w:W}{x:Nat}{r:List Nat}:row (w++ [r]) x=if x=w.length then r else row w x:=by
 unfold row;rw [aL,aL]
 by_cases c:x<w.length
 ·rw [eI c,if_neg (by omega)]
 ·by_cases e:x=w.length
  ·subst e;rw [if_pos rfl];simp
  ·rw [if_neg e,mh (by simp;omega),mh (by omega)]
structure zb (w w':W) (R:List Nat) (f k:Nat):Prop where
 l:w'.length=w.length+1
 rv:row w' w.length=(R.take (f+1)).reverse
 r0:row w' (R.getD 0 0)=w.length::row w (R.getD 0 0)
 rk:∀i,1≤i→i≤k→row w' (R.getD i 0)=row w (R.getD i 0)++ [w.length]
 ro:∀x,x≠w.length→(∀i,i≤k→x≠R.getD i 0)→row w' x=row w x
theorem zb.start{w:W}{R:List Nat}{f:Nat}(h:R.getD 0 0<w.length):zb w ((w++ [(R.take (f+1)).reverse]).set (R.getD 0 0) (w.length::row w (R.getD 0 0))) R f 0:=by
 have hl:(w++ [(R.take (f+1)).reverse]).length=w.length+1:=by simp
 have rp:∀x,row ((w++ [(R.take (f+1)).reverse]).set (R.getD 0 0) (w.length::row w (R.getD 0 0))) x=_:=λx=>qY (x:=x) (by omega)
 refine ⟨by rw [mn];exact hl,?_,?_,λi h1 h2=>by omega,λx h1 h2=>?_⟩
 ·rw [rp,if_neg (by omega),vQ,if_pos rfl]
 ·rw [rp,if_pos rfl]
 ·rw [rp,if_neg (λz=>h2 0 (bC _) z.symm),vQ,if_neg h1]
theorem zb.step{w w':W}{R:List Nat}{f k:Nat}(M:zb w w' R f k)(nd:R.Nodup)(hf:f<R.length)(hk:k+1≤f)(h:R.getD (k+1) 0<w.length):zb w (w'.set (R.getD (k+1) 0) (row w' (R.getD (k+1) 0)++ [w.length])) R f (k+1):=by
 have ne:∀i,i≤k→R.getD (k+1) 0≠R.getD i 0:=λi hi e=>by
  have:=getD_inj nd (by omega) (by omega) e;omega
 have rp:∀x,row (w'.set (R.getD (k+1) 0) (row w' (R.getD (k+1) 0)++ [w.length])) x=_:=λx=>qY (x:=x) (by rw [M.l];omega)
 refine ⟨by rw [mn];exact M.l,?_,?_,λi h1 h2=>?_,λx h1 h2=>?_⟩
 ·rw [rp,if_neg (by omega)];exact M.rv
 ·rw [rp,if_neg (ne 0 (by omega))];exact M.r0
 ·by_cases c:i=k+1
  ·subst c
   rw [rp,if_pos rfl,M.ro _ (by omega) (λi hi=>ne i hi)]
  ·rw [rp,if_neg (ne i (by omega))];exact M.rk i h1 (by omega)
 ·rw [rp,if_neg (λz=>h2 (k+1) (bC _) z.symm)]
  exact M.ro x h1 λi hi=>h2 i (by omega)
theorem zb.fin{w w':W}{R:List Nat}{f:Nat}(M:zb w w' R f f)(f1:1≤f)(hf:f<R.length):Step w w' R f:=⟨M.l,f1,hf,M.rv,M.r0,M.rk,M.ro⟩
theorem cw.Qp{w:W}{R:List Nat}(G:cw w R){x:Nat}(h:x∈R):x<w.length:=bI (G.hd x h).1
theorem cw.ug{w:W}{R:List Nat}(G:cw w R):R.length≤w.length:=by
 have:=aX G.nd (m:=List.range w.length) λx hx=>cE.mpr (G.Qp hx)
 rw [iu] at this;exact this
end Wb
set_option maxHeartbeats 4000000
namespace PySem
namespace F
theorem Em:typeLookup (.type "list_reverseiterator") "__len__"=pure none:=by rw [typeLookup_type,builtinLookup_eq_fast];kernel_rfl
theorem GH:typeLookup (.type "list_reverseiterator") "__length_hint__"=pure (some (.builtin "list_reverseiterator.__length_hint__")):=by rw [typeLookup_type,builtinLookup_eq_fast];kernel_rfl
end F
section
variable {prog:Program} {w:World} {A:Around} {s:Shared} {R:Result→Shared→Prop}
variable {I:Addr} {fp wr:List Addr} {G:Array GenState→Array GenState→Prop} {n:Nat} {P:Nat→Value→Prop} {St:Nat→Shared→Prop}
theorem BI(W:WalksS prog w A.in1 I fp wr G n P St)(hT:∀i s,St i s→s.TypeIs (.ref I) "list_reverseiterator")(S:Addr)(res:Value)(c₀:Nat)(oN:St 0 s)(DK:S∉fp)(hI:I∈fp)
  (hS:s.heap.get? S=some {cls:= .type "list",data:= .seq #[] c₀})
  (hR:∀s' cm c',Moved (S::wr) G s s'→s'.heap.get? S=some {cls:= .type "list",dict:=none,data:= .seq cm c',slots:= #[]}→ItemsOf P cm n→R (.ok (.ret res)) s') (hn:n≤sizeLine):
  wpAny (model prog w) A.in1 (Builtin.List.listExtendWith (.ref S) (.ref I) res)
   (λfin s'=>match fin with| .done f=>R (.ok f) s'| .again c'=>c'.quiet=true∧codeAny (model prog w) A c' R s') (λe s'=>R (.error e) s') s:=by
 have LB:S≠I:=λe=>DK (e▸hI);unfold Builtin.List.listExtendWith;refine wpAny_bind (wpAny_typeOf (hT 0 _ oN) ?_);have h1:Builtin.List.listSameRef (.ref S) (.ref I)=false:=by simp [Builtin.List.listSameRef,LB]
 have h2:(Value.type "list_reverseiterator"==Value.type "list")=false:=by decide
 have h3:(Value.type "list_reverseiterator"==Value.type "tuple")=false:=by decide
 simp only [h1,h2,h3,Bool.or_false,mm,if_false];refine wpAny_bind (W.self 0 _ _ _ oN ?_);refine wpAny_bind (wpAny_holding ?_);unfold Builtin.List.listLengthHint;refine wpAny_bind (wpAny_specialOf (hT 0 _ oN) F.Em ?_);show wpAny _ A.in1 (specialOf (Value.ref I) (Str.ofString "__length_hint__")>>=_) _ _ _;refine wpAny_bind (wpAny_specialOf (hT 0 _ oN) F.GH ?_);generalize GF:("list_reverseiterator.__length_hint__":String)=LL
 wp_delta
 rw [show splitId LL=some ("list_reverseiterator","__length_hint__") from by subst GF;decide+kernel]
 subst GF;refine wpAny_bind (wpAny_isInstance (b:=true) (hT 0 _ oN) (by rw [isSubtype_type];kernel_rfl) ?_)
 refine wpAny_pure ?_;rw [if_neg (by decide)]
 exact wpAny_pure ⟨plainId_quiet F.plain_extend_loop _,codeAny_extend_loopS W hn _ DK _ n 0 _ _ _ rfl (cH _) oN hS (ItemsOf.nil P) hR⟩
theorem vo(W:WalksS prog w A.in1 I fp wr G n P St)(hT:∀i s,St i s→s.TypeIs (.ref I) "list_reverseiterator")(S:Addr)(oN:St 0 s)(DK:S∉fp)(hI:I∈fp)
  (hS:s.heap.get? S=some {cls:= .type "list",data:= .seq #[]})
  (hR:∀s' cm c',Moved (S::wr) G s s'→s'.heap.get? S=some {cls:= .type "list",dict:=none,data:= .seq cm c',slots:= #[]}→ItemsOf P cm n→R (.ok (.ret .none)) s') (hn:n≤sizeLine):
  wpAny (model prog w) A.in1 (Builtin.«list.__init__» ⟨[.ref S, .ref I],[]⟩)
   (λfin s'=>match fin with| .done f=>R (.ok f) s'| .again c'=>c'.quiet=true∧codeAny (model prog w) A c' R s') (λe s'=>R (.error e) s') s:=by
 show wpAny _ A.in1 (do let old ←Builtin.List.listItems (.ref S);Builtin.List.listUpdate (.ref S) (λ_=> #[]);letGo old.toList.reverse;Builtin.List.listExtendWith (.ref S) (.ref I) .none) _ _ s
 refine wpAny_bind ?_;unfold Builtin.List.listItems;refine wpAny_bind (wpAny_seqItems hS rfl (wpAny_pure ?_));show wpAny _ A.in1 (updateSeq S (λ_=> #[])>>=λ_=>letGo (#[]:Array Value).toList.reverse>>=λ_=>Builtin.List.listExtendWith (.ref S) (.ref I) .none) _ _ s;refine wpAny_bind (wpAny_updateSeq hS rfl ?_);have zB:=Heap.get?_update_self (Obj.mapSeq (λ_=>(#[]:Array Value))) hS rfl
 have Hc:∀b o,b≠S→s.heap.get? b=some o→(s.heap.update S (Obj.mapSeq (λ_=>(#[]:Array Value)))).get? b=some o:=
  λb o hb e=>(Heap.get?_update_other _ _ (Ne.symm hb)).trans e
 refine wpAny_bind (wpAny_letGo ?_);refine BI W hT S .none _ (W.frame 0 s _ s.toks oN (bC _) λb hb o e=>Hc b o (λh=>DK (h▸hb)) e) DK hI zB (λs' cm c' hm zA qC=>?_) hn;exact hR s' cm c' (Moved.trans W.gtrans ((Moved.refl W.grefl).then_heap (bC _) λb o hb e=>Hc b o (λh=>hb (h▸cD)) e) hm) zA qC
theorem uL{E:Value→Shared→Prop}{Q:Value→Shared→Prop}(W:WalksS prog w A.in1.in1 I fp wr G n P St)(hT:∀i s,St i s→s.TypeIs (.ref I) "list_reverseiterator")(oN:St 0 s)(LG:∀b∈fp,b<s.heap.objs.size)(hI:I∈fp)
  (hQ:∀s' cm c',Moved (s.heap.objs.size::wr) G {s with heap:=s.heap.push {cls:= .type "list",data:= .seq #[]}} s'→
   s'.heap.get? s.heap.objs.size=some {cls:= .type "list",dict:=none,data:= .seq cm c',slots:= #[]}→ItemsOf P cm n→Q (.ref s.heap.objs.size) s') (hn:n≤sizeLine):
  wpAny (model prog w) A (call (.type "list") [.ref I]) Q E s:=by
 have DK:s.heap.objs.size∉fp:=λhm=>iw _ (LG _ hm)
 refine callType_codes (Q₁:=λobj s₁=>obj= .ref s.heap.objs.size∧s₁={s with heap:=s.heap.push {cls:= .type "list",data:= .seq #[]}}) F.called_list (F.typeCall_list_1 _) F.entry_list_init
  (code_list_new _ ⟨rfl,rfl⟩) λobj s₁ TK=>?_
 obtain ⟨rfl,rfl⟩:=TK;have hS:(s.heap.push {cls:= .type "list",data:= .seq #[]}).get? s.heap.objs.size=some {cls:= .type "list",data:= .seq #[]}:=Heap.get?_push_size _ rfl;refine ⟨⟨_,hS,rfl⟩,F.args_list_init_2 _ _,vo W hT _ (W.frame 0 s _ s.toks oN (bC _) λb _ o e=>Heap.get?_push_of_some _ e) DK hI hS (λs' cm c' hm zA qC=>?_) hn⟩;exact ⟨rfl,hQ s' cm c' hm zA qC⟩
end
end PySem
namespace L2
open PySem PySem.Spec PyProof.Rows
section
variable {X:Cx} {Z:DC} {a b c e:Expr} {ta te:br} {t:iY} {pos:Pos}
def HB(K:PySem.W.Frag)(ta:TA):TE:=λσ H Q=>ta σ H λvs H1=>∃l xs,vs= [.ref l]∧cQ K H1 l xs∧∀q,H1 q=none→Q (.ref q) (upd H1 q (.lst xs.reverse))
theorem Cg{ta:TA}{p p2 oZ:Pos}(hc:X.calm=true)(Pr:Gl X "list")(GJ:X.mg "list"=none)(Pt:Gl X "reversed")(Ji:X.mg "reversed"=none)(ha:PA X [a] ta)
  (hs:starEach [.Call (.Name "reversed" p2) [a] [] oZ] X.env=(false,eval (.Call (.Name "reversed" p2) [a] [] oZ) X.env)::starEach [] X.env:=by rfl) (gn:(backTo pos (starEach [] X.env)).any (·.1)=false:=by rfl)
  (ja:starEach [a] X.env=(false,eval a X.env)::starEach [] X.env:=by rfl) (Jk:(backTo oZ (starEach [] X.env)).any (·.1)=false:=by rfl):
  PE X (.Call (.Name "list" p) [.Call (.Name "reversed" p2) [a] [] oZ] [] pos) (HB X.K ta):=by
 intro pins s σ H Q I h;refine wpAny_Call_Name_kw (iM I Pr GJ qk ?_);refine PyProof.Rows.callWith_type1 ?_ hs gn;rw [hs];show wpAny _ _ (spliced ((false,eval _ X.env)::backTo pos (starEach [] X.env))) _ _ s;refine Calls.spliced_cons ?_;refine wpAny_Call_Name_kw (iM I Pt Ji zf ?_);refine PyProof.Rows.callWith_type1 (thn (ha oZ pins s σ H _ I h) λus s1 ⟨vs,H1,I1,r1,q1⟩=>?_) ja Jk;obtain ⟨l,xs,e,hl,q⟩:=q1;subst e;obtain ⟨u,rfl,ru⟩:=r1.one;cases ru;obtain ⟨its,rv,p,hz⟩:=I1.list hl;have hlen:=rv.length;refine call_reversed_list p.isList ?_;refine Calls.spliced_nil ?_;have bN:l<s1.heap.objs.size:=by obtain ⟨o,ho,_⟩:=p.isList;exact Heap.lt_size ho
 have zK:l≠s1.heap.objs.size:=bV bN;have W:=(Walks.listRev (prog:=X.prog) (w:=X.w) (A:=X.A.in1.in1) (I.ok.hd hc) s1.heap.objs.size l zK its.toArray).toS;have hit:(s1.heap.push (revObj l ((its.toArray.size:Int)-1))).IsRevIter s1.heap.objs.size l ((its.toArray.size:Int)-1-((0:Nat):Int)):=⟨_,Heap.get?_push_size _ rfl,rfl,by simp [revObj]⟩
 have YA:(s1.heap.push (revObj l ((its.toArray.size:Int)-1))).IsList l its.toArray:=p.isList.at λo e=>Heap.get?_push_of_some _ e;have fb:(s1.heap.push (revObj l ((its.toArray.size:Int)-1))).objs.size=s1.heap.objs.size+1:=by simp [Heap.push]
 refine uL W (λi s st=>st.2.1.typeIs) ⟨cH _,hit,YA⟩ (λb hb=>?_) (by simp) (λs' cm c' hm zA qC=>?_) (by simpa [←hlen] using hz)
 ·rw [show ({s1 with heap:=s1.heap.push (revObj l ((its.toArray.size:Int)-1))}:Shared).heap.objs.size=s1.heap.objs.size+1 from fb]
  have hb:b=s1.heap.objs.size∨b=l:=by simpa using hb
  rcases hb with rfl|rfl
  ·exact wy _
  ·exact wK bN
 ·rw [Moved.eq_with hm]
  have kk:∀b o,s1.heap.get? b=some o→s'.heap.get? b=some o:=λb o e=>by
   have hb:=Heap.lt_size e;refine hm.heap b o (λqF=>?_) (Heap.get?_push_of_some _ (Heap.get?_push_of_some _ e));have qF:b=(s1.heap.push (revObj l ((its.toArray.size:Int)-1))).objs.size∨b=s1.heap.objs.size:=by simpa using qF
   rw [fb] at qF
   rcases qF with rfl|rfl
   ·exact absurd hb (Nat.not_lt.mpr (nU _))
   ·exact absurd hb (iw _)
  rw [show ({s1 with heap:=s1.heap.push (revObj l ((its.toArray.size:Int)-1))}:Shared).heap.objs.size=s1.heap.objs.size+1 from fb] at zA ⊢
  refine ⟨.ref (s1.heap.objs.size+1),_,I1.laid kk (nU _) (o:= .lst xs.reverse) ⟨by rw [y9];exact hz,cm.toList,c',?_,by simpa using zA⟩,rfl,q _ (I1.hok.fresh (nU _))⟩
  refine Vals.of_get (by simp [qC.1,hlen]) λk x w hx hw=>?_
  have hk:k<xs.length:=by
   have:=(eU.mp hx).1
   simpa using this
  rw [List.getElem?_reverse hk] at hx;obtain ⟨u,hu,ru⟩:=rv.get hx
  have:its.toArray[its.toArray.size-1-k]? =some w:=qC.2 k w (by rw [←gJ];exact hw)
  have e2:its.toArray.size-1-k=xs.length-1-k:=by simp [hlen]
  rw [e2] at this
  have:u=w:=by
   have h1:its[xs.length-1-k]? =some w:=by simpa using this
   rw [hu] at h1;exact Option.some.inj h1
  rw [←this];exact ru
def Gj(t:iY):br:=λρ P=>t ρ λds=>match ds with
 | [.lst l]=>P (.lst l.reverse)
 |_=>False
theorem tB{p p2 oZ:Pos}(hc:X.calm=true)(Pr:Gl X "list")(GJ:X.mg "list"=none)(Pt:Gl X "reversed")(Ji:X.mg "reversed"=none)(ha:DA Z X [a] t)
  (hs:starEach [.Call (.Name "reversed" p2) [a] [] oZ] X.env=(false,eval (.Call (.Name "reversed" p2) [a] [] oZ) X.env)::starEach [] X.env:=by rfl) (gn:(backTo pos (starEach [] X.env)).any (·.1)=false:=by rfl)
  (ja:starEach [a] X.env=(false,eval a X.env)::starEach [] X.env:=by rfl) (Jk:(backTo oZ (starEach [] X.env)).any (·.1)=false:=by rfl):
  DE Z X (.Call (.Name "list" p) [.Call (.Name "reversed" p2) [a] [] oZ] [] pos) (Gj t):=by
 refine (Cg hc Pr GJ Pt Ji ha hs gn ja Jk).imp ?_;rintro σ H Q ⟨G,ρ,P,s,en,h,q⟩;refine ⟨G,ρ,_,s,en,h,λds hd vs G1 H1 x1 dv=>?_⟩;cases dv with
 |nil=>exact hd.elim
 |cons a as=>
  cases as with
  |cons _ _=>cases a<;>exact hd.elim
  |nil=>
   cases a<;>first|exact hd.elim|skip
   rename_i p xs ds ha e
   exact ⟨_,xs,rfl,cQ.of (x1.sub _ _ ha),λp hn=>q _ hd _ _ _ (x1.trans (.new x1.sub hn)) (.lst aC (e.rev.mono (aV (x1.sub.free hn) _)))⟩
end
section
variable {Z:DC} {X:Cx} {md:List Nat} {rn:Nat} {a b e k:Expr} {pos:Pos} {ta tb te tk:br} {t:pF}
def SD(ta tb:br):pF:=λρ P=>ta ρ λd1=>∃l1,d1= .lst l1∧tb ρ λd2=>∃l2,d2= .lst l2∧l1.length+l2.length≤sizeLine∧P (l1++l2)
theorem Fm(ha:DE Z X a ta)(hb:DE Z X b tb):DF Z X 1 (.BinOp a .Add b pos) (SD ta tb):=by
 refine (J3 FK ha hb).imp ?_;rintro σ H Q ⟨G,ρ,P,s,e,h,q⟩;refine ⟨G,ρ,_,s,e,h,?_⟩;rintro _ ⟨l1,rfl,h⟩ v1 G1 H1 x1 Dm;refine ⟨G1,ρ,_,x1.sub,e.mono x1.gg,h,?_⟩;rintro _ ⟨l2,rfl,hz,hp⟩ v2 G2 H2 x2 Dq;obtain ⟨p1,QI,rfl,h1,e1⟩:=Dm.lj;obtain ⟨p2,Wv,rfl,h2,e2⟩:=Dq.lj;have X6:=e1.mono x2.gg;have x:=x1.trans x2;refine ⟨_,_,_,_,rfl,rfl,x2.hh _ _ (x1.sub _ _ h1),x2.sub _ _ h2,by rw [e1.length,e2.length];exact hz,λp jV=>?_⟩
 obtain ⟨o1,o2,o3⟩:=vI x jV (X6.append e2);exact q _ hp _ _ _ _ (x.side jV) o1 o2 o3
variable {tg iter elt:Expr} {ifs:List Expr} {scope:Scope} {NC:List Str} {src:List (Option Nat)} {wi:hJ} {g:dR} {tt:dE}
theorem OO(hc:X.calm=true)(c:b9 X scope)(dO:cR scope X.N src NC)(hi:DI Z X tg iter wi)
  (hg:∀ex s H,DG Z (bT X scope NC ex s H) tg g) (ht:∀ex s H,tZ Z (bT X scope NC ex s H) ifs tt) (he:∀ex s H,DE Z (bT X scope NC ex s H) elt te)
  (hs:∀x,foldedSetIterable iter X.env x=pure x:=by intro _;rfl):DF Z X 1 (.ListComp elt [⟨tg,iter,ifs,0⟩] scope pos) (OW wi g tt te src):=(J0 hc c dO hi hg ht he hs).imp B3
variable {B:Bs} {ρ:DN} {σ:St} {H G:Hp} {fp:Nat→List Addr}
theorem SIx.X9{P:List D→Prop}{Q:VK}(S:SIx Z B md ρ σ H G fp)(h:t ρ P)
  (hq:∀ds,P ds→ds.all fH=true∧∀v G' H',SIx Z B md ρ σ H' G' fp→Ext G H G' H'→Dv Z G' v (.lst ds)→Q v H'):vk Z 1 t σ H Q:=by
 refine ⟨H,ρ,P, .refl _,S.IH,h,?_⟩;intro ds hd v f G' H' x o nd nw;obtain ⟨LF,k⟩:=hq ds hd;obtain ⟨a,xs,qs,qz,rfl,e1,ha,Yw,ol⟩:=o.lst;cases e1;obtain ⟨dv,rfl⟩:=ol.flat;have hb:H a=none:=(nw a (by rw [Yw];simp)).1
 have hg:G a=none:=S.ex.sub.free hb
 have x2:Ext G H (upd G a (.lst xs)) H':=by
  refine ⟨aV hg _,λb o e=>?_,x.hh,λb h1 h2=>?_⟩
  ·by_cases z:b=a
   ·subst z
    rw [aC] at e;rw [←e];exact ha
   ·rw [aG z] at e
    exact x.hh _ _ (S.ex.sub _ _ e)
  ·rw [aG (λz=>h1 (by rw [z];exact hb))];exact h2
 exact k _ _ _ (S.grow x2) x2 (.lst aC (dv.flat LF))
def Iv(i:Nat)(tk:br)(t:pF):e8:=λE ρ=>t ρ λd=>d.all fH=true∧∃ds,ρ[i]? =some (some (.lst ds))∧tk ρ λkk=>∃k j,kk= .int k∧pQ ds.length k=some j∧E.nx (ρ.set i (some (.lst (ds.set j (.lst d)))))
theorem pK(i:Nat){x:Str}{px ps:Pos}(hk:DE Z X k tk)(he:DF Z X 1 e t)(hm:md.getD i 0=1:=by rfl)(hi:X.N[i]? =some x:=by rfl)(hv:uE X.env.scope x:=by first|exact Or.inl rfl|exact Or.inr (Or.inl rfl) |exact Or.inr (Or.inr rfl))(hd:(x==("__debug__":Str))=false:=by decide)(gY:(x==("__classdict__":Str))=false:=by decide)
  (ha:∀v,assign (.Subscript (.Name x px) k ps) X.env v=(do
   let ov ←holding [v] (eval (.Name x px) X.env)
   let iv ←holding [v,ov] (eval k X.env)
   standAt ps
   holding [v,ov,iv] (setItem ov iv v)
   release [v,ov,iv] []):=by intro _;rfl)
  (hs:swapsWithSole [.Subscript (.Name x px) k ps] e pos.line X.env=pure false:=by rfl) (hw:swappedStores [.Subscript (.Name x px) k ps] e X.env=pure none:=by rfl)
  (h1:(assignEach [.Subscript (.Name x px) k ps] X.env).map (·.2)= [assign (.Subscript (.Name x px) k ps) X.env]:=by rfl):DSt Z X md rn (.Assign [.Subscript (.Name x px) k ps] e pos) (Iv i tk t):=by
 refine (Aa he (FO (pv i hi hv hd gY) hk set_list ha) hs hw h1).imp ?_;rintro D σ H ⟨B,ρ,E,⟨G,fp,S⟩,h,M⟩;refine S.X9 h λd hd=>⟨hd.1,λv G' H' S' x dv=>?_⟩;obtain ⟨_,ds,h1,h⟩:=hd;obtain ⟨l,xs,_,_,e2,e3,_⟩:=S'.one hm h1;refine ⟨_,e2,S'.ev true h ?_⟩;rintro _ ⟨k,j,rfl,hj,h3⟩;refine ⟨rfl,λv1 G1 H1 S1 x1 Dm=>?_⟩;cases Dm;obtain ⟨l',qi,qs,e1,jt,t6,bB,put⟩:=S1.one hm h1;cases e1;rw [e2] at jt;cases jt;exact ⟨l,qi,k,j,rfl,rfl,t6,by rw [bB.length];exact hj,M.nx _ h3 _ _ ⟨G1,fp,put _ _ (bB.set (dv.mono x1.gg) j)⟩⟩
end
end L2
namespace rK
open PySem L2 Wb
variable {P:Program} {w:World} {mg:Str→Option Value} {base:Heap} {Z:DC} (T:Txt Z mg)
def Ho:dD:=λds P=>∃(ns:List Int)(k:Nat),ds= [.kH ns,ae k]∧∀v:Int,P (.int v)
theorem dW:FnOk P w Z.K mg base di 1 T.d__law_cell_at.f T.d__law_cell_at.fd ["_law_script","_law_k"] (aT Z Ho):=by
 have nd:=kF.nd;refine bg T.d__law_cell_at.F kF [0,0] (by decide) (λds R h=>by obtain ⟨_,_,rfl,_⟩:=h;rfl) (λbQ A outer s H E ds R hr h=>?_)
 have hu:=hr.units
 refine ⟨_,(ah (cY (aU vy (aa 1) (ax aP rfl T.B.len aO (ab (aa 0) ag)) (bH _)) (au (aM (bF (aa 0) (aa 1)))) bJ)
   (au (aM aw))),?_⟩
 obtain ⟨ns,k,rfl,q⟩:=h;refine ⟨_,rfl,_,rfl,?_⟩;refine ⟨_,rfl,cB (λe=>?_) (λe=>?_)⟩
 ·have hk:k<ns.length:=by
   have:=of_decide_eq_true e
   omega
  exact ⟨_,rfl,_,rfl,_,Bp (bz hk),q _⟩
 ·exact q 0
def Kz:dD:=λds P=>∃(c:Int),ds= [.int c]∧∀v:Int,P (.int v)
theorem g6(a b:Int)(h:0<b):0≤a%b∧a%b<b:=⟨Int.emod_nonneg _ (by omega),Int.emod_lt_of_pos _ h⟩
theorem Lx{i j:Int}{P:D→Prop}{ρ:DN}(h:P (.bl (decide (i=j)))):dC (.int j) ρ (λb=>Li (.int i) b P):=uS h
theorem gz:FnOk P w Z.K mg base di 1 T.d__law_drawn.f T.d__law_drawn.fd ["_law_cell"] (aT Z Kz):=by
 have nd:=nG.nd;refine bg T.d__law_drawn.F nG [0,0] (by decide) (λds R h=>by obtain ⟨_,rfl,_⟩:=h;rfl) (λbQ A outer s H E ds R hr h=>?_)
 have hu:=hr.units
 refine ⟨_,(ah (cY (DW.dt (pL (aU (pX hu) (aa 0) aw (bH _)) (n5 (DW.dt (uq (aU (pX hu) (aA cu (aa 0) aw) aw (bH _)) (qv (aU En (aa 0) (aA FG aw aw) (bH _)))))))) (au (aM (aA fC (aa 0) aw))) bJ)
   (ah (aF false 1 nd (aA cu (aA bE (aA uv (aA cu (aa 0) aw) aw) aw) aw))
   (ah (aF false 1 nd (aA cu (aA bE (aA uv (aa 1) (aa 1)) aw) aw))
   (au (aM (aA fC (aA FG (aA bE (aa 1) aw) aw) aw)))))),?_⟩
 obtain ⟨c,rfl,q⟩:=h;have m1:=g6 (c%2147483629*48271+7919) 2147483647 (by decide)
 have m2:=g6 ((c%2147483629*48271+7919)%2147483647*((c%2147483629*48271+7919)%2147483647)+104729) 2147483629 (by decide)
 have fin:∀v:Int,R (.int v):=q;refine ⟨_,rfl,Lx ⟨_,rfl,cB (λ_=>eY ⟨_,rfl,⟨by decide,by decide⟩,q _⟩) (λ_=>?_)⟩⟩
 refine ⟨_,rfl,(by show (0:Int)<2;decide),Lx ⟨_,rfl,cB (λ_=>⟨_,rfl,⟨by decide,by decide,by decide⟩,_,rfl,cB (λ_=>⟨_,rfl,⟨by decide,by decide⟩,q _⟩) (λ_=>?_)⟩) (λ_=>dg ?_)⟩⟩
 ·refine ⟨_,rfl,(by show (0:Int)<2147483629;decide), .inr ⟨by decide,by decide⟩,(by show (0:Int)<2147483647;decide),trivial,?_⟩
  refine ⟨_,rfl,_,rfl, .inl ⟨by dsimp only;omega,by dsimp only;omega⟩,(by show (0:Int)<2147483629;decide),trivial,?_⟩
  exact ⟨_,rfl,⟨by decide,by decide,by dsimp only;omega⟩,⟨by decide,by decide⟩,q _⟩
 ·refine ⟨_,rfl,(by show (0:Int)<2147483629;decide), .inr ⟨by decide,by decide⟩,(by show (0:Int)<2147483647;decide),trivial,?_⟩
  refine ⟨_,rfl,_,rfl, .inl ⟨by dsimp only;omega,by dsimp only;omega⟩,(by show (0:Int)<2147483629;decide),trivial,?_⟩
  exact ⟨_,rfl,⟨by decide,by decide,by dsimp only;omega⟩,⟨by decide,by decide⟩,q _⟩
theorem sO(w:W)(i:Nat)(r:List Nat):(w.map aq).set i (aq r)=(w.set i r).map aq:=by rw [List.map_set]
theorem dH{α:Type}(l:List α)(k:Nat)(h:k≤l.length):cutD l (some (k:Int)) none=l.drop k:=by
 unfold cutD
 have e1:HT.bP l.length 0 (some (k:Int))=k:=by
  simp only [HT.bP]
  split<;>omega
 have e2:HT.bP l.length l.length none=l.length:=rfl;rw [e1,e2];exact tT (by simp)
theorem ig{w:W}{p:Nat}(h:p<w.length):gu (w.map aq) (p:Int)=some (aq (row w p)):=iQ (vZ h)
theorem eG{ns:List Nat}{p:Nat}(h:p<ns.length):gu (ns.map ae) (p:Int)=some (ae (ns.getD p 0)):=iQ (by rw [e7,aL,bz h];rfl)
variable {P:Program} {w:World} {mg:Str→Option Value} {base:Heap} {Z:DC} (T:Txt Z mg)
def KA:dD:=λds P=>∃(n:Int),ds= [.int n]∧∀w R,cw w R→3≤w.length→w.length≤14→P (.tup [aN w,aq R])
theorem vB:FnOk P w Z.K mg base di 1 T.d__law_grown.f T.d__law_grown.fd ["_law_number"] (aT Z KA):=by
 have nd:=nH.nd;refine bg T.d__law_grown.F nH [0,1,0,0,0,0,0,0,0] (by decide) (λds R h=>by obtain ⟨_,rfl,_⟩:=h;rfl) (λbQ A outer s H E ds R hr h=>?_)
 have hu:=hr.units
 refine ⟨_,(ah (qu 1 nd (qr (ab (eX (ab aw (ab aw ag))) (ab (eX (ab aw (ab aw ag))) (ab (eX (ab aw (ab aw ag))) ag)))))
   (ah (aF false 2 nd (eX (ab aw (ab aw (ab aw ag)))))
   (ah (aF false 3 nd (aA bE aw (aA cu (aa 0) aw)))
   (ah (aF false 0 nd (aA fC (aa 0) aw))
   (ah (qt rfl PassesOwn.never (Dj rfl T.B.range (ab aw (ab (aa 3) ag))) (aR 4 nd) (ah (aF false 5 nd (aA cu (aa 0) (ax aP rfl T.B.len aO (ab (aa 2) ag))))
   (ah (aF false 6 nd (aA bE aw (aA cu (aA fC (aa 0) (ax aP rfl T.B.len aO (ab (aa 2) ag))) (aA lh (ax aP rfl T.B.len aO (ab (aa 2) ag)) aw))))
   (ah (aF false 0 nd (aA fC (aa 0) (aA uv (ax aP rfl T.B.len aO (ab (aa 2) ag)) (aA lh (ax aP rfl T.B.len aO (ab (aa 2) ag)) aw))))
   (ah (aF false 2 nd (aA bE (bp (aa 2) (bw (aa 5)) bR) (bp (aa 2) bR (bw (aa 5)))))
   (ah (aF false 7 nd (bp (aa 2) bR (bw (aA bE (aa 6) aw))))
   (ah (uo false 1 (tB rfl rfl T.B.list rfl T.B.reversed (ab (aa 7) ag)))
   (ah (pK 1 (bF (aa 7) aw) (Fm (eX (ab (aa 4) ag)) (bF (aa 1) (bF (aa 7) aw))))
   (ah (fz rfl PassesOwn.never (bZ (bp (aa 7) (bw aw) bR)) (aR 8 nd) (au (pK 1 (aa 8) (Fm (bF (aa 1) (aa 8)) (eX (ab (aa 4) ag))))))
   (au (aF false 2 nd (aA bE (eX (ab (bF (aa 7) aw) (ab (aa 4) ag))) (bp (aa 2) (bw (aa 6)) bR)))))))))))))
   (au (aM (fP (ab (aa 1) (ab (aa 2) ag)))))))))),?_⟩
 obtain ⟨n,rfl,q⟩:=h;refine ⟨by show 2≤sizeLine;decide,by show 2≤sizeLine;decide,by show 2≤sizeLine;decide,by show 3≤sizeLine;decide,?_⟩
 refine ⟨by show 3≤sizeLine;decide,trivial,?_⟩
 refine ⟨_,rfl,(by show (0:Int)<12;decide),trivial,?_⟩
 refine ⟨_,rfl,⟨by decide,by decide⟩,trivial,?_⟩
 have m12:=g6 n 12 (by decide)
 refine ⟨_,rfl,⟨by decide,by decide,by show-(2^62)≤3+n%12;omega,by show 3+n%12<2^62;omega⟩,?_⟩
 rw [show (3+n%12-3).toNat=(n%12).toNat by omega]
 refine BJ (λj ρ=>∃(x:Int)(w:W)(R:List Nat)(o4 o5 o6 o7 o8:Option D),ρ= [some (.int x),some (aN w),some (aq R),some (.int (3+n%12)),o4,o5,o6,o7,o8]∧cw w R∧w.length=3+j) ?_ ?_ ?_
 ·exact ⟨_,[[1,2],[2,0],[0,1]],[0,1,2],_,_,_,_,_,rfl,zz,rfl⟩
 ·rintro j _ hj ⟨x,w',R',o4,o5,o6,o7,o8,rfl,Gr,hl⟩ A hA
  have h3:=Gr.len;have aae:=Gr.ug;have lR:(R'.map ae).length=R'.length:=aI _;have e0:(0:Int)<((R'.map ae).length:Int):=by rw [lR];omega
  have e1:(0:Int)<((R'.map ae).length:Int)-1:=by rw [lR];omega
  have e2:((R'.map ae).length:Int)≤14:=by rw [lR];omega
  refine ⟨_,rfl,_,rfl,e0,trivial,?_⟩;refine ⟨_,rfl,_,rfl,⟨e0,by omega⟩,_,rfl,e1,trivial,?_⟩
  have m1:=g6 x ((R'.map ae).length:Int) e0;have m2:=g6 (x / ((R'.map ae).length:Int)) (((R'.map ae).length:Int)-1) e1;generalize Ph:x%((R'.map ae).length:Int)=at_ at m1;generalize Ta:x / ((R'.map ae).length:Int)%(((R'.map ae).length:Int)-1)=fr at m2;obtain ⟨a,rfl⟩:∃a:Nat,at_=(a:Int):=⟨at_.toNat,by omega⟩
  obtain ⟨f',rfl⟩:∃f:Nat,fr=(f:Int):=⟨fr.toNat,by omega⟩
  rw [lR] at m1 m2;have p1:(0:Int)<((R'.map ae).length:Int)*(((R'.map ae).length:Int)-1):=Int.mul_pos e0 e1;have p2:((R'.map ae).length:Int)*(((R'.map ae).length:Int)-1)≤14*13:=Int.mul_le_mul e2 (by omega) (by omega) (by decide)
  refine ⟨_,rfl,_,rfl,_,rfl, .inl ⟨by omega,by omega⟩,⟨p1,(show ((R'.map ae).length:Int)*(((R'.map ae).length:Int)-1)<1073741824 by omega)⟩,trivial,?_⟩
  clear p1 p2;refine (?_:tx _ _ _ [some (.int (x / (((R'.map ae).length:Int)*(((R'.map ae).length:Int)-1)))),some (aN w'),some (aq R'),some (.int (3+n%12)),some (.int (3+(j:Int))),some (.int (x%((R'.map ae).length:Int))),some (.int (1+x / ((R'.map ae).length:Int)%(((R'.map ae).length:Int)-1))),o7,o8]);rw [Ph,Ta];generalize x / (((R'.map ae).length:Int)*(((R'.map ae).length:Int)-1))=x2;have ca:cutD (R'.map ae) (some (a:Int)) none=(R'.drop a).map ae:=by rw [dH _ _ (by rw [lR];omega),kL]
  have cb:cutD (R'.map ae) none (some (a:Int))=(R'.take a).map ae:=by rw [cX _ _ (by rw [lR];omega),jP]
  have Bj:cw w' (R'.drop a++R'.take a):=by
   have:=Gr
   rw [←iq a R'] at this;exact this.vO
  have Up:(R'.drop a++R'.take a).length=R'.length:=by rw [cy,dY,b8];omega
  have mI:(cutD (R'.map ae) (some (a:Int)) none).length+(cutD (R'.map ae) none (some (a:Int))).length≤sizeLine:=by
   rw [ca,cb,aI,aI];exact small (by rw [cy] at Up;omega)
  have er:(.lst (cutD (R'.map ae) (some (a:Int)) none++cutD (R'.map ae) none (some (a:Int))):D)=aq (R'.drop a++R'.take a):=by rw [ca,cb];unfold aq;rw [eJ]
  refine ⟨_,rfl,_,rfl,_,rfl,_,rfl,mI,trivial,?_⟩;refine (?_:tx _ _ _ [some (.int x2),some (aN w'),some (.lst (cutD (R'.map ae) (some (a:Int)) none++cutD (R'.map ae) none (some (a:Int)))),some (.int (3+n%12)),some (.int (3+(j:Int))),some (.int (a:Int)),some (.int (1+(f':Int))),o7,o8]);rw [er];clear er ca cb mI;generalize R'.drop a++R'.take a=R1 at Bj Up;have l1:(R1.map ae).length=R1.length:=aI _
  have ct:cutD (R1.map ae) none (some ((1:Int)+(f':Int)+1))=(R1.take (f'+1+1)).map ae:=by
   rw [show (1:Int)+(f':Int)+1=((f'+1+1:Nat):Int) by omega,cX _ _ (by rw [l1];omega),jP]
  refine ⟨_,rfl,_,rfl,trivial,?_⟩;refine (?_:tx _ _ _ [some (.int x2),some (aN w'),some (aq R1),some (.int (3+n%12)),some (.int (3+(j:Int))),some (.int (a:Int)),some (.int (1+(f':Int))),some (.lst (cutD (R1.map ae) none (some ((1:Int)+(f':Int)+1)))),o8]);rw [ct];have B6:(R1.take (f'+1+1)).length=f'+2:=by rw [b8];omega
  have la:((R1.take (f'+1+1)).map ae).length=f'+2:=by rw [aI];exact B6
  have lw:(w'.map aq).length=3+j:=by rw [aI];exact hl
  refine ⟨_,rfl,_,rfl,trivial,g8 (by rw [lw];omega),?_⟩
  have ea:(.lst (w'.map aq++ [.lst ((R1.take (f'+1+1)).map ae).reverse]):D)=aN (w'++ [(R1.take (f'+1+1)).reverse]):=by
   unfold aN aq;rw [eJ,←List.map_reverse];rfl
  refine (?_:tx _ _ _ [some (.int x2),some (.lst (w'.map aq++ [.lst ((R1.take (f'+1+1)).map ae).reverse])),some (aq R1),some (.int (3+n%12)),some (.int (3+(j:Int))),some (.int (a:Int)),some (.int (1+(f':Int))),some (aq (R1.take (f'+1+1))),o8]);rw [ea];clear ea;have Vx:R1.getD 0 0<w'.length:=Bj.Qp (az (by omega))
  have g0:(R1.take (f'+1+1)).getD 0 0=R1.getD 0 0:=by rw [aL,pk (by omega),←aL]
  have a0:gu ((R1.take (f'+1+1)).map ae) (0:Int)=some (ae (R1.getD 0 0)):=by
   have:=eG (ns:=R1.take (f'+1+1)) (p:=0) (by omega)
   rw [g0] at this;exact this
  have lw1:(w'++ [(R1.take (f'+1+1)).reverse]).length=w'.length+1:=by simp
  have a1:=ig (w:=w'++ [(R1.take (f'+1+1)).reverse]) (p:=R1.getD 0 0) (by omega)
  rw [vQ,if_neg (by omega)] at a1
  have rl0:=dX Bj.g (R1.getD 0 0);have ev:(3:Int)+(j:Int)=((w'.length:Nat):Int):=by omega
  refine ⟨_,rfl,by show 1≤sizeLine;decide,_,rfl,_,rfl,_,rfl,_,a0,_,a1,_,rfl,small (by rw [aI];show 1+_≤1000;omega),?_,_,rfl,_,rfl,_,a0,_,R1.getD 0 0,rfl,kh (by rw [aI];omega),?_⟩
  ·rw [List.all_append,bS];rfl
  have M0:=zb.start (w:=w') (R:=R1) (f:=f'+1) Vx
  have es:(.lst (((w'++ [(R1.take (f'+1+1)).reverse]).map aq).set (R1.getD 0 0) (.lst ([.int ((3:Int)+(j:Int))]++(row w' (R1.getD 0 0)).map ae))):D)=aN ((w'++ [(R1.take (f'+1+1)).reverse]).set (R1.getD 0 0) (w'.length::row w' (R1.getD 0 0))):=by
   rw [ev];unfold aN;rw [←sO];rfl
  refine (?_:tx _ _ _ [some (.int x2),some (.lst (((w'++ [(R1.take (f'+1+1)).reverse]).map aq).set (R1.getD 0 0) (.lst ([.int ((3:Int)+(j:Int))]++(row w' (R1.getD 0 0)).map ae)))),some (aq R1),some (.int (3+n%12)),some (.int (3+(j:Int))),some (.int (a:Int)),some (.int (1+(f':Int))),some (aq (R1.take (f'+1+1))),o8]);rw [es];clear es a1
  have cd:cutD ((R1.take (f'+1+1)).map ae) (some (1:Int)) none=((R1.take (f'+1+1)).drop 1).map ae:=by
   have:=dH ((R1.take (f'+1+1)).map ae) 1 (by rw [la];omega)
   rw [kL];exact this
  have ld:((R1.take (f'+1+1)).drop 1).length=f'+1:=by rw [dY,B6];omega
  refine ⟨_,rfl,?_⟩;refine (?_:mY _ _ _ (cutD ((R1.take (f'+1+1)).map ae) (some (1:Int)) none) _);rw [cd];refine dA (λk ρ=>∃(w2:W)(o8:Option D),ρ= [some (.int x2),some (aN w2),some (aq R1),some (.int (3+n%12)),some (.int (3+(j:Int))),some (.int (a:Int)),some (.int (1+(f':Int))),some (aq (R1.take (f'+1+1))),o8]∧zb w' w2 R1 (f'+1) k) ⟨_,_,rfl,M0⟩ ?_ ?_
  ·rintro k d _ hd ⟨w2,p8,rfl,M⟩ A' DH
   obtain ⟨y,hy,rfl⟩:=eF hd
   have hk:k<f'+1:=by
    have:=(eU.mp hy).1
    omega
   have ey:y=R1.getD (k+1) 0:=by
    rw [pz,pk (by omega)] at hy
    rw [aL,Nat.add_comm k 1,hy];rfl
   subst ey;have ylt:R1.getD (k+1) 0<w'.length:=Bj.Qp (az (by omega))
   have l2:=M.l;have a2:=ig (w:=w2) (p:=R1.getD (k+1) 0) (by omega)
   have rl:(row w2 (R1.getD (k+1) 0)).length≤14:=by
    rw [M.ro _ (by omega) (λi hi e=>by have:=getD_inj Bj.nd (by omega) (by omega) e;omega)]
    have:=dX Bj.g (R1.getD (k+1) 0)
    omega
   refine ⟨_,rfl,_,rfl,_,a2,_,rfl,_,rfl,by show 1≤sizeLine;decide,_,rfl,small (by rw [aI];show _+1≤1000;omega),?_,_,rfl,_,rfl,_,R1.getD (k+1) 0,rfl,kh (by rw [aI];omega),?_⟩
   ·rw [List.all_append,bS];rfl
   refine DH _ ⟨w2.set (R1.getD (k+1) 0) (row w2 (R1.getD (k+1) 0)++ [w'.length]),some (ae (R1.getD (k+1) 0)),?_,M.step Bj.nd (by omega) (by omega) ylt⟩
   have IJ:(.lst ((w2.map aq).set (R1.getD (k+1) 0) (.lst ((row w2 (R1.getD (k+1) 0)).map ae++ [.int ((3:Int)+(j:Int))]))):D)=aN (w2.set (R1.getD (k+1) 0) (row w2 (R1.getD (k+1) 0)++ [w'.length])):=by
    rw [ev];unfold aN;rw [←sO];unfold aq;rw [eJ];rfl
   rw [←IJ];rfl
  ·rintro _ ⟨w2,p8,rfl,M⟩
   rw [aI,ld] at M;have St:=M.fin (by omega) (by omega)
   have G2:=CJ Bj St
   have cf:cutD (R1.map ae) (some ((1:Int)+(f':Int))) none=(R1.drop (f'+1)).map ae:=by
    rw [show (1:Int)+(f':Int)=((f'+1:Nat):Int) by omega,dH _ _ (by rw [l1];omega),kL]
   have szf:(2:Nat)+(cutD (R1.map ae) (some ((1:Int)+(f':Int))) none).length≤sizeLine:=by
    rw [cf,aI,dY];exact small (by omega)
   refine ⟨_,rfl,_,a0,_,rfl,by show 2≤sizeLine;decide,_,rfl,_,rfl,szf,trivial,?_⟩
   refine hA _ ⟨x2,w2,cc R1 (f'+1) w'.length,some (.int (3+(j:Int))),some (.int (a:Int)),some (.int (1+(f':Int))),some (aq (R1.take (f'+1+1))),p8,?_,G2,by rw [M.l];omega⟩
   have ef:(.lst ([ae (R1.getD 0 0), .int ((3:Int)+(j:Int))]++cutD (R1.map ae) (some ((1:Int)+(f':Int))) none):D)=aq (cc R1 (f'+1) w'.length):=by
    rw [cf,ev];unfold cc aq;rfl
   rw [←ef];rfl
 ·rintro _ ⟨x,w',R',o4,o5,o6,o7,o8,rfl,Gr,hl⟩
  exact ⟨_,rfl,_,rfl,by show 2≤sizeLine;decide,q _ _ Gr (by omega) (by omega)⟩
end rK
namespace Wb
theorem Disc.congr{w:W}{R:List Nat}{A A':Nat×Nat→Prop}(D:Disc w R A)(h:∀d,A d↔A' d):Disc w R A':=by
 have:A=A':=funext λd=>propext (h d)
 rw [←this];exact D
def Full(w:W)(R:List Nat):Prop:=Disc w R λd=>aQ w d∧¬cz R d.1 d.2
theorem HU{a b:List Nat}(nd:(a++b).Nodup)(x y:Nat):cz (b++a) x y↔cz (a++b) x y:=by
 have mem:∀p,p∈b++a↔p∈a++b:=λp=>List.perm_append_comm.mem_iff
 constructor
 ·rintro ⟨h,e⟩;exact ⟨(mem x).mp h,by rw [e,fU nd ((mem x).mp h)]⟩
 ·rintro ⟨h,e⟩;exact ⟨(mem x).mpr h,by rw [e,fU nd h]⟩
theorem Full.vO{w:W}{a b:List Nat}(F:Full w (a++b)):Full w (b++a):=
 (Disc.vO F).congr λd=>by rw [HU F.nd]
theorem cw.full{w:W}{R:List Nat}(G:cw w R):Full w R:=G.IB
theorem kQ.full{w w':W}{f:Nat→Nat}(N:kQ w w' f)(g:Good w){R:List Nat}(F:Full w R):Full w' (R.map f):=by
 refine (N.IB g F).congr λd=>?_;have mG:∀{x y},aQ w (x,y)→x<w.length∧y<w.length:=λh=>⟨bI h,g.rng _ _ h⟩;have Eg:∀p∈R,p<w.length:=λp hp=>(mG (F.ring p hp).1).2;have inj:∀p∈R,∀y∈R,f y=f p→y=p:=λp hp y hy e=>N.inj y p (Eg y hy) (Eg p hp) e;have sR:∀p∈R,af (R.map f) (f p)=f (af R p):=λp hp=>qe (inj p hp) hp
 have key:∀x y,x<w.length→y<w.length→(cz (R.map f) (f x) (f y)↔cz R x y):=λx y hx hy=>by
  constructor
  ·rintro ⟨hm,e⟩
   obtain ⟨p,hp,ep⟩:=bK.mp hm
   have:=N.inj p x (Eg p hp) hx ep
   subst this;rw [sR p hp] at e;exact ⟨hp,N.inj y _ hy (Eg _ (bf hp)) e⟩
  ·rintro ⟨hm,e⟩
   exact ⟨bK.mpr ⟨x,hm,rfl⟩,by rw [sR x hm,e]⟩
 constructor
 ·rintro ⟨x,y,⟨h1,h2⟩,rfl⟩
  have:=mG h1
  exact ⟨(N.dart g this.1 this.2).mpr h1,λz=>h2 ((key x y this.1 this.2).mp z)⟩
 ·rintro ⟨h1,h2⟩
  obtain ⟨x,y,h,rfl⟩:=N.all g h1
  have:=mG h
  exact ⟨x,y,⟨h,λz=>h2 ((key x y this.1 this.2).mpr z)⟩,rfl⟩
theorem Eb{w:W}(g:Good w)(tri:∀d,aQ w d→aZ w (aZ w (aZ w d))=d){a b:Nat}(hd:aQ w (a,b)):Full w [a,b,af (row w b) a]:=by
 have D:=Ea g tri hd;refine D.congr λd=>?_;have nd:=D.nd;generalize af (row w b) a=c at*;have s1:af [a,b,c] a=b:=bY (a:= []) (b:= [c]) nd;have s2:af [a,b,c] b=c:=bY (a:= [a]) (b:= []) nd;have s3:af [a,b,c] c=a:=cV (b:= [b]) nd;obtain ⟨x,y⟩:=d;refine and_congr Iff.rfl ?_
 constructor
 ·rintro ⟨h1,h2,h3⟩ ⟨hm,e⟩
  have e:y=af [a,b,c] x:=e;have hm:x=a∨x=b∨x=c:=by simpa using hm
  rcases hm with rfl|rfl|rfl
  ·exact h1 (by rw [e,s1])
  ·exact h2 (by rw [e,s2])
  ·exact h3 (by rw [e,s3])
 ·intro h
  refine ⟨λz=>h ?_,λz=>h ?_,λz=>h ?_⟩
  ·obtain ⟨rfl,rfl⟩:=Prod.mk.injEq .. ▸z;exact ⟨by simp,s1.symm⟩
  ·obtain ⟨rfl,rfl⟩:=Prod.mk.injEq .. ▸z;exact ⟨by simp,s2.symm⟩
  ·obtain ⟨rfl,rfl⟩:=Prod.mk.injEq .. ▸z;exact ⟨by simp,s3.symm⟩
theorem Good.FX{w:W}(g:Good w)(h2:2≤w.length){p:Nat}(hp:p<w.length):row w p≠ []:=by
 obtain ⟨p',jV,ne⟩:∃p',p'<w.length∧p'≠p:=by
  by_cases c:p=0
  ·exact ⟨1,by omega,by omega⟩
  ·exact ⟨0,by omega,by omega⟩
 have r:=((g.con p' jV).symm g.sym).trans (g.con p hp);cases r with
 |refl=>exact absurd rfl ne
 |step _ h=>
  have:=g.sym _ _ h
  intro e;rw [e] at this;cases this
end Wb
namespace rK
open PySem L2 Wb
variable {P:Program} {w:World} {mg:Str→Option Value} {base:Heap} {Z:DC} (T:Txt Z mg)
theorem rS{g:dR}{tb:e8}{E:gT}{n:Nat}{ρ:DN}(I:Nat→DN→Prop)(h0:I 0 ρ)(hs:∀(j:Nat)(ρ:DN),j<n→I j ρ→∀A:DN→Prop,(∀ρ,I (j+1) ρ→A ρ)→g (ae j) ρ λaW=>tb {nx:=A,ct:=A,bk:=E.nx,rt:=E.rt} aW)
  (he:∀ρ,I n ρ→E.nx ρ):mY g tb E (dQ 0 n) ρ:=BJ I h0 (λj ρ hj h A hA=>by
 have:=hs j ρ hj h A hA
 unfold ae at this;rw [Int.zero_add];exact this) he
theorem GP(r:List Nat)(i x:Nat):ins (r.map ae) i (ae x)=(ins r i x).map ae:=by
 unfold ins;simp [jP,kL]
def zc(n:Nat)(ns:List Nat):Prop:=ns.length=n∧ns.Nodup∧∀x∈ns,x<n
theorem Ej{n:Nat}{ns:List Nat}(N:zc n ns){x:Nat}(h:x<n):x∈ns:=by
 apply Classical.byContradiction;intro hx
 have:(x::ns).length≤(List.range n).length:=aX (gS.mpr ⟨hx,N.2.1⟩) λy hy=>by
  rcases cv.mp hy with rfl|hy
  ·exact cE.mpr h
  ·exact cE.mpr (N.2.2 y hy)
 rw [iu,dB,N.1] at this;omega
theorem nj{f:DN→Prop}{aD:DN}(ρ:DN)(e:aD=ρ)(h:f ρ):f aD:=by rw [e];exact h
structure NR (w F:W) (ns:List Nat) (k:Nat):Prop where
 l:F.length=w.length
 r:∀i,i<k→∃a b,row w i=a++b∧row F (ns.getD i 0)=(b++a).map λx=>ns.getD x 0
theorem NR.step{w F:W}{ns:List Nat}{k a:Nat}(h:NR w F ns k)(N:zc w.length ns)(hk:k<w.length):NR w (F.set (ns.getD k 0) (((row w k).drop a++(row w k).take a).map λx=>ns.getD x 0)) ns (k+1):=by
 have lt:ns.getD k 0<F.length:=by rw [h.l];exact N.2.2 _ (az (by rw [N.1];exact hk))
 refine ⟨by rw [mn];exact h.l,λi hi=>?_⟩
 by_cases c:i=k
 ·subst c
  exact ⟨(row w i).take a,(row w i).drop a,(iq _ _).symm,by rw [qY lt,if_pos rfl]⟩
 ·obtain ⟨x,y,e1,e2⟩:=h.r i (by omega)
  exact ⟨x,y,e1,by rw [qY lt,if_neg (λz=>c (getD_inj N.2.1 (by rw [N.1];omega) (by rw [N.1];omega) z.symm)),e2]⟩
theorem NR.ren{w F:W}{ns:List Nat}(h:NR w F ns w.length)(N:zc w.length ns):kQ w F λx=>ns.getD x 0 where
 len:=h.l
 lt:=λx hx=>N.2.2 _ (az (by rw [N.1];exact hx))
 inj:=λx y hx hy e=>getD_inj N.2.1 (by rw [N.1];exact hx) (by rw [N.1];exact hy) e
 onto:=λy hy=>by
  obtain ⟨i,hi,e⟩:=fM.mp (Ej N hy);exact ⟨i,by rw [N.1] at hi;exact hi,by rw [aL,bz hi];exact e⟩
 rows:=λx hx=>h.r x hx
def Hv:dD:=λds P=>∃(w:W)(R:List Nat)(num:Int),ds= [aN w,aq R, .int num]∧Good w∧oF w∧3≤w.length∧w.length≤14∧Full w R∧∀F R',Good F→oF F→F.length=w.length→Full F R'→P (.tup [aN F,aq R'])
theorem Full.ug{w:W}{R:List Nat}(g:Good w)(F:Full w R):R.length≤w.length:=by
 have:=aX F.nd (m:=List.range w.length) λx hx=>cE.mpr (g.rng _ _ (F.ring x hx).1)
 rw [iu] at this;exact this
theorem vC:FnOk P w Z.K mg base di 1 T.d__law_named.f T.d__law_named.fd ["_law_turns","_law_ring","_law_number"] (aT Z Hv):=by
 have nd:=nI.nd;refine bg T.d__law_named.F nI [0,0,0,1,0,1,0,0] (by decide) (λds R h=>by obtain ⟨_,_,_,rfl,_⟩:=h;rfl) (λbQ A outer s H E ds R hr h=>?_)
 have hu:=hr.units
 refine ⟨_,(ah (qu 3 nd (qr ag))
   (ah (qt rfl PassesOwn.never (pJ rfl T.B.range (ab (ax aP rfl T.B.len aO (ab (aa 0) ag)) ag)) (aR 4 nd) (ah (Lu false 3 (aA cu (aa 2) (aA bE (aa 4) aw)) (aa 4))
   (au (aF false 2 nd (aA fC (aa 2) (aA bE (aa 4) aw))))))
   (ah (xA 5 (NC:= ["_law_row"]) (src:= [none]) rfl nd (oH (ar eN)) trivial (bZ (aa 0)) (λ_ _ _=>(bU 0 (show (["_law_row"]:List Str).Nodup from by decide+kernel))) (λ_ _ _=>eC) (λ_ _ _=>(eX ag)))
   (ah (fz rfl PassesOwn.never (h8 rfl T.B.enumerate (ab (aa 0) ag)) (gw 2 rfl (bx (aR 4 nd) (bx (aR 6 nd) dS))) (ah (aF false 7 nd (aA cu (aa 2) (ax aP rfl T.B.len aO (ab (aa 6) ag))))
   (ah (aF false 2 nd (aA fC (aa 2) (ax aP rfl T.B.len aO (ab (aa 6) ag))))
   (au (pK 5 (bF (aa 3) (aa 4)) (OO (NC:= ["_law_other","_law_names"]) (src:= [none,some 3]) rfl (oH (ar eN)) ⟨rfl,rfl,trivial⟩ (bZ (aA bE (bp (aa 6) (bw (aa 7)) bR) (bp (aa 6) bR (bw (aa 7))))) (λ_ _ _=>(bU 0 (show (["_law_other","_law_names"]:List Str).Nodup from by decide+kernel))) (λ_ _ _=>eC) (λ_ _ _=>(bF (aa 1) (aa 0)))))))))
   (ah (aF false 7 nd (aA cu (aa 2) (ax aP rfl T.B.len aO (ab (aa 1) ag))))
   (au (aM (fP (ab (aa 5) (ab (kR (NC:= ["_law_point","_law_names"]) (src:= [none,some 3]) rfl (oH (ar eN)) ⟨rfl,rfl,trivial⟩ (bZ (aA bE (bp (aa 1) (bw (aa 7)) bR) (bp (aa 1) bR (bw (aa 7))))) (λ_ _ _=>(bU 0 (show (["_law_point","_law_names"]:List Str).Nodup from by decide+kernel))) (λ_ _ _=>eC) (λ_ _ _=>(bF (aa 1) (aa 0)))) ag)))))))))),?_⟩
 obtain ⟨w',R',num,rfl,g,B,h3,bL,Fl,q⟩:=h;have lw:(w'.map aq).length=w'.length:=aI _;refine ⟨by show 0≤sizeLine;decide,?_⟩
 refine ⟨_,rfl,⟨by omega,by show ((w'.map aq).length:Int)<2^62;omega⟩,?_⟩
 rw [show (((w'.map aq).length:Int)).toNat=w'.length by omega]
 refine rS (λj ρ=>∃(y:Int)(ns:List Nat)(o4 o5 o6 o7:Option D),ρ= [some (aN w'),some (aq R'),some (.int y),some (aq ns),o4,o5,o6,o7]∧zc j ns) ⟨num,[],_,_,_,_,rfl,rfl,mw,λx h=>by cases h⟩ ?_ ?_
 ·rintro j _ hj ⟨y,ns,o4,o5,o6,o7,rfl,hl,nd,lt⟩ A hA
  have mq:=g6 y ((j:Int)+1) (by omega)
  have lr:(ns.map ae).length=j:=by rw [aI,hl]
  refine ⟨_,rfl,_,rfl,_,rfl,by show (0:Int)<(j:Int)+1;omega,_,rfl,_,rfl,trivial,⟨mq.1,by rw [lr];show y%((j:Int)+1)≤_;omega,g8 (by rw [lr];omega)⟩,?_⟩
  refine ⟨_,rfl,_,rfl,⟨by show (0:Int)<(j:Int)+1;omega,by show (j:Int)+1<1073741824;omega⟩,trivial,?_⟩
  refine hA _ ⟨y / ((j:Int)+1),ins ns (y%((j:Int)+1)).toNat j,some (ae j),o5,o6,o7,?_,by rw [BW,hl],El nd (λz=>by have:=lt j z;omega),λx hx=>?_⟩
  ·unfold aq;rw [←GP];rfl
  ·rcases JE.mp hx with rfl|hx
   ·omega
   ·have:=lt x hx;omega
 ·rintro _ ⟨y,ns,o4,o5,o6,o7,rfl,N⟩
  refine ⟨_,rfl,jC (ρ:= [none]) aq (λ_=> .lst []) w' _ (λy hy Y h=>⟨by show 0≤sizeLine;decide,h⟩) rfl (small (by omega)) λaD=>?_⟩
  have e0:(.lst (w'.map λ_=>(.lst []:D)):D)=aN (w'.map λ_=> []):=by unfold aN;rw [gd];rfl
  refine (?_:tx _ _ _ [some (aN w'),some (aq R'),some (.int y),some (aq ns),o4,some (.lst (w'.map λ_=>(.lst []:D))),o6,o7]);rw [e0];refine ⟨_,rfl,dA (λk ρ=>∃(y:Int)(F:W)(o4 o6 o7:Option D),ρ= [some (aN w'),some (aq R'),some (.int y),some (aq ns),o4,some (aN F),o6,o7]∧NR w' F ns k) ⟨_,_,_,_,_,rfl,by simp,λi h=>by omega⟩ ?_ ?_⟩
  ·rintro k d _ hd ⟨y,F,p4,p6,p7,rfl,nr⟩ A hA
   obtain ⟨d',hy,rfl⟩:=kT hd;obtain ⟨r,Tw,rfl⟩:=eF hy;have hk:k<w'.length:=(eU.mp Tw).1;have er:row w' k=r:=FY Tw
   have VI:0<r.length:=by
    have:=g.FX (by omega) hk
    rw [er] at this;exact tU.mpr this
   have rl:=dX g k;rw [er] at rl;have lr:(r.map ae).length=r.length:=aI _;have e1:(0:Int)<((r.map ae).length:Int):=by rw [lr];omega
   refine ⟨rfl,rfl,?_⟩;refine ⟨_,rfl,_,rfl,e1,trivial,?_⟩;refine ⟨_,rfl,_,rfl,⟨e1,by rw [lr];omega⟩,trivial,?_⟩
   have m1:=g6 y ((r.map ae).length:Int) e1;refine nj [some (aN w'),some (aq R'),some (.int (y / ((r.map ae).length:Int))),some (aq ns),some (ae k),some (aN F),some (aq r),some (.int (y%((r.map ae).length:Int)))] rfl ?_;generalize Ph:y%((r.map ae).length:Int)=at_ at m1;obtain ⟨a,rfl⟩:∃a:Nat,at_=(a:Int):=⟨at_.toNat,by omega⟩
   rw [lr] at m1;have ca:cutD (r.map ae) (some (a:Int)) none=(r.drop a).map ae:=by rw [dH _ _ (by rw [lr];omega),kL]
   have cb:cutD (r.map ae) none (some (a:Int))=(r.take a).map ae:=by rw [cX _ _ (by rw [lr];omega),jP]
   have l2:(r.drop a++r.take a).length=r.length:=by rw [cy,dY,b8];omega
   have mI:(cutD (r.map ae) (some (a:Int)) none).length+(cutD (r.map ae) none (some (a:Int))).length≤sizeLine:=by
    rw [ca,cb,aI,aI];exact small (by rw [cy] at l2;omega)
   refine ⟨_,rfl,_,rfl,_,rfl,_,rfl,mI,?_⟩;refine (?_:lcW _ _ _ (cutD (r.map ae) (some (a:Int)) none++cutD (r.map ae) none (some (a:Int))) _ _ _);rw [ca,cb,←eJ];refine jC (ρ:= [none,some (aq ns)]) ae (λo=>ae (ns.getD o 0)) (r.drop a++r.take a) _ (λo ho Y hY=>?_) rfl (small (by omega)) λaD=>?_
   ·have:o∈r:=by
     have:o∈r.take a++r.drop a:=List.perm_append_comm.mem_iff.mp ho
     rw [iq] at this;exact this
    have bN:o<ns.length:=by rw [N.1];exact g.rng k o (by rw [er];exact this)
    exact ⟨_,rfl,_,rfl,_,eG bN,hY⟩
   ·have Px:k<ns.length:=by rw [N.1];exact hk
    have nlt:ns.getD k 0<F.length:=by rw [nr.l];exact N.2.2 _ (az Px)
    refine ⟨?_,_,rfl,_,rfl,_,rfl,_,eG Px,_,ns.getD k 0,rfl,kh (by rw [aI];exact nlt),?_⟩
    ·rw [List.all_map,List.all_eq_true];intro x _;rfl
    ·have Uy:=nr.step (a:=a) N hk
     rw [er] at Uy;refine hA _ ⟨y / ((r.map ae).length:Int),_,some (ae k),some (aq r),some (.int (a:Int)),?_,Uy⟩
     have es:(.lst ((F.map aq).set (ns.getD k 0) (.lst ((r.drop a++r.take a).map λo=>ae (ns.getD o 0)))):D)=aN (F.set (ns.getD k 0) ((r.drop a++r.take a).map λx=>ns.getD x 0)):=by
      unfold aN;rw [←sO];unfold aq;rw [gd];rfl
     rw [←es];rfl
  ·rintro _ ⟨y,F,p4,p6,p7,rfl,nr⟩
   rw [pM,lw] at nr;have Rn:=nr.ren N;have lR:(R'.map ae).length=R'.length:=aI _;have hR3:=Fl.len;have hRw:=Full.ug g Fl;have e1:(0:Int)<((R'.map ae).length:Int):=by rw [lR];omega
   refine ⟨_,rfl,_,rfl,e1,trivial,?_⟩;have m1:=g6 y ((R'.map ae).length:Int) e1;refine nj [some (aN w'),some (aq R'),some (.int y),some (aq ns),p4,some (aN F),p6,some (.int (y%((R'.map ae).length:Int)))] rfl ?_;generalize Ph:y%((R'.map ae).length:Int)=at_ at m1;obtain ⟨a,rfl⟩:∃a:Nat,at_=(a:Int):=⟨at_.toNat,by omega⟩
   rw [lR] at m1;have ca:cutD (R'.map ae) (some (a:Int)) none=(R'.drop a).map ae:=by rw [dH _ _ (by rw [lR];omega),kL]
   have cb:cutD (R'.map ae) none (some (a:Int))=(R'.take a).map ae:=by rw [cX _ _ (by rw [lR];omega),jP]
   have l2:(R'.drop a++R'.take a).length=R'.length:=by rw [cy,dY,b8];omega
   have mI:(cutD (R'.map ae) (some (a:Int)) none).length+(cutD (R'.map ae) none (some (a:Int))).length≤sizeLine:=by
    rw [ca,cb,aI,aI];exact small (by rw [cy] at l2;omega)
   have Fr:Full w' (R'.drop a++R'.take a):=by
    have:=Fl
    rw [←iq a R'] at this;exact this.vO
   refine ⟨_,rfl,_,rfl,_,rfl,_,rfl,_,rfl,mI,?_⟩;refine (?_:lcW _ _ _ (cutD (R'.map ae) (some (a:Int)) none++cutD (R'.map ae) none (some (a:Int))) _ _ _);rw [ca,cb,←eJ];refine jC (ρ:= [none,some (aq ns)]) ae (λo=>ae (ns.getD o 0)) (R'.drop a++R'.take a) _ (λo ho Y hY=>?_) rfl (small (by omega)) λaD=>?_
   ·have bN:o<ns.length:=by rw [N.1];exact g.rng _ _ (Fr.ring o ho).1
    exact ⟨_,rfl,_,rfl,_,eG bN,hY⟩
   ·refine ⟨by show 2≤sizeLine;decide,?_⟩
    have e2:(.lst ((R'.drop a++R'.take a).map λo=>ae (ns.getD o 0)):D)=aq ((R'.drop a++R'.take a).map λx=>ns.getD x 0):=by unfold aq;rw [gd];rfl
    have:=q F ((R'.drop a++R'.take a).map λx=>ns.getD x 0) (Rn.good g) (Rn.bnd g B) nr.l (Rn.full g Fr)
    rw [←e2] at this;exact this
variable {P:Program} {w:World} {mg:Str→Option Value} {base:Heap} {Z:DC} (T:Txt Z mg)
theorem zX{x:Nat}:∀(ns:List Nat)(m:Nat),m<ns.idxOf x→ns[m]? ≠some x
 | [],m,h=>by simp at h
 |a::ns,m,h=>by
  rw [sW] at h
  by_cases e:(a==x)=true
  ·rw [e] at h;simp at h
  ·rw [wx.mpr e] at h
   cases m with
   |zero=>intro z;simp at z;exact e (by simp [z])
   |succ m=>rw [tS];exact zX ns m (by simpa using h)
theorem D4{ns:List Nat}{x:Nat}{P:D→Prop}(h:x∈ns)(q:P (ae (ns.idxOf x))):fH (ae x)=true∧(ns.map ae).all fH=true∧∃(j:Nat)(z:D),(ns.map ae)[j]? =some z∧jz z (ae x)=true∧(∀(m:Nat) z,m<j→(ns.map ae)[m]? =some z→jz z (ae x)=false)∧P (.int (j:Nat)):=by
 have hl:=fq.mpr h;have e:ns[ns.idxOf x]? =some x:=by rw [bz hl];exact congrArg some (gK hl)
 refine ⟨rfl,bS _,ns.idxOf x,ae x,by rw [e7,e];rfl,by simp [jz,ae],λm z hm hz=>?_,q⟩
 obtain ⟨y,hy,rfl⟩:=eF hz
 have:y≠x:=by
  rintro rfl;exact zX _ _ hm hy
 have:¬((y:Int)=(x:Int)):=by omega
 simpa [jz,ae] using this
theorem aS{ns:List Nat}{x:Nat}(h:x∈ns):(ns.map ae)[ns.idxOf x]? =some (ae x)∧jz (ae x) (ae x)=true∧∀(m:Nat) z,m<ns.idxOf x→(ns.map ae)[m]? =some z→jz z (ae x)=false:=by
 have:=D4 (P:=λd=>d=ae (ns.idxOf x)) h rfl
 obtain ⟨_,_,j,z,h1,h2,h3,h4⟩:=this;have hl:=fq.mpr h;have e:ns[ns.idxOf x]? =some x:=by rw [bz hl];exact congrArg some (gK hl)
 refine ⟨by rw [e7,e];rfl,by simp [jz,ae],λm z hm hz=>?_⟩
 obtain ⟨y,hy,rfl⟩:=eF hz
 have:y≠x:=by
  rintro rfl;exact zX _ _ hm hy
 have:¬((y:Int)=(x:Int)):=by omega
 simpa [jz,ae] using this
theorem Ir{t u:e8}{E:gT}{ρ:DN}(h:t {E with nx:=u E} ρ):tx t u E ρ:=h
theorem p9(n:Nat):dQ 0 n=(List.range n).map λ(x:Nat)=>ae x:=by unfold dQ ae;simp
def Ky:dD:=λds P=>∃(ns:List Int),ds= [.kH ns]∧∀F R,Good F→oF F→3≤F.length→F.length≤14→Full F R→P (.tup [aN F,aq R])
theorem vA:FnOk P w Z.K mg base di 2 T.d__law_built.f T.d__law_built.fd ["_law_script"] (aT Z Ky):=by
 have nd:=nF.nd;refine bg T.d__law_built.F nF [0,0,0,0,0,0,0] (by decide) (λds R h=>by obtain ⟨_,rfl,_⟩:=h;rfl) (λbQ A outer s H E ds R hr h=>?_)
 have hu:=hr.units
 refine ⟨_,(ah (zu (aB T.d__law_grown (vB T) hr (ab (aB T.d__law_drawn (gz T) hr (ab (aB T.d__law_cell_at (dW T) hr (ab (aa 0) (ab aw ag))) ag)) ag)) (gw 2 rfl (bx (aR 1 nd) (bx (aR 2 nd) dS))))
   (ah (aF false 3 nd (aB T.d__law_drawn (gz T) hr (ab (aB T.d__law_cell_at (dW T) hr (ab (aa 0) (ab aw ag))) ag)))
   (ah (cY (aU (pX hu) (ax aP rfl T.B.len aO (ab (aa 2) ag)) aw (bH _)) (ah (aF false 4 nd (aA cu (aa 3) (ax aP rfl T.B.len aO (ab (aa 1) ag))))
   (ah (aF false 5 nd (bF (bF (aa 1) (aa 4)) (aA cu (aA fC (aa 3) (ax aP rfl T.B.len aO (ab (aa 1) ag))) (ax aP rfl T.B.len aO (ab (bF (aa 1) (aa 4)) ag)))))
   (ah (aF false 6 nd (bF (aa 1) (aa 5)))
   (au (aF false 2 nd (eX (ab (aa 4) (ab (aa 5) (ab (bF (aa 6) (aA cu (aA bE (iR (aa 6) (aa 4)) aw) (ax aP rfl T.B.len aO (ab (aa 6) ag)))) ag))))))))) bJ)
   (au (aM (aB T.d__law_named (vC T) hr (ab (aa 1) (ab (aa 2) (ab (aB T.d__law_drawn (gz T) hr (ab (aB T.d__law_cell_at (dW T) hr (ab (aa 0) (ab aw ag))) ag)) ag))))))))),?_⟩
 obtain ⟨ns,rfl,q⟩:=h;refine ⟨_,rfl,ns,0,rfl,λv0=>⟨v0,rfl,λv1=>⟨v1,rfl,λw' R' Gr h3 bL=>?_⟩⟩⟩;refine ⟨rfl,rfl,?_⟩;refine ⟨_,rfl,ns,4,rfl,λv2=>⟨v2,rfl,λv3=>⟨trivial,?_⟩⟩⟩;have lR:(R'.map ae).length=R'.length:=aI _;have lw:(w'.map aq).length=w'.length:=aI _;refine ⟨_,rfl,?_⟩;dsimp only [xu,Bq];refine Lx ⟨_,rfl,cB (λe=>?_) (λe=>?_)⟩
 ·have e3:R'.length=3:=by have:=of_decide_eq_true e;omega
  have tri:=λd hd=>Gr.three e3 (d:=d) hd;have e1:(0:Int)<((w'.map aq).length:Int):=by rw [lw];omega
  refine ⟨_,rfl,_,rfl,e1,trivial,?_⟩;have m1:=g6 v3 ((w'.map aq).length:Int) e1;refine nj [some (.kH ns),some (aN w'),some (aq R'),some (.int v3),some (.int (v3%((w'.map aq).length:Int))),none,none] rfl ?_;generalize v3%((w'.map aq).length:Int)=x1 at m1;obtain ⟨p,rfl⟩:∃a:Nat,x1=(a:Int):=⟨x1.toNat,by omega⟩
  rw [lw] at m1;have hp:p<w'.length:=by omega
  have VI:0<(row w' p).length:=tU.mpr (Gr.g.FX (by omega) hp)
  have rl:=dX Gr.g p;have lr:((row w' p).map ae).length=(row w' p).length:=aI _;have e2:(0:Int)<(((row w' p).map ae).length:Int):=by rw [lr];omega
  have m2:=g6 (v3 / ((w'.map aq).length:Int)) (((row w' p).map ae).length:Int) e2
  have at2:gu ((row w' p).map ae) (v3 / ((w'.map aq).length:Int)%(((row w' p).map ae).length:Int))=some (ae ((row w' p).getD (v3 / ((w'.map aq).length:Int)%(((row w' p).map ae).length:Int)).toNat 0)):=by
   have:=eG (ns:=row w' p) (p:=(v3 / ((w'.map aq).length:Int)%(((row w' p).map ae).length:Int)).toNat) (by omega)
   rw [Int.toNat_of_nonneg m2.1] at this;exact this
  have qm:(row w' p).getD (v3 / ((w'.map aq).length:Int)%(((row w' p).map ae).length:Int)).toNat 0∈row w' p:=az (by omega)
  generalize (row w' p).getD (v3 / ((w'.map aq).length:Int)%(((row w' p).map ae).length:Int)).toNat 0=o at at2 qm;refine ⟨_,rfl,_,rfl,_,ig hp,_,rfl,_,rfl,⟨e1,by rw [lw];omega⟩,_,rfl,_,rfl,_,ig hp,e2,_,at2,trivial,?_⟩
  have ho:o<w'.length:=Gr.g.rng _ _ qm;refine ⟨_,rfl,_,rfl,_,ig ho,trivial,?_⟩;have po:p∈row w' o:=Gr.g.sym _ _ qm;have Vd:0<(row w' o).length:=C0 po;have lo:((row w' o).map ae).length=(row w' o).length:=aI _;have e4:(0:Int)<(((row w' o).map ae).length:Int):=by rw [lo];omega
  have e5:(((row w' o).idxOf p:Int)+1)%(((row w' o).map ae).length:Int)=((((row w' o).idxOf p+1)%(row w' o).length:Nat):Int):=by rw [lo,Int.natCast_emod];rfl
  have Xa:gu ((row w' o).map ae) ((((row w' o).idxOf p:Int)+1)%(((row w' o).map ae).length:Int))=some (ae (af (row w' o) p)):=by
   rw [e5];exact eG (jR _ Vd)
  refine ⟨_,rfl,_,rfl,_,rfl,_,rfl,_,rfl,_,rfl,rfl,bS _,_,_,(aS po).1,(aS po).2.1,(aS po).2.2,_,rfl,e4,_,Xa,by show 3≤sizeLine;decide,trivial,?_⟩
  exact ⟨_,rfl,_,rfl,_,rfl,ns,1,rfl,λv4=>⟨v4,rfl,λv5=>⟨w',[p,o,af (row w' o) p],v5,rfl,Gr.g,Gr.bnd,h3,bL,Eb Gr.g tri qm,λF R2 g B hl fl=>q F R2 g B (by omega) (by omega) fl⟩⟩⟩
 ·exact ⟨_,rfl,_,rfl,_,rfl,ns,1,rfl,λv4=>⟨v4,rfl,λv5=>⟨w',R',v5,rfl,Gr.g,Gr.bnd,h3,bL,Gr.full,λF R2 g B hl fl=>q F R2 g B (by omega) (by omega) fl⟩⟩⟩
def MH:dD:=λds P=>∃(w:W),ds= [aN w]∧Good w∧1≤w.length∧w.length≤14∧P (.fo w)
theorem z5:FnOk P w Z.K mg base di 6 T.d__law_web.f T.d__law_web.fd ["_law_turns"] (aT Z MH):=by
 have nd:=q0.nd;refine bg T.d__law_web.F q0 [0] (by decide) (λds R h=>by obtain ⟨_,rfl,_⟩:=h;rfl) (λbQ A outer s H E ds R hr h=>?_)
 have hu:=hr.units;refine ⟨_,(au (aM (Iy T.mkW (sC T) (hr.mono (by decide)) rfl T.mC T.m___init__b (ab (kR (NC:= ["_law_row"]) (src:= [none]) rfl (oH (ar jH)) trivial (bZ (aa 0)) (λ_ _ _=>(bU 0 (show (["_law_row"]:List Str).Nodup from by decide+kernel))) (λ_ _ _=>eC) (λ_ _ _=>(pH uM rfl T.B.list qk (ab (aa 0) ag)))) ag)))),?_⟩
 obtain ⟨w',rfl,g,h1,bL,q⟩:=h;exact ⟨_,rfl,jC (ρ:= [none]) aq aq w' _ (λy hy Y h=>⟨_,rfl,h⟩) rfl (small (by omega)) λaD=>⟨w',rfl,g,h1,bL,q⟩⟩
end rK
namespace Wb
structure hV (w:W) (R:List Nat):Prop where
 nd:R.Nodup
 len:3≤R.length
 tie:∀p∈R,af R p∈row w p
theorem Disc.tP{w:W}{R:List Nat}{A:Nat×Nat→Prop}(D:Disc w R A)(g:Good w):hV w R:=⟨D.nd,D.len,λp hp=>g.sym _ _ (D.ring p hp).1⟩
section
variable {w:W} {R:List Nat}
def jg(l:List Nat)(a:Nat):List Nat:=l.drop (l.idxOf a+1)++l.take (l.idxOf a)
theorem iP(w:W)(R:List Nat)(i:Nat):withinL w R i=(jg (row w (R.getD i 0)) (R.getD ((i+1)%R.length) 0)).take ((jg (row w (R.getD i 0)) (R.getD ((i+1)%R.length) 0)).idxOf (R.getD (bD R i) 0)):=rfl
theorem EC{l:List Nat}{a x:Nat}(ha:a∈l)(hx:x∈l)(ne:x≠a):x∈jg l a:=by
 have:=(jh l a).mem_iff.mpr hx
 rw [lE ha] at this
 rcases cv.mp this with e|e
 ·exact absurd e ne
 ·exact e
theorem lD{l:List Nat}{a:Nat}(ha:a∈l):(jg l a).length+1=l.length:=by
 have:=oj l a
 rw [lE ha,dB] at this;exact this
theorem hV.lt(T:hV w R)(g:Good w){x:Nat}(h:x∈R):x<w.length:=bI (T.tie x h)
theorem hV.next(T:hV w R){i:Nat}(hi:i<R.length):R.getD ((i+1)%R.length) 0∈row w (R.getD i 0):=by
 rw [←iW T.nd hi];exact T.tie _ (az hi)
theorem hV.prev(T:hV w R)(g:Good w){i:Nat}(hi:i<R.length):R.getD (bD R i) 0∈row w (R.getD i 0):=by
 have:=T.tie _ (az (eM hi))
 rw [fY T.nd hi] at this;exact g.sym _ _ this
theorem hV.pn(T:hV w R){i:Nat}(hi:i<R.length):R.getD (bD R i) 0≠R.getD ((i+1)%R.length) 0:=by
 intro e;have len:=T.len
 have:=getD_inj T.nd (eM hi) (jR _ (by omega)) e
 unfold bD at this
 by_cases c:i+1<R.length
 ·rw [fu c] at this
  split at this<;>omega
 ·rw [show i+1=R.length by omega,qj] at this
  split at this<;>omega
theorem hV.Kc(T:hV w R)(g:Good w){i:Nat}(hi:i<R.length):R.getD (bD R i) 0∈jg (row w (R.getD i 0)) (R.getD ((i+1)%R.length) 0):=EC (T.next hi) (T.prev g hi) (T.pn hi)
theorem hV.ug(T:hV w R)(g:Good w):R.length≤w.length:=by
 have:=aX T.nd (m:=List.range w.length) λx hx=>cE.mpr (T.lt g hx)
 rw [iu] at this;exact this
end
end Wb
namespace rK
open PySem L2 Wb
variable {P:Program} {w:World} {mg:Str→Option Value} {base:Heap} {Z:DC} (T:Txt Z mg)
theorem yf{R:List Nat}{i:Nat}(hi:i<R.length):gu (R.map ae) ((i:Int)-1)=some (ae (R.getD (bD R i) 0)):=by
 have lR:(R.map ae).length=R.length:=aI _;have lt:=eM hi;refine K9 (j:=bD R i) lR ?_ (by rw [e7,aL,bz lt];rfl)
 unfold pQ bD
 by_cases c:i=0
 ·rw [if_pos c,if_neg (by omega),if_pos (by omega)]
  congr 1
  omega
 ·rw [if_neg c,if_pos (by omega),if_pos (by omega)]
  congr 1
  omega
theorem xX{R:List Nat}{i:Nat}(hi:i<R.length):gu (R.map ae) (((i:Int)+1)%((R.map ae).length:Int))=some (ae (R.getD ((i+1)%R.length) 0)):=by
 have lR:(R.map ae).length=R.length:=aI _;have e:((i:Int)+1)%((R.map ae).length:Int)=(((i+1)%R.length:Nat):Int):=by rw [lR,Int.natCast_emod];rfl
 rw [e];exact eG (jR _ (by omega))
def Hx:dD:=λds P=>∃(w:W)(R:List Nat)(i:Nat),ds= [aN w,aq R,ae i]∧Good w∧w.length≤14∧hV w R∧i<R.length∧P (aq (withinL w R i))
theorem lN:FnOk P w Z.K mg base di 1 T.d__law_within.f T.d__law_within.fd ["_law_turns","_law_ring","_law_i"] (aT Z Hx):=by
 have nd:=lV.nd;refine bg T.d__law_within.F lV [0,0,0,0,0] (by decide) (λds R h=>by obtain ⟨_,_,_,rfl,_⟩:=h;rfl) (λbQ A outer s H E ds R hr h=>?_)
 have hu:=hr.units
 refine ⟨_,(ah (aF false 3 nd (bF (aa 0) (bF (aa 1) (aa 2))))
   (ah (aF false 4 nd (iR (aa 3) (bF (aa 1) (aA cu (aA bE (aa 2) aw) (ax aP rfl T.B.len aO (ab (aa 1) ag))))))
   (ah (aF false 3 nd (aA bE (bp (aa 3) (bw (aA bE (aa 4) aw)) bR) (bp (aa 3) bR (bw (aa 4)))))
   (au (aM (bp (aa 3) bR (bw (iR (aa 3) (bF (aa 1) (aA lh (aa 2) aw)))))))))),?_⟩
 obtain ⟨w',R',i,rfl,g,bL,Ti,hi,q⟩:=h;have lR:(R'.map ae).length=R'.length:=aI _;have h3:=Ti.len;have e0:(0:Int)<((R'.map ae).length:Int):=by rw [lR];omega
 have QG:=Ti.lt g (az hi);have rl:=dX g (R'.getD i 0);have nm:=Ti.next hi;have lr:((row w' (R'.getD i 0)).map ae).length=(row w' (R'.getD i 0)).length:=aI _;refine ⟨_,rfl,_,rfl,_,rfl,_,eG hi,_,ig QG,trivial,?_⟩;refine ⟨_,rfl,_,rfl,_,rfl,_,rfl,_,rfl,e0,_,xX hi,rfl,bS _,_,_,(aS nm).1,(aS nm).2.1,(aS nm).2.2,trivial,?_⟩;have il:=fq.mpr nm
 have ca:cutD ((row w' (R'.getD i 0)).map ae) (some (((row w' (R'.getD i 0)).idxOf (R'.getD ((i+1)%R'.length) 0):Int)+1)) none=((row w' (R'.getD i 0)).drop ((row w' (R'.getD i 0)).idxOf (R'.getD ((i+1)%R'.length) 0)+1)).map ae:=by
  have:=dH ((row w' (R'.getD i 0)).map ae) ((row w' (R'.getD i 0)).idxOf (R'.getD ((i+1)%R'.length) 0)+1) (by rw [lr];omega)
  rw [kL];exact this
 have cb:cutD ((row w' (R'.getD i 0)).map ae) none (some ((row w' (R'.getD i 0)).idxOf (R'.getD ((i+1)%R'.length) 0):Int))=((row w' (R'.getD i 0)).take ((row w' (R'.getD i 0)).idxOf (R'.getD ((i+1)%R'.length) 0))).map ae:=by rw [cX _ _ (by rw [lr];omega),jP]
 have Qo:=lD nm
 have sz:(cutD ((row w' (R'.getD i 0)).map ae) (some (((row w' (R'.getD i 0)).idxOf (R'.getD ((i+1)%R'.length) 0):Int)+1)) none).length+(cutD ((row w' (R'.getD i 0)).map ae) none (some ((row w' (R'.getD i 0)).idxOf (R'.getD ((i+1)%R'.length) 0):Int))).length≤sizeLine:=by
  rw [ca,cb,aI,aI];unfold jg at Qo;rw [cy] at Qo;exact small (by omega)
 have er:(.lst (cutD ((row w' (R'.getD i 0)).map ae) (some (((row w' (R'.getD i 0)).idxOf (R'.getD ((i+1)%R'.length) 0):Int)+1)) none++cutD ((row w' (R'.getD i 0)).map ae) none (some ((row w' (R'.getD i 0)).idxOf (R'.getD ((i+1)%R'.length) 0):Int))):D)=aq (jg (row w' (R'.getD i 0)) (R'.getD ((i+1)%R'.length) 0)):=by rw [ca,cb];unfold aq jg;rw [eJ]
 refine ⟨_,rfl,_,rfl,_,rfl,_,rfl,sz,trivial,?_⟩;refine nj [some (aN w'),some (aq R'),some (ae i),some (.lst (cutD ((row w' (R'.getD i 0)).map ae) (some (((row w' (R'.getD i 0)).idxOf (R'.getD ((i+1)%R'.length) 0):Int)+1)) none++cutD ((row w' (R'.getD i 0)).map ae) none (some ((row w' (R'.getD i 0)).idxOf (R'.getD ((i+1)%R'.length) 0):Int)))),some (ae ((row w' (R'.getD i 0)).idxOf (R'.getD ((i+1)%R'.length) 0)))] rfl ?_;rw [er];have pm:=Ti.Kc g hi;have pl:=fq.mpr pm;refine ⟨_,rfl,_,rfl,_,rfl,_,rfl,_,rfl,_,yf hi,rfl,bS _,_,_,(aS pm).1,(aS pm).2.1,(aS pm).2.2,?_⟩
 have ef:aq (withinL w' R' i)= .lst (cutD ((jg (row w' (R'.getD i 0)) (R'.getD ((i+1)%R'.length) 0)).map ae) none (some ((jg (row w' (R'.getD i 0)) (R'.getD ((i+1)%R'.length) 0)).idxOf (R'.getD (bD R' i) 0):Int))):=by
  rw [iP,cX _ _ (by rw [aI];omega),←jP];rfl
 rw [ef] at q;exact q
variable {P:Program} {w:World} {mg:Str→Option Value} {base:Heap} {Z:DC} (T:Txt Z mg)
def fV(w:W)(R:List Nat)(i:Nat):List (Nat×Nat):=((List.range (R.length-(i+1))).filter λk=>decide (R.getD (i+1+k) 0∈withinL w R i)).map λk=>(i,i+1+k)
def aH(w:W)(R:List Nat)(m:Nat):List (Nat×Nat):=(List.range m).flatMap (fV w R)
theorem Bx{w:W}{R:List Nat}{m i j:Nat}(h:(i,j)∈aH w R m):i<j∧j<R.length∧R.getD j 0∈withinL w R i:=by
 unfold aH at h;obtain ⟨i',_,h⟩:=pE.mp h;unfold fV at h;obtain ⟨k,hk,e⟩:=bK.mp h;obtain ⟨rfl,rfl⟩:=Prod.mk.injEq .. ▸e;obtain ⟨h1,h2⟩:=kK.mp hk
 have:=cE.mp h1
 exact ⟨by omega,by omega,of_decide_eq_true h2⟩
theorem td{w:W}{R:List Nat}{i j:Nat}(h1:i<j)(h2:j<R.length)(h3:R.getD j 0∈withinL w R i):(i,j)∈aH w R R.length:=by
 unfold aH;refine pE.mpr ⟨i,cE.mpr (by omega),?_⟩
 unfold fV;refine bK.mpr ⟨j-(i+1),kK.mpr ⟨cE.mpr (by omega),decide_eq_true ?_⟩,?_⟩
 ·rw [show i+1+(j-(i+1))=j by omega];exact h3
 ·rw [show i+1+(j-(i+1))=j by omega]
theorem oT(w:W)(R:List Nat)(i:Nat):(fV w R i).length≤R.length:=by
 unfold fV;rw [aI]
 have:=y6 (λk=>decide (R.getD (i+1+k) 0∈withinL w R i)) (List.range (R.length-(i+1)))
 rw [iu] at this;omega
theorem mO(w:W)(R:List Nat):∀m,(aH w R m).length≤m*R.length
 |0=>by simp [aH]
 |m+1=>by
  have:=mO w R m
  have h2:=oT w R m;unfold aH at this ⊢;rw [tY,wI,cy,jN,sV,jO,Nat.succ_mul];omega
def Hq:dD:=λds P=>∃(w:W)(R:List Nat),ds= [aN w,aq R]∧Good w∧w.length≤14∧hV w R∧P (.lst ((aH w R R.length).map pairD))
theorem t9:FnOk P w Z.K mg base di 2 T.d__law_chords.f T.d__law_chords.fd ["_law_turns","_law_ring"] (aT Z Hq):=by
 have nd:=lP.nd;refine bg T.d__law_chords.F lP [0,0,0,0,0] (by decide) (λds R h=>by obtain ⟨_,_,rfl,_⟩:=h;rfl) (λbQ A outer s H E ds R hr h=>?_)
 have hu:=hr.units
 refine ⟨_,(ah (aF false 2 nd (eX ag))
   (ah (qt rfl PassesOwn.never (pJ rfl T.B.range (ab (ax aP rfl T.B.len aO (ab (aa 1) ag)) ag)) (aR 3 nd) (ah (aF false 4 nd (aB T.d__law_within (lN T) hr (ab (aa 0) (ab (aa 1) (ab (aa 3) ag)))))
   (au (aF false 2 nd (aA bE (aa 2) (kR (NC:= ["_law_j","_law_i","_law_inner","_law_ring"]) (src:= [none,some 3,some 4,some 1]) rfl (oH (ar gF)) ⟨rfl,rfl,rfl,rfl,rfl,rfl,trivial⟩ (Di rfl T.B.range (ab (aA bE (aa 3) aw) (ab (ax aP rfl T.B.len aO (ab (aa 1) ag)) ag))) (λ_ _ _=>(bU 0 (show (["_law_j","_law_i","_law_inner","_law_ring"]:List Str).Nodup from by decide+kernel))) (λ_ _ _=>(i9 (aU pY (bF (aa 3) (aa 0)) (aa 2) (by with_unfolding_all rfl)))) (λ_ _ _=>(fP (ab (aa 1) (ab (aa 0) ag))))))))))
   (au (aM (aa 2))))),?_⟩
 obtain ⟨w',R',rfl,g,bL,Ti,q⟩:=h;have lR:(R'.map ae).length=R'.length:=aI _;have h3:=Ti.len;have hR:=Ti.ug g;refine ⟨by show 0≤sizeLine;decide,trivial,?_⟩
 refine ⟨_,rfl,⟨by omega,by show ((R'.map ae).length:Int)<2^62;omega⟩,?_⟩
 rw [show (((R'.map ae).length:Int)).toNat=R'.length by omega]
 refine rS (λi ρ=>∃(o3 o4:Option D),ρ= [some (aN w'),some (aq R'),some (.lst ((aH w' R' i).map pairD)),o3,o4]) ⟨_,_,rfl⟩ ?_ ?_
 ·rintro i _ hi ⟨o3,o4,rfl⟩ A hA
  refine ⟨_,rfl,_,rfl,_,rfl,w',R',i,rfl,g,bL,Ti,hi,trivial,?_⟩;have cl:=mO w' R' i;have c2:i*R'.length≤14*14:=wB (by omega) (by omega)
  have cA:=oT w' R' i;refine ⟨_,rfl,_,rfl,_,rfl,⟨by show-(2^62)≤(i:Int)+1;omega,by show (i:Int)+1<2^62;omega,by show-(2^62)≤((R'.map ae).length:Int);omega,by show ((R'.map ae).length:Int)<2^62;omega⟩,?_⟩
  have er:dQ ((i:Int)+1) (((R'.map ae).length:Int)-((i:Int)+1)).toNat=(List.range (R'.length-(i+1))).map λ(k:Nat)=>D.int ((i:Int)+1+(k:Int)):=by
   unfold dQ;rw [show (((R'.map ae).length:Int)-((i:Int)+1)).toNat=R'.length-(i+1) by omega]
  refine (?_:lcW _ _ _ (dQ ((i:Int)+1) (((R'.map ae).length:Int)-((i:Int)+1)).toNat) _ _ _);rw [er];refine jb (ρ:= [none,some (ae i),some (aq (withinL w' R' i)),some (aq R')]) (λ(k:Nat)=>D.int ((i:Int)+1+(k:Int))) (λk=>decide (R'.getD (i+1+k) 0∈withinL w' R' i)) (λk=>pairD (i,i+1+k)) (List.range (R'.length-(i+1))) _ [] _ (λk hk Y Nn t1 t2=>?_) ⟨none,rfl⟩ (by rw [jr,iu];exact small (by omega)) λaD=>?_
  ·have hk:=cE.mp hk
   have ai:gu (R'.map ae) ((i:Int)+1+(k:Int))=some (ae (R'.getD (i+1+k) 0)):=by
    have:=eG (ns:=R') (p:=i+1+k) (by omega)
    rw [show (i:Int)+1+(k:Int)=((i+1+k:Nat):Int) by omega]
    exact this
   refine ⟨_,rfl,_,rfl,_,ai,_,rfl,rfl,bS _,_,rfl,?_⟩;refine (?_:if (if false=true then _ else inD (ae (R'.getD (i+1+k) 0)) ((withinL w' R' i).map ae))=true then _ else _);rw [if_neg cW,gx];refine cB (λe=>?_) (λe=>t2 e)
   have:=t1 e
   refine ⟨_,rfl,_,rfl,by show 2≤sizeLine;decide,?_⟩
   have ep:pairD (i,i+1+k)= .tup [.int (i:Int), .int ((i:Int)+1+(k:Int))]:=by
    unfold pairD;rw [show (((i+1+k:Nat)):Int)=(i:Int)+1+(k:Int) by omega]
   rw [ep] at this;exact this
  ·have e2: []++((List.range (R'.length-(i+1))).filter λk=>decide (R'.getD (i+1+k) 0∈withinL w' R' i)).map (λk=>pairD (i,i+1+k))=(fV w' R' i).map pairD:=by
    unfold fV;rw [kJ,gd];rfl
   rw [e2];refine ⟨by rw [aI,aI];exact small (by omega),trivial,?_⟩
   refine hA _ ⟨some (ae i),some (aq (withinL w' R' i)),?_⟩
   have e3:(aH w' R' (i+1)).map pairD=(aH w' R' i).map pairD++(fV w' R' i).map pairD:=by
    unfold aH;rw [tY,wI,jN,sV,jO,eJ]
   rw [e3];rfl
 ·rintro _ ⟨o3,o4,rfl⟩
  exact ⟨_,rfl,q⟩
def Hs:dD:=λds P=>∃(R:List Nat)(i j:Nat),ds= [aq R,ae i,ae j]∧R.length≤14∧i<j∧j<R.length∧P (.lst [aq ((R.take (j+1)).drop i),aq (R.drop j++R.take (i+1))])
theorem xr{α:Type}(l:List α)(i j:Nat)(h:i≤j)(hj:j≤l.length):cutD l (some (i:Int)) (some (j:Int))=(l.take j).drop i:=by
 unfold cutD
 have e1:HT.bP l.length 0 (some (i:Int))=i:=by
  simp only [HT.bP]
  split<;>omega
 have e2:HT.bP l.length l.length (some (j:Int))=j:=by
  simp only [HT.bP]
  split<;>omega
 rw [e1,e2,List.drop_take]
theorem ua:FnOk P w Z.K mg base di 1 T.d__law_halves.f T.d__law_halves.fd ["_law_ring","_law_i","_law_j"] (aT Z Hs):=by
 have nd:=lQ.nd;refine bg T.d__law_halves.F lQ [0,0,0] (by decide) (λds R h=>by obtain ⟨_,_,_,rfl,_⟩:=h;rfl) (λbQ A outer s H E ds R hr h=>?_)
 have hu:=hr.units;refine ⟨_,(au (aM (eX (ab (bp (aa 0) (bw (aa 1)) (bw (aA bE (aa 2) aw))) (ab (aA bE (bp (aa 0) (bw (aa 2)) bR) (bp (aa 0) bR (bw (aA bE (aa 1) aw)))) ag))))),?_⟩;obtain ⟨R',i,j,rfl,bL,cK,hj,q⟩:=h;have lR:(R'.map ae).length=R'.length:=aI _
 have c1:cutD (R'.map ae) (some (i:Int)) (some ((j:Int)+1))=((R'.take (j+1)).drop i).map ae:=by
  have:=xr (R'.map ae) i (j+1) (by omega) (by rw [lR];omega)
  rw [kL,jP];exact this
 have c2:cutD (R'.map ae) (some (j:Int)) none=(R'.drop j).map ae:=by rw [dH _ _ (by rw [lR];omega),kL]
 have c3:cutD (R'.map ae) none (some ((i:Int)+1))=(R'.take (i+1)).map ae:=by
  have:=cX (R'.map ae) (i+1) (by rw [lR];omega)
  rw [jP];exact this
 have sz:(cutD (R'.map ae) (some (j:Int)) none).length+(cutD (R'.map ae) none (some ((i:Int)+1))).length≤sizeLine:=by
  rw [c2,c3,aI,aI,dY,b8];exact small (by omega)
 refine ⟨_,rfl,_,rfl,_,rfl,_,rfl,_,rfl,_,rfl,_,rfl,sz,by show 2≤sizeLine;decide,?_⟩
 have e:(.lst [.lst (cutD (R'.map ae) (some (i:Int)) (some ((j:Int)+1))), .lst (cutD (R'.map ae) (some (j:Int)) none++cutD (R'.map ae) none (some ((i:Int)+1)))]:D)= .lst [aq ((R'.take (j+1)).drop i),aq (R'.drop j++R'.take (i+1))]:=by
  rw [c1,c2,c3];unfold aq;rw [eJ]
 rw [←e] at q;exact q
variable {P:Program} {w:World} {mg:Str→Option Value} {base:Heap} {Z:DC} (T:Txt Z mg)
theorem jf{α:Type}{f:α→D}{g:α→PyData}(h:∀a,(f a).py=some (g a)):∀l:List α,fT (l.map f)=some (l.map g)
 | []=>rfl
 |a::l=>by
  have:=jf h l
  rw [gL,fT,h a,this];rfl
theorem ne_nil{l:List D}{ps:List PyData}{P:D→Prop}(h:fT l=some ps)(hd:(PyData.list ps).depth≤64)(q:P (.bl (!l.isEmpty))):Ll (.lst l) (.lst []) P:=by
 refine ⟨.list ps, .list [],by rw [D.py,h];rfl,rfl,hd,?_⟩
 have:PyData.eqv (.list ps) (.list [])=l.isEmpty:=by
  cases l with
  |nil=>
   have:ps= []:=(Option.some.inj h).symm
   rw [this];decide
  |cons a l=>
   cases ps with
   |nil=>
    rw [fT] at h;cases e:a.py with
    |none=>rw [e] at h;cases h
    |some x=>
     rw [e] at h;cases e2:fT l with
     |none=>rw [e2] at h;cases h
     |some y=>rw [e2] at h;cases h
   |cons b ps=>rw [PyData.eqv];rfl
 rw [if_pos rfl,this];exact q
theorem Cs(t:Nat×Nat):(pairD t).py=some (.tuple [.int (t.1:Nat), .int (t.2:Nat)]):=rfl
theorem F8{x:Int}{a b:D}:gu [a,b] (x%2)=some a∨gu [a,b] (x%2)=some b:=by
 have h:x%2=0∨x%2=1:=by omega
 rcases h with e|e
 ·left;rw [e];rfl
 ·right;rw [e];rfl
theorem uQ{α:Type}(l:List α)(h:0<l.length):cutD l none (some (-1))=l.dropLast:=by
 unfold cutD;have e1:HT.bP l.length 0 none=0:=rfl
 have e2:HT.bP l.length l.length (some (-1))=l.length-1:=by
  simp only [HT.bP]
  split<;>omega
 rw [e1,e2,List.drop_zero,List.dropLast_eq_take,Nat.sub_zero]
def Ht:dD:=λds P=>∃(w:W)(R:List Nat)(num:Int),ds= [aN w,aq R, .int num]∧Good w∧oF w∧w.length≤14∧∃A,Disc w R A∧∀R2,(R2.length=2∨∃A',Disc w R2 A'∧cnt w A'<cnt w A)→P (aq R2)
theorem ub:FnOk P w Z.K mg base di 3 T.d__law_lesser.f T.d__law_lesser.fd ["_law_turns","_law_ring","_law_number"] (aT Z Ht):=by
 have nd:=lT.nd;refine bg T.d__law_lesser.F lT [0,0,0,0,0,0,0] (by decide) (λds R h=>by obtain ⟨_,_,_,rfl,_⟩:=h;rfl) (λbQ A outer s H E ds R hr h=>?_)
 have hu:=hr.units
 refine ⟨_,(ah (aF false 3 nd (aB T.d__law_chords (t9 T) hr (ab (aa 0) (ab (aa 1) ag))))
   (ah (aF false 4 nd (aA lh (ax aP rfl T.B.len aO (ab (aa 1) ag)) aw))
   (ah (cY (DW.dt (uq (aU (sA hu) (aa 3) (eX ag) (bH _)) (qv (DW.dt (pL (aU (pX hu) (aA cu (aa 2) aw) aw (bH _)) (n5 (aU (sA hu) (kR (NC:= ["_law_two","_law_last"]) (src:= [none,some 4]) rfl (oH (ar gG)) ⟨rfl,rfl,trivial⟩ (bZ (aa 3)) (λ_ _ _=>(bU 0 (show (["_law_two","_law_last"]:List Str).Nodup from by decide+kernel))) (λ_ _ _=>(i9 (aU (pX hu) (bF (aa 0) aw) (aa 1) (bH _)))) (λ_ _ _=>(aa 0))) (eX ag) (bH _)))))))) (ah (zu (bF (aa 3) (aA cu (aA fC (aa 2) aw) (ax aP rfl T.B.len aO (ab (aa 3) ag)))) (gw 2 rfl (bx (aR 5 nd) (bx (aR 6 nd) dS))))
   (au (aM (bF (aB T.d__law_halves (ua T) hr (ab (aa 1) (ab (aa 5) (ab (aa 6) ag)))) (aA cu (aA fC (aA fC (aa 2) aw) (ax aP rfl T.B.len aO (ab (aa 3) ag))) aw))))) bJ)
   (au (aM (aA bE (bp (aa 1) bR (bw (Lo aw))) (tB rfl rfl T.B.list rfl T.B.reversed (ab (aB T.d__law_within (lN T) hr (ab (aa 0) (ab (aa 1) (ab (aa 4) ag)))) ag)))))))),?_⟩
 obtain ⟨w',R',num,rfl,g,B,bL,AA,Dc,q⟩:=h;have Ti:=Dc.tP g;have lR:(R'.map ae).length=R'.length:=aI _;have h3:=Ti.len;have hR:=Ti.ug g;refine ⟨_,rfl,_,rfl,w',R',rfl,g,bL,Ti,trivial,?_⟩;refine ⟨_,rfl,trivial,?_⟩;refine nj [some (aN w'),some (aq R'),some (.int num),some (.lst ((aH w' R' R'.length).map pairD)),some (.int (((R'.map ae).length:Int)-1)),none,none] rfl ?_;have cl:=mO w' R' R'.length;have c2:R'.length*R'.length≤14*14:=wB (by omega) (by omega)
 have lC:((aH w' R' R'.length).map pairD).length=(aH w' R' R'.length).length:=aI _
 have Sx:∀l:List (Nat×Nat),(PyData.list (l.map λt=>PyData.tuple [.int (t.1:Nat), .int (t.2:Nat)])).depth≤64:=λl=>by
  rw [PyData.depth]
  have:=hE (f:=λt:Nat×Nat=>PyData.tuple [.int (t.1:Nat), .int (t.2:Nat)]) (k:=2) (λt=>by simp [PyData.depth,PyData.depthAll]) l
  omega
 have Dr:((R'.map ae).length:Int)-1=((R'.length-1:Nat):Int):=by rw [lR];omega
 have wl:(withinL w' R' (R'.length-1)).length≤14:=by
  rw [iP]
  have:=lD (Ti.next (i:=R'.length-1) (by omega))
  have h2:=dX g (R'.getD (R'.length-1) 0);rw [b8];omega
 have We:(cutD (R'.map ae) none (some (-1))).length+((withinL w' R' (R'.length-1)).map ae).reverse.length≤sizeLine:=by
  rw [uQ _ (by omega),List.length_dropLast,y9,aI,aI]
  exact small (by omega)
 have eB:(.lst (cutD (R'.map ae) none (some (-1))++((withinL w' R' (R'.length-1)).map ae).reverse):D)=aq (R'.dropLast++(withinL w' R' (R'.length-1)).reverse):=by
  rw [uQ _ (by omega)]
  unfold aq;rw [eJ,List.map_dropLast,List.map_reverse]
 have Oe:aH w' R' R'.length≠ []→(0:Int)<(((aH w' R' R'.length).map pairD).length:Int)∧∃ci cj,gu ((aH w' R' R'.length).map pairD) (num / 3%(((aH w' R' R'.length).map pairD).length:Int))=some (pairD (ci,cj))∧ci<cj∧cj<R'.length∧R'.getD cj 0∈withinL w' R' ci:=λne=>by
  have pos:=tU.mpr ne;have cp:(0:Int)<(((aH w' R' R'.length).map pairD).length:Int):=by rw [lC];omega
  have m:=g6 (num / 3) (((aH w' R' R'.length).map pairD).length:Int) cp;rw [lC] at m;have bN:(num / 3%((aH w' R' R'.length).length:Int)).toNat<(aH w' R' R'.length).length:=by omega
  refine ⟨cp,((aH w' R' R'.length)[(num / 3%((aH w' R' R'.length).length:Int)).toNat]).1,((aH w' R' R'.length)[(num / 3%((aH w' R' R'.length).length:Int)).toNat]).2,?_,Bx (rH bN)⟩
  have:=iQ (l:=(aH w' R' R'.length).map pairD) (p:=(num / 3%((aH w' R' R'.length).length:Int)).toNat) (d:=pairD ((aH w' R' R'.length)[(num / 3%((aH w' R' R'.length).length:Int)).toNat])) (by rw [e7,bz bN];rfl)
  rw [Int.toNat_of_nonneg m.1] at this;rw [lC];exact this
 refine Ir ?_;refine ⟨_,rfl,by show 0≤sizeLine;decide,ne_nil (jf Cs (aH w' R' R'.length)) (Sx _) ⟨_,rfl,cB (λe=>?_) (λe=>dg ?_)⟩⟩
 ·have ne:aH w' R' R'.length≠ []:=by
   intro z;rw [z] at e;simp at e
  obtain ⟨cp,ci,cj,cat,GA,zD,LD⟩:=Oe ne;refine ⟨_,rfl,(by show (0:Int)<3;decide),Lx ⟨_,rfl,cB (λe3=>eY ?_) (λe3=>?_)⟩⟩
  ·refine ⟨_,rfl,_,rfl,⟨by decide,by decide⟩,_,rfl,cp,_,cat,?_⟩
   refine ⟨rfl,rfl,?_⟩;refine ⟨_,rfl,_,rfl,_,rfl,R',ci,cj,rfl,by omega,GA,zD,?_⟩
   refine ⟨_,rfl,⟨by decide,by decide⟩,_,rfl,⟨cp,by omega⟩,(by show (0:Int)<2;decide),?_⟩
   rcases F8 (x:=num / 3 / (((aH w' R' R'.length).map pairD).length:Int)) (a:=aq ((R'.take (cj+1)).drop ci)) (b:=aq (R'.drop cj++R'.take (ci+1))) with e|e
   ·exact ⟨_,e,q _ (.inr (jy g B Dc GA zD LD).1)⟩
   ·exact ⟨_,e,q _ (.inr (jy g B Dc GA zD LD).2)⟩
  ·refine ⟨_,rfl,jb (ρ:= [none,some (.int (((R'.map ae).length:Int)-1))]) pairD (λt=>decide ((t.2:Int)=((R'.map ae).length:Int)-1)) pairD (aH w' R' R'.length) _ [] _ (λt ht Y Nn t1 t2=>?_) ⟨none,rfl⟩ (by rw [jr,mz];exact small (by omega)) λaD=>?_⟩
   ·refine ⟨_,rfl,_,rfl,_,rfl,uS ⟨_,rfl,?_⟩⟩
    exact cB (λe=>⟨_,rfl,t1 e⟩) (λe=>t2 e)
   ·rw [kJ]
    refine ⟨by show 0≤sizeLine;decide,ne_nil (jf Cs _) (Sx _) ⟨_,rfl,cB (λe4=>?_) (λe4=>?_)⟩⟩
    ·refine ⟨_,rfl,_,rfl,⟨by decide,by decide⟩,_,rfl,cp,_,cat,?_⟩
     refine ⟨rfl,rfl,?_⟩;refine ⟨_,rfl,_,rfl,_,rfl,R',ci,cj,rfl,by omega,GA,zD,?_⟩
     refine ⟨_,rfl,⟨by decide,by decide⟩,_,rfl,⟨cp,by omega⟩,(by show (0:Int)<2;decide),?_⟩
     rcases F8 (x:=num / 3 / (((aH w' R' R'.length).map pairD).length:Int)) (a:=aq ((R'.take (cj+1)).drop ci)) (b:=aq (R'.drop cj++R'.take (ci+1))) with e|e
     ·exact ⟨_,e,q _ (.inr (jy g B Dc GA zD LD).1)⟩
     ·exact ⟨_,e,q _ (.inr (jy g B Dc GA zD LD).2)⟩
    ·have nc:∀i,i<R'.length-1→R'.getD (R'.length-1) 0∉withinL w' R' i:=λi hi hm=>by
      have zJ:=td (w:=w') (R:=R') (i:=i) (j:=R'.length-1) hi (by omega) hm
      have Tg:(i,R'.length-1)∈(aH w' R' R'.length).filter (λt=>decide ((t.2:Int)=((R'.map ae).length:Int)-1)):=kK.mpr ⟨zJ,decide_eq_true Dr.symm⟩;cases hf:(aH w' R' R'.length).filter (λt=>decide ((t.2:Int)=((R'.map ae).length:Int)-1)) with
      |nil=>rw [hf] at Tg;cases Tg
      |cons x l=>rw [hf] at e4;simp at e4
     refine ⟨_,rfl,_,rfl,_,rfl,_,rfl,w',R',R'.length-1,by rw [Dr];rfl,g,bL,Ti,by omega,?_⟩
     refine ⟨We,?_⟩
     have:=q _ (vh g Dc nc)
     rw [←eB] at this;exact this
 ·have nc:∀i,i<R'.length-1→R'.getD (R'.length-1) 0∉withinL w' R' i:=λi hi hm=>by
   have zJ:=td (w:=w') (R:=R') (i:=i) (j:=R'.length-1) hi (by omega) hm
   cases hf:aH w' R' R'.length with
   |nil=>rw [hf] at zJ;cases zJ
   |cons x l=>rw [hf] at e;simp at e
  refine ⟨_,rfl,_,rfl,_,rfl,_,rfl,w',R',R'.length-1,by rw [Dr];rfl,g,bL,Ti,by omega,?_⟩
  refine ⟨We,?_⟩
  have:=q _ (vh g Dc nc)
  rw [←eB] at this;exact this
variable {P:Program} {w:World} {mg:Str→Option Value} {base:Heap} {Z:DC} (T:Txt Z mg)
theorem Lh{w:W}(g:Good w)(A:Nat×Nat→Prop):cnt w A≤w.length*w.length:=by
 unfold cnt;exact kM (y6 _ _) (Dh g)
def KC:dD:=λds P=>∃(w:W)(R:List Nat)(num:Int),ds= [aN w,aq R, .int num]∧Good w∧oF w∧w.length≤14∧(∃A,Disc w R A)∧∀Rs:List (List Nat),(∀R∈Rs,∃A,Disc w R A)→Rs.length≤300→P (.lst (Rs.map aq))
theorem vD:FnOk P w Z.K mg base di 4 T.d__law_rings.f T.d__law_rings.fd ["_law_turns","_law_ring","_law_number"] (aT Z KC):=by
 have nd:=nJ.nd;refine bg T.d__law_rings.F nJ [0,0,0,1,0] (by decide) (λds R h=>by obtain ⟨_,_,_,rfl,_⟩:=h;rfl) (λbQ A outer s H E ds R hr h=>?_)
 have hu:=hr.units
 refine ⟨_,(ah (qu 3 nd (qr ag))
   (ah (rR PassesOwn.never (aU En (ax aP rfl T.B.len aO (ab (aa 1) ag)) aw (bH _)) (ah (uo false 3 (aa 1))
   (ah (aF false 1 nd (aB T.d__law_lesser (ub T) hr (ab (aa 0) (ab (aa 1) (ab (aA cu (aa 2) aw) ag)))))
   (ah (aF false 2 nd (aA fC (aa 2) aw))
   (au (cY (aU En (ax aP rfl T.B.len aO (ab (aa 1) ag)) aw (bH _)) (ah (aF false 4 nd (aA cu (aa 2) (ax aP rfl T.B.len aO (ab (aa 1) ag))))
   (ah (aF false 2 nd (aA fC (aa 2) (ax aP rfl T.B.len aO (ab (aa 1) ag))))
   (au (aF false 1 nd (aA bE (bp (aa 1) (bw (aa 4)) bR) (bp (aa 1) bR (bw (aa 4)))))))) bJ))))))
   (au (aM (aa 3))))),?_⟩
 obtain ⟨w',R',num,rfl,g,B,bL,⟨A0,D0⟩,q⟩:=h;have c0:=Lh g A0;have c1:w'.length*w'.length≤14*14:=wB bL bL;refine ⟨by show 0≤sizeLine;decide,?_⟩
 refine qf (λm ρ=>∃(R:List Nat)(num:Int)(Rs:List (List Nat))(o4:Option D),ρ= [some (aN w'),some (aq R),some (.int num),some (.lst (Rs.map aq)),o4]∧(R.length=2∨∃A,Disc w' R A∧cnt w' A<m)∧(∀R∈Rs,∃A,Disc w' R A)∧Rs.length+m≤200) (cnt w' A0+1) ⟨R',num,[],_,rfl, .inr ⟨A0,D0,by omega⟩,(λR h=>nomatch h),(by show 0+(cnt w' A0+1)≤200;omega)⟩ ?_
 rintro m _ ⟨R,num,Rs,o4,rfl,hd,LA,hm⟩;have lR:(R.map ae).length=R.length:=aI _;have lS:(Rs.map aq).length=Rs.length:=aI _;refine ⟨_,rfl,?_⟩;dsimp only [xu,Bq];refine ⟨_,rfl,cB (λe=>?_) (λe=>?_)⟩
 ·have e2:2<R.length:=by have:=of_decide_eq_true e;omega
  obtain ⟨A,Dc,hc⟩:=hd.resolve_left (by omega)
  refine ⟨_,rfl,_,rfl,trivial,g8 (by rw [lS];omega),?_⟩
  refine ⟨_,rfl,_,rfl,_,rfl,(by show (0:Int)<90;decide),w',R,_,rfl,g,B,bL,A,Dc,λR2 h2=>⟨trivial,?_⟩⟩
  refine ⟨_,rfl,⟨by decide,by decide⟩,trivial,?_⟩
  have eS:(.lst (Rs.map aq++ [aq R]):D)= .lst ((Rs++ [R]).map aq):=by rw [eJ];rfl
  have NB:∀R'∈Rs++ [R],∃A,Disc w' R' A:=λR' h'=>by
   rcases dh.mp h' with h'|h'
   ·exact LA R' h'
   ·rw [gQ.mp h'];exact ⟨A,Dc⟩
  have Jw:(R2.map ae).length=R2.length:=aI _;refine nj [some (aN w'),some (aq R2),some (.int (num / 90)),some (.lst (Rs.map aq++ [aq R])),o4] rfl ?_;rw [eS];refine ⟨_,rfl,?_⟩;dsimp only [xu,Bq];refine ⟨_,rfl,cB (λe=>?_) (λe=>?_)⟩
  ·have e3:2<R2.length:=by have:=of_decide_eq_true e;omega
   obtain ⟨A',K5,rV⟩:=h2.resolve_left (by omega)
   have Kj:=(K5.tP g).ug g;have e1:(0:Int)<((R2.map ae).length:Int):=by rw [Jw];omega
   refine ⟨_,rfl,_,rfl,e1,trivial,?_⟩;refine ⟨_,rfl,_,rfl,⟨e1,by rw [Jw];omega⟩,trivial,?_⟩
   have m1:=g6 (num / 90) ((R2.map ae).length:Int) e1;refine nj [some (aN w'),some (aq R2),some (.int (num / 90 / ((R2.map ae).length:Int))),some (.lst ((Rs++ [R]).map aq)),some (.int (num / 90%((R2.map ae).length:Int)))] rfl ?_;generalize num / 90%((R2.map ae).length:Int)=at_ at m1;obtain ⟨a,rfl⟩:∃a:Nat,at_=(a:Int):=⟨at_.toNat,by omega⟩
   rw [Jw] at m1;have ca:cutD (R2.map ae) (some (a:Int)) none=(R2.drop a).map ae:=by rw [dH _ _ (by rw [Jw];omega),kL]
   have cb:cutD (R2.map ae) none (some (a:Int))=(R2.take a).map ae:=by rw [cX _ _ (by rw [Jw];omega),jP]
   have l2:(R2.drop a++R2.take a).length=R2.length:=by rw [cy,dY,b8];omega
   have mI:(cutD (R2.map ae) (some (a:Int)) none).length+(cutD (R2.map ae) none (some (a:Int))).length≤sizeLine:=by
    rw [ca,cb,aI,aI];exact small (by rw [cy] at l2;omega)
   have er:(.lst (cutD (R2.map ae) (some (a:Int)) none++cutD (R2.map ae) none (some (a:Int))):D)=aq (R2.drop a++R2.take a):=by rw [ca,cb];unfold aq;rw [eJ]
   refine ⟨_,rfl,_,rfl,_,rfl,_,rfl,mI,trivial,?_⟩;refine ⟨m-1,by omega,R2.drop a++R2.take a,num / 90 / ((R2.map ae).length:Int),Rs++ [R],some (.int (a:Int)),?_, .inr ⟨A',?_,by omega⟩,NB,by rw [cy];simp;omega⟩
   ·rw [←er];rfl
   ·have:=K5
    rw [←iq a R2] at this;exact this.vO
  ·refine ⟨m-1,by omega,R2,num / 90,Rs++ [R],o4,rfl,?_,NB,by rw [cy];simp;omega⟩
   rcases h2 with h2| ⟨A',K5,rV⟩
   ·exact .inl h2
   ·exact .inr ⟨A',K5,by omega⟩
 ·exact ⟨_,rfl,q Rs LA (by omega)⟩
end rK
namespace L2
open PySem PySem.Spec PyProof.Rows
section
variable {Z:DC} {X:Cx} {md:List Nat} {rn:Nat} {e:Expr} {pos p2:Pos} {te:br} {t:pF} {lo hi:Option Expr} {tl th:Bi}
def Yc(te:br)(tl th:Bi):pF:=λρ P=>te ρ λx=>tl ρ λlo=>th ρ λhi=>match x with
 | .lst l=>P (cutD l lo hi)
 |_=>False
theorem Gq(he:DE Z X e te)(hl:DO Z X lo tl)(hu:DO Z X hi th):DF Z X 1 (.Subscript e (.Slice lo hi none p2) pos) (Yc te tl th):=by
 refine (yd Cz he hl hu).imp ?_;rintro σ H Q ⟨G,ρ,P,s,en,h,q⟩;refine ⟨G,ρ,_,s,en,h,λd hd v G1 H1 x1 dv=>?_⟩;refine ⟨G1,ρ,_,x1.sub,en.mono x1.gg,hd,λl hl G2 H2 x2=>?_⟩;refine ⟨G2,ρ,_,x2.sub,(en.mono x1.gg).mono x2.gg,hl,λu hu G3 H3 x3=>?_⟩;have x:=(x1.trans x2).trans x3;have dv:=(dv.mono x2.gg).mono x3.gg;cases dv<;>first|exact hu.elim|skip
 rename_i h e
 refine ⟨_,_,rfl,cQ.of (x3.sub _ _ h),λp hn=>?_⟩;obtain ⟨o1,o2,o3⟩:=vI x hn (zk e l u);exact q _ hu _ _ _ _ (x.side hn) o1 o2 o3
def OK(t:pF):e8:=λE ρ=>t ρ λds=>E.rt (.lst ds)
theorem ID(he:DF Z X rn e t):DSt Z X md rn (.Return (some e) pos) (OK t):=(FT he).imp λD σ H ⟨B,ρ,E,⟨G,fp,S⟩,h,M⟩=>by
 let F:Addr→Prop:=λb=>∃i,b∈fp i
 have s:=S.ex.sub
 have x0:Ext B.G₀ B.H₀ (plus G H F) H:=⟨S.ex.gg.trans (iV s),kA s,S.ex.hh,λb hb hg=>by
  rw [kz (λ⟨i,hi⟩=>hb (S.nw i b hi).1)];exact S.ex.off b hb hg⟩
 refine ⟨plus G H F,ρ,_,kA s,⟨S.len,λi d h=>?_⟩,h,λds hd v f G' H' x o nd nw=>M.rt _ hd v f G' H' (x0.trans x) o nd λb hb=>⟨S.ex.hh.free (nw b hb).1,(nw b hb).2⟩⟩;obtain ⟨v,hv,o⟩:=S.at_ i d h;exact ⟨v,hv,o.dv (iV s) λb hb u e=>by rw [nv ⟨i,hb⟩];exact e⟩
end
end L2
namespace rK
open PySem L2 Wb
variable {P:Program} {w:World} {mg:Str→Option Value} {base:Heap} {Z:DC} (T:Txt Z mg)
theorem ux(r:List Nat):(aq r).py=some (o9 r):=by
 unfold aq o9;rw [D.py,jf (g:=nD) (λn=>rfl)];rfl
theorem BF(a b:List Nat):PyData.eqv (o9 a) (o9 b)=decide (a=b):=by
 by_cases e:a=b
 ·rw [decide_eq_true e];exact (xE a b).mpr e
 ·rw [decide_eq_false e]
  apply wx.mpr;exact λz=>e ((xE a b).mp z)
theorem Ij{v w:List Nat}{P:D→Prop}(h:P (.bl (decide (v=w)))):Li (aq v) (aq w) P:=by
 refine ⟨_,_,ux v,ux w,by have:=mU v;omega,?_⟩
 rw [if_neg cW,BF];exact h
theorem Bz{v w:List Nat}{P:D→Prop}(h:P (.bl (!decide (v=w)))):Ll (aq v) (aq w) P:=by
 refine ⟨_,_,ux v,ux w,by have:=mU v;omega,?_⟩
 rw [if_pos rfl,BF];exact h
def Kx:dD:=λds P=>∃(l:List Nat)(x:Nat),ds= [aq l,ae x]∧l.length≤100∧x∈l∧P (aq (cg l x))
theorem z6:FnOk P w Z.K mg base di 1 T.d_begun_at.f T.d_begun_at.fd ["ring","p"] (aT Z Kx):=by
 have nd:=rd.nd;refine bg T.d_begun_at.F rd [0,0,0] (by decide) (λds R h=>by obtain ⟨_,_,rfl,_⟩:=h;rfl) (λbQ A outer s H E ds R hr h=>?_)
 have hu:=hr.units
 refine ⟨_,(ah (aF false 2 nd (iR (aa 0) (aa 1)))
   (au (aM (aA bE (bp (aa 0) (bw (aa 2)) bR) (bp (aa 0) bR (bw (aa 2))))))),?_⟩
 obtain ⟨l,x,rfl,h1,hx,q⟩:=h;have ll:(l.map ae).length=l.length:=aI _;have il:=fq.mpr hx;refine ⟨_,rfl,_,rfl,_,rfl,rfl,bS _,_,_,(aS hx).1,(aS hx).2.1,(aS hx).2.2,trivial,?_⟩;have ca:cutD (l.map ae) (some ((l.idxOf x:Nat):Int)) none=(l.drop (l.idxOf x)).map ae:=by rw [dH _ _ (by rw [ll];omega),kL]
 have cb:cutD (l.map ae) none (some ((l.idxOf x:Nat):Int))=(l.take (l.idxOf x)).map ae:=by rw [cX _ _ (by rw [ll];omega),jP]
 have mI:(cutD (l.map ae) (some ((l.idxOf x:Nat):Int)) none).length+(cutD (l.map ae) none (some ((l.idxOf x:Nat):Int))).length≤sizeLine:=by
  rw [ca,cb,aI,aI,dY,b8];exact small (by omega)
 have er:(.lst (cutD (l.map ae) (some ((l.idxOf x:Nat):Int)) none++cutD (l.map ae) none (some ((l.idxOf x:Nat):Int))):D)=aq (cg l x):=by rw [ca,cb];unfold aq cg;rw [eJ]
 rw [←er] at q;exact ⟨_,rfl,_,rfl,_,rfl,_,rfl,mI,q⟩
def CH:dD:=λds P=>∃(w:W)(R:List Nat)(i:Nat),ds= [.fo w,aq R,ae i]∧Good w∧w.length≤14∧hV w R∧i<R.length∧P (aq (withinL w R i))
theorem fi:FnOk P w Z.K mg base di 2 T.d_within_at.f T.d_within_at.fd ["web","ring","i"] (vn Z 1 CH):=by
 have nd:=pe.nd;refine xH 1 T.d_within_at.F pe [0,0,0,0] (by decide) (λds R h=>by obtain ⟨_,_,_,rfl,_⟩:=h;rfl) (λbQ A outer s H E ds R hr h=>?_)
 have hu:=hr.units
 refine ⟨_,(ah (aF false 3 nd (aB T.d_begun_at (z6 T) hr (ab (bF (rO T.W (aa 0) T.m_turns.m (oY T) (hr.mono (by decide)) T.m_turns.b) (bF (aa 1) (aa 2))) (ab (bF (aa 1) (aA cu (aA bE (aa 2) aw) (ax aP rfl T.B.len aO (ab (aa 1) ag)))) ag))))
   (au (ID (Gq (aa 3) (bw aw) (bw (iR (aa 3) (bF (aa 1) (aA lh (aa 2) aw)))))))),?_⟩
 obtain ⟨w',R',i,rfl,g,bL,Ti,hi,q⟩:=h;have lR:(R'.map ae).length=R'.length:=aI _;have h3:=Ti.len;have e0:(0:Int)<((R'.map ae).length:Int):=by rw [lR];omega
 have QG:=Ti.lt g (az hi);have rl:=dX g (R'.getD i 0);have nm:=Ti.next hi;refine ⟨_,rfl,w',rfl,w',rfl,bL,_,rfl,_,rfl,_,eG hi,_,ig QG,_,rfl,_,rfl,_,rfl,e0,_,xX hi,row w' (R'.getD i 0),R'.getD ((i+1)%R'.length) 0,rfl,by omega,nm,trivial,?_⟩
 have et:=lE nm;have pm:=Ti.Kc g hi;have Cn:R'.getD (bD R' i) 0∈cg (row w' (R'.getD i 0)) (R'.getD ((i+1)%R'.length) 0):=by rw [et];exact cM _ pm
 refine ⟨_,rfl,_,rfl,_,rfl,_,rfl,_,rfl,_,yf hi,rfl,bS _,_,_,(aS Cn).1,(aS Cn).2.1,(aS Cn).2.2,?_⟩
 have eb:(R'.getD ((i+1)%R'.length) 0==R'.getD (bD R' i) 0)=false:=by
  rw [beq_eq_false_iff_ne];exact (Ti.pn hi).symm
 have ei:(cg (row w' (R'.getD i 0)) (R'.getD ((i+1)%R'.length) 0)).idxOf (R'.getD (bD R' i) 0)=(jg (row w' (R'.getD i 0)) (R'.getD ((i+1)%R'.length) 0)).idxOf (R'.getD (bD R' i) 0)+1:=by
  rw [et,sW,eb];rfl
 have pl:=fq.mpr pm;have Qo:=lD nm
 have ef:(.lst (cutD ((cg (row w' (R'.getD i 0)) (R'.getD ((i+1)%R'.length) 0)).map ae) (some (1:Int)) (some (((cg (row w' (R'.getD i 0)) (R'.getD ((i+1)%R'.length) 0)).idxOf (R'.getD (bD R' i) 0):Nat):Int))):D)=aq (withinL w' R' i):=by
  have:=xr (cg (row w' (R'.getD i 0)) (R'.getD ((i+1)%R'.length) 0)) 1 ((cg (row w' (R'.getD i 0)) (R'.getD ((i+1)%R'.length) 0)).idxOf (R'.getD (bD R' i) 0)) (by omega) (by rw [oj,ei];omega)
  rw [xq,show (some (1:Int))=some ((1:Nat):Int) from rfl,this,ei,et,List.take_succ_cons,iP];rfl
 rw [←ef] at q;exact q
end rK
namespace L2
open PySem PySem.Spec PyProof.Rows
theorem fF.ok{P:Program}{w:World}{H:Hp}{h:Heap}{a:Addr}{b:Bool}{ns:List Int}(x:fF b a ns h):dF P w H h a (.ext (fF b a ns)):=by
 refine ⟨x,let ⟨o,_,_,_,ho,_⟩:=x;⟨o,ho⟩,λh1 h2 p k=>?_⟩;obtain ⟨o,es,ep,t,ho,r⟩:=p;exact ⟨o,es,ep,t,k o ho,r⟩
theorem sZ.elems{P:Program}{w:World}{es:Array (Int×Value)}{ns:List Int}(i:sZ es ns):ElemsOf (intKind P w) es.toList:=λe he=>by
 obtain ⟨k,t,rfl⟩:=i.1 e he;exact ⟨⟨k,by simp [intKind,Value.isInt],rfl⟩,rfl⟩
theorem xO:∀{es:List (Int×Value)}{ms:List Int},(∀e∈es,∃k t,e=(hashInt k,Value.int k t))→IntsAre (es.map (·.2)) ms→∀k,k∈ms↔∃e∈es,Value.isInt k e.2=true
 | [],_,_,h,k=>by cases h;simp
 |e::es,ms,ha,h,k=>by
  obtain ⟨j,t,rfl⟩:=ha e (cD ..);cases h with
  |cons n t' h=>
   have ih:=xO (λe he=>ha e (cM _ he)) h k;rw [cv,ih]
   constructor
   ·rintro (rfl| ⟨e,he,q⟩)
    ·exact ⟨_,cD ..,by simp [Value.isInt]⟩
    ·exact ⟨e,cM _ he,q⟩
   ·rintro ⟨e,he,q⟩
    rcases cv.mp he with rfl|he
    ·left;simp [Value.isInt] at q;exact q.symm
    ·exact .inr ⟨e,he,q⟩
theorem sZ.mem{P:Program}{w:World}{es:Array (Int×Value)}{ns:List Int}(i:sZ es ns)(k:Int):k∈ns↔∃e∈es.toList,(intKind P w).is k e.2=true:=by
 obtain ⟨a,_,ms,b,c⟩:=i;rw [←c.mem_iff];exact xO a b k
theorem xN:∀{vs:List Value}{ms:List Int},IntsAre vs ms→vs.length=ms.length
 |_,_, .nil=>rfl
 |_,_, .cons _ _ h=>congrArg (·+1) (xN h)
theorem sZ.size{es:Array (Int×Value)}{ns:List Int}(i:sZ es ns):es.size=ns.length:=by
 obtain ⟨_,_,ms,b,c⟩:=i;rw [←c.length_eq,←xN b,aI,dZ]
theorem _root_.PySem.hU.Kv{b:Bool}{o:Obj}{es:Array (Int×Value)}{ep:Nat}{t:SetTable}(S:hU b o es ep t):es.size≤306:=by
 have:=S.few
 rcases S.tok.few with h|h|h|h<;>omega
theorem fF.setOf{P:Program}{w:World}{h:Heap}{a:Addr}{b:Bool}{ns:List Int}(x:fF b a ns h):h.SetOf (intKind P w) a (λk=>decide (k∈ns)) ns.length:=by
 obtain ⟨o,es,ep,t,ho,S,i⟩:=x;refine ⟨o,es,ep,t,ho,S.ex,S.dat,i.elems,λk=>?_,?_,S.fits,i.size⟩
 ·rw [decide_eq_true_eq];exact i.mem k
 ·have:=S.Kv
  show es.size<4096;omega
def xM(ns:List Int)(k:Int):List Int:=if k∈ns then ns else ns++ [k]
section
variable {X:Cx}
theorem Inv.F2{pins:List (Addr×Obj)}{σ:St}{H:Hp}{s:Shared}{a:Addr}{b:Bool}{ns:List Int}(I:Inv X pins σ H s)(h:H a=some (.ext (fF b a ns))):fF b a ns s.heap:=(I.hok a _ h).1
theorem J4{p pos:Pos}(hg:Gl X "set")(hm:X.mg "set"=none):PE X (.Call (.Name "set" p) [] [] pos) (λσ H Q=>∀q,H q=none→Q (.ref q) (upd H q (.ext (fF (e9 X.w) q [])))):=by
 intro pins s σ H Q I h;refine wpAny_Call_Name_kw (iM I hg hm (u:= .type "set") (by decide+kernel) ?_ (by decide) (by decide))
 refine PyProof.Rows.callWith_type rfl (PyProof.Rows.evalArgs_nil3 (zh ?_));have hn:=I.hok.fresh (bC _);refine ⟨.ref s.heap.objs.size,_,I.laid (t':=s.toks) (λb o e=>Heap.get?_push_of_some _ e) (bC _) (o:= .ext (fF (e9 X.w) s.heap.objs.size [])) (fF.ok ⟨_,_,_,_,Heap.get?_push_size _ rfl,hU.new X.w,?_⟩),rfl,h _ hn⟩;exact ⟨λe he=>by simp at he,mw,[],by simpa using IntsAre.nil, .refl _⟩
theorem Et:OpR X (compareOp .NotIn) (λx y H Q=>∃k p b ns,x= .int k∧y= .ref p∧H p=some (.ext (fF b p ns))∧Q (.bl (!decide (k∈ns))) H):=by
 intro pins s σ H x y v u Q I rx ry h;obtain ⟨k,p,b,ns,rfl,rfl,hp,q⟩:=h;obtain ⟨t,rfl⟩:=rx;cases ry;exact wpAny_notInSet_of (knd:=intKind X.prog X.w) (k:=k) (by simp [intKind,Value.isInt]) rfl (I.F2 hp).setOf ⟨.bl _,H,I.tok _,rfl,q⟩
def Qk(w:World):V→List V→Hp→VK→Prop:=λx vs H Q=>∃l b ns k,x= .ref l∧vs= [.int k]∧H l=some (.ext (fF b l ns))∧b=e9 w∧ns.length≤300∧Q .bo (upd H l (.ext (fF b l (xM ns k))))
theorem JH:K6 X "set.add" (Qk X.w):=by
 intro pins s σ H x vs v us Q I rx rv h;obtain ⟨l,b,ns,k,rfl,rfl,hl,rfl,hz,q⟩:=h;cases rx;obtain ⟨u,rfl,ru⟩:=rv.one;obtain ⟨tk,rfl⟩:=ru;obtain ⟨o,es,ep,t,ho,S,i⟩:=I.F2 hl;have hT:s.TypeIs (.ref l) "set":=⟨o,ho,S.ex.1⟩;refine wpAny_call_entry F.slot_set_add hT F.entry_set_add ?_ (F.args_set_add_2 _ _);unfold Builtin.«set.add» Builtin.Frozenset.oneOther;simp only [List.isEmpty_nil,bind_assoc];unfold Builtin.Frozenset.addrOf setAdd;refine wpAny_bind (wpAny_pure ?_)
 try dsimp only
 refine wpAny_bind (wpAny_pure ?_)
 try dsimp only
 refine wpAny_bind ?_;refine wpAny_holding ?_;have hk:(intKind X.prog X.w).is k (.int k tk)=true:=by simp [intKind,Value.isInt]
 refine wpAny_bind ((intKind X.prog X.w).pyHash hk ?_);refine AU (s:={s with toks:=s.toks+1}) ho S i.elems hk (by rw [i.size];omega) (λhm=>?_) λnm h' o' jU Dt t' sb mE S' pm=>?_
 ·show wpAny _ _ (ret Value.none) _ _ _
  have qF:k∈ns:=(i.mem k).mpr hm;rw [xM,if_pos qF] at q
  have e:upd H l (.ext (fF (e9 X.w) l ns))=H:=by
   funext c
   by_cases z:c=l
   ·subst z;rw [aC];exact hl.symm
   ·rw [aG z]
  rw [e] at q;exact wpAny_pure ⟨_,rfl, .bo,H,I.tok _,rfl,q⟩
 ·show wpAny _ _ (ret Value.none) _ _ _
  have qF:k∉ns:=λz=>nm ((i.mem k).mp z);rw [xM,if_neg qF] at q
  have i':sZ jU (ns++ [k]):=by
   obtain ⟨a1,a2,ms,a3,a4⟩:=i;refine ⟨λe he=>?_,?_,?_⟩
   ·rcases dh.mp (pm.mem_iff.mp he) with h|h
    ·exact a1 e h
    ·rw [gQ] at h;exact ⟨k,tk,h⟩
   ·rw [fN]
    refine ⟨a2,by simp,λx hx y hy z=>qF ?_⟩
    rw [gQ] at hy;rw [←hy,←z];exact hx
   ·have a5:IntsAre ((es.toList++ [((intKind X.prog X.w).hash k,Value.int k tk)]).map (·.2)) (ms++ [k]):=by
     rw [eJ];clear a4 pm;generalize es.toList.map (·.2)=vs at a3
     induction a3 with
     |nil=>exact .cons k tk .nil
     |cons n t _ ih=>exact .cons n t ih
    obtain ⟨ms',b1,b2⟩:=vd (pm.map (·.2)) a5;exact ⟨ms',b1,b2.trans (a4.append_right _)⟩
  have I':=I.write (h':=h') (t':=s.toks+1) (x:=l) (e:=l) (o:= .ext (fF (e9 X.w) l (ns++ [k]))) (by rw [hl];trivial) (.inl rfl) (λb u hb e=>sb.extBut b u hb e) ⟨o',mE⟩ (fF.ok ⟨o',jU,Dt,t',mE,S',i'⟩)
  exact wpAny_pure ⟨_,rfl, .bo,_,I',rfl,q⟩
def Wh(r:V→List V→Hp→VK→Prop)(to:TE)(t:TA):TE:=λσ H Q=>to σ H λx H1=>(∃p b ns,x= .ref p∧H1 p=some (.ext (fF b p ns)))∧t σ H1 λxs H2=>r x xs H2 Q
variable {o e:Expr} {es:List Expr} {to:TE} {t:TA} {name:Str} {apos bu:Pos} {id:String} {r:V→List V→Hp→VK→Prop}
theorem Mo(pa:PlainAttrs "set")(slot:Slot "set" name id)(Jo:typeOf (.builtin id)=pure (.type "method_descriptor"))(hm:K6 X id r)(ho:PE X o to)(ha:PA X (e::es) t)
  (fh:attributeBase o name X.env (eval o X.env)=eval o X.env:=by rfl)
  (ke:((backTo bu (starEach (e::es) X.env)).all (λx=>!x.1)&&(backToKw bu (keywordEach [] X.env)).all (λx=>x.1.isSome)
   &&decide ((e::es).length+([]:List Keyword).length+(if ([]:List Keyword).isEmpty then 0 else 1)<30))=true:=by rfl)
  (dj:(apos.endLine==bu.line)=true:=by rfl) (hs:starEach (e::es) X.env=(false,eval e X.env)::starEach es X.env:=by rfl) (fA:(backTo bu (starEach es X.env)).any (·.1)=false:=by rfl):
  PE X (.Call (.Attribute o name apos) (e::es) [] bu) (Wh r to t):=by
 intro pins s σ H Q I h;refine wpAny_Call_method_late fh ke dj rfl (thn (ho pins s σ H _ I h) λv s1 ⟨x,H1,I1,r1,ty,q1⟩=>?_);obtain ⟨p,b,ns,rfl,hp⟩:=ty;cases r1;obtain ⟨oo,_,_,_,Ts,S,_⟩:=I1.F2 hp;refine ⟨"set",id,pa,slot,Jo,⟨oo,Ts,S.ex.1⟩,λa ea=>?_,?_⟩
 ·cases ea;exact ⟨oo,Ts,S.ex.2.1⟩
 have hA:=ha bu pins s1 σ H1 _ I1 q1;rw [hs] at hA ⊢;refine Calls.callWith_builtin (by show (false|| (backTo bu (starEach es X.env)).any (·.1))=false;rw [fA]<;>rfl) (Calls.evalArgs_plain ?_)
 exact thn hA λus s2 ⟨vs,H2,I2,r2,q2⟩=>hm pins s2 σ H2 (.ref p) vs (.ref p) us Q I2 rfl r2 q2
theorem wY(hc:X.calm=true):cP X (.builtin "sorted") (λxs H Q=>∃(p:Addr)(ns:List Int),xs= [.ref p]∧H p=some (.ext (fF (e9 X.w) p ns))∧ns.length<64∧∀(q:Addr)(ms:List Int),H q=none→ms.Perm ns→ms.Pairwise (·≤·)→Q (.ref q) (upd H q (.lst (ms.map V.int)))):=by
 intro pins s σ H xs us Q I rv h;obtain ⟨p,ns,rfl,hp,hz,q⟩:=h;obtain ⟨u,rfl,ru⟩:=rv.one;cases ru;obtain ⟨o,es,ep,t,ho,S,i⟩:=I.F2 hp;obtain ⟨_,_,ms0,i1,i2⟩:=id i;refine CF (I.ok.hd hc) ho S i1 (by rw [i.size];exact hz) λh' tk c out e ms old le hg hI pm uh=>?_
 have fr:H c=none:=I.hok.fresh le;have dj:64≤sizeLine:=by decide
 have GJ:=(pm.trans i2).length_eq;exact ⟨.ref c,_,I.laid (t':=tk) old le (o:= .lst (ms.map V.int)) ⟨by rw [aI];omega,out.toList,e,lJ hI,by simpa using hg⟩,rfl,q c ms fr (pm.trans i2) uh⟩
end
section
variable {Z:DC} {X:Cx} {B:Bs} {md:List Nat} {rn:Nat} {ρ:DN} {σ:St} {H G:Hp} {fp:Nat→List Addr} {a e k o:Expr} {ta te tk tp:br} {pos apos bu p2:Pos}
def RT(neg:Bool):gh:=λa b P=>∃k bb ns,a= .int k∧b= .set bb ns∧P (.bl (if neg=true then !decide (k∈ns) else decide (k∈ns)))
theorem Ep:OpR X (compareOp .NotIn) (bW Z (RT true)):=by
 refine Et.imp ?_;rintro x y H Q ⟨G,a,b,P,s,da,db,⟨k,bb,ns,rfl,rfl,h⟩,q⟩;cases da;cases db with
 |set hp=>exact ⟨k,_,_,ns,rfl,rfl,s _ _ hp,q _ h _ G H (.refl s) (.bl _)⟩
def Lb(w:World):dD:=λds P=>∃ns:List Int,ds= [.set (e9 w) ns]∧ns.length<64∧∀ms:List Int,ms.Perm ns→ms.Pairwise (·≤·)→P (.lst (ms.map D.int))
theorem Gi(hc:X.calm=true):cP X (.builtin "sorted") (iz Z (Lb X.w)):=by
 refine (wY hc).imp ?_;rintro xs H Q ⟨G,ds,P,s,dv,⟨ns,rfl,hl,hp⟩,q⟩;cases dv with
 |cons a as=>
  cases as;cases a with
  |set h=>
   refine ⟨_,ns,rfl,s _ _ h,hl,λp ms hn h1 h2=>?_⟩;exact q _ (hp ms h1 h2) _ _ _ (.new s hn) (.lst aC (.ints ms))
def OM(w:World)(i:Nat):e8:=λE ρ=>E.nx (ρ.set i (some (.set (e9 w) [])))
theorem IE(i:Nat){x:Str}{pos' p:Pos}(hN:X.N.Nodup)(hg:Gl X "set")(DU:X.mg "set"=none)(hm:md.getD i 0=99:=by rfl)(hi:X.N[i]? =some x:=by rfl)(hx:Loc X.env.scope x:=by first|exact Or.inl rfl|exact Or.inr rfl)(hs:swapsWith (.Call (.Name "set" p) [] [] p2) (some (.Name x pos')) pos.line X.env=pure false:=by rfl)
  (hf:X.fn x=true∨X.env.scope.names.lookup x=some .local:=by first|exact .inl rfl|exact .inr rfl|assumption):DSt Z X md rn (.Assign [.Name x pos'] (.Call (.Name "set" p) [] [] p2) pos) (OM X.w i):=by
 refine (uw hN hi hx (J4 hg DU) hs hf).imp ?_;rintro D σ H ⟨B,ρ,E,⟨G,fp,S⟩,h,M⟩;intro c hc;have gc:G c=none:=S.ex.sub.free hc;have x:Ext G H G (upd H c (.ext (fF (e9 X.w) c []))):=⟨.refl _,S.ex.sub.trans (aV hc _),aV hc _,λ_ _ z=>z⟩;refine M.nx _ h _ _ ⟨G,_,(S.grow x).NX hm (f:= [c]) (.inr (.inr ⟨rfl,c,_,[],rfl,rfl,aC,rfl⟩)) (by simp) (λb hb=>?_) λb hb j _ hj=>?_⟩
 ·rw [gQ] at hb;subst hb
  exact ⟨S.ex.hh.free hc,(by rw [aC];exact λz=>nomatch z),gc⟩
 ·rw [gQ] at hb;subst hb
  exact (S.nw j _ hj).2.1 hc
def OC(w:World)(md:List Nat)(m:Bool)(i:Nat)(te:br):e8:=λE ρ=>∃ns,ρ[i]? =some (some (.set (e9 w) ns))∧te (EY md m ρ) λd=>∃k,d= .int k∧ns.length≤300∧E.nx (ρ.set i (some (.set (e9 w) (xM ns k))))
theorem IC(m:Bool)(i:Nat){x:Str}{px:Pos}(he:DE Z X e te)(hm:md.getD i 0=99:=by rfl)(hi:X.N[i]? =some x:=by rfl)(hv:uE X.env.scope x:=by first|exact Or.inl rfl|exact Or.inr (Or.inl rfl) |exact Or.inr (Or.inr rfl))(hd:(x==("__debug__":Str))=false:=by decide)(gY:(x==("__classdict__":Str))=false:=by decide)
  (fh:attributeBase (.Name x px) "add" X.env (eval (.Name x px) X.env)=eval (.Name x px) X.env:=by rfl)
  (ke:((backTo bu (starEach [e] X.env)).all (λx=>!x.1)&&(backToKw bu (keywordEach [] X.env)).all (λx=>x.1.isSome)&&decide (([e]:List Expr).length+([]:List Keyword).length+(if ([]:List Keyword).isEmpty then 0 else 1)<30))=true:=by rfl)
  (dj:(apos.endLine==bu.line)=true:=by rfl) (hs:starEach [e] X.env=(false,eval e X.env)::starEach [] X.env:=by rfl) (fA:(backTo bu (starEach [] X.env)).any (·.1)=false:=by rfl)
  (kW:swapsWith (.Call (.Attribute (.Name x px) "add" apos) [e] [] bu) none pos.line X.env=pure false:=by rfl):
  DSt Z X md rn (.Expr (.Call (.Attribute (.Name x px) "add" apos) [e] [] bu) pos) (OC X.w md m i te):=by
 refine (qX (Mo PySem.F.plainAttrs_set PySem.F.slot_set_add PySem.F.type_set_add JH (pv i hi hv hd gY) (gE he lu hs) fh ke dj hs fA) kW).imp ?_;rintro D σ H ⟨B,ρ,E,⟨G,fp,S⟩,⟨ns,h1,h⟩,M⟩;obtain ⟨v0,Jp,o0⟩:=S.at_ i _ h1;rw [hm] at o0;obtain ⟨l,rfl,hl,_⟩:=o0.NW;refine ⟨_,Jp,⟨l,_,_,rfl,hl⟩,S.ev m h λd hd=>?_⟩;obtain ⟨k,rfl,hz,hn⟩:=hd;refine ⟨by cases m<;>trivial,λv G' H' S' x dv=>?_⟩
 cases dv;obtain ⟨v1,TF,o1⟩:=S'.at_ i _ h1;rw [Jp] at TF;cases TF;rw [hm] at o1;obtain ⟨l',e',YE,LG⟩:=o1.NW;cases e';refine ⟨l,_,ns,k,rfl,rfl,YE,rfl,hz,M.nx _ hn _ _ ⟨G',fp,S'.mut Jp (b:=l) (by rw [LG];simp) ?_⟩⟩
 rw [hm,LG];exact .inr (.inr ⟨rfl,l,_,_,rfl,rfl,aC,rfl⟩)
def RS(md:List Nat)(i:Nat)(te:br):e8:=λE ρ=>∃ds,ρ[i]? =some (some (.lst ds))∧te (eT md ρ) λd=>∃zs,d= .lst zs∧ds.length+zs.length≤sizeLine∧E.nx (ρ.set i (some (.lst (ds++zs))))
theorem Ls(i:Nat){x:Str}{px:Pos}(he:DE Z X e te)(hm:md.getD i 0=1:=by rfl)(hi:X.N[i]? =some x:=by rfl)(hv:uE X.env.scope x:=by first|exact Or.inl rfl|exact Or.inr (Or.inl rfl) |exact Or.inr (Or.inr rfl))(hd:(x==("__debug__":Str))=false:=by decide)(gY:(x==("__classdict__":Str))=false:=by decide)
  (fh:attributeBase (.Name x px) "extend" X.env (eval (.Name x px) X.env)=eval (.Name x px) X.env:=by rfl)
  (ke:((backTo bu (starEach [e] X.env)).all (λx=>!x.1)&&(backToKw bu (keywordEach [] X.env)).all (λx=>x.1.isSome)&&decide (([e]:List Expr).length+([]:List Keyword).length+(if ([]:List Keyword).isEmpty then 0 else 1)<30))=true:=by rfl)
  (dj:(apos.endLine==bu.line)=true:=by rfl) (hs:starEach [e] X.env=(false,eval e X.env)::starEach [] X.env:=by rfl) (fA:(backTo bu (starEach [] X.env)).any (·.1)=false:=by rfl)
  (kW:swapsWith (.Call (.Attribute (.Name x px) "extend" apos) [e] [] bu) none pos.line X.env=pure false:=by rfl):
  DSt Z X md rn (.Expr (.Call (.Attribute (.Name x px) "extend" apos) [e] [] bu) pos) (RS md i te):=by
 refine (qX (z8 PySem.F.plainAttrs_list PySem.F.slot_list_extend PySem.F.type_list_extend Eh (pv i hi hv hd gY) (gE he lu hs) fh ke dj hs fA) kW).imp ?_;rintro D σ H ⟨B,ρ,E,⟨G,fp,S⟩,⟨ds,h1,h⟩,M⟩;obtain ⟨l,xs,_,_,e2,e3,_⟩:=S.one hm h1;refine ⟨_,e2,ty_list e3,S.ev false h λd hd=>⟨trivial,λv G' H' S' x dv=>?_⟩⟩;obtain ⟨zs,rfl,h2,h3⟩:=hd;obtain ⟨l',qi,qs,e1,jt,t6,bB,put⟩:=S'.one hm h1;cases e1;rw [e2] at jt;cases jt;cases dv with
 | @lst b ys _ hb dz=>
  exact ⟨l,b,qi,ys,rfl,rfl,t6,S'.ex.sub _ _ hb,by rw [bB.length,dz.length];exact h2,M.nx _ h3 _ _ ⟨G',fp,put _ _ (bB.append dz)⟩⟩
end
section
variable {Z:DC} {X:Cx} {md:List Nat} {rn:Nat} {elt t0 i0 t1 i1:Expr} {f0 f1:List Expr} {scope:Scope} {pos:Pos} {wi cI:hJ} {g g1:dR} {tt cq:dE} {te:br} {src:List (Option Nat)} {NC:List Str}
def NA(wi:hJ)(g:dR)(tt:dE)(cI:hJ)(g1:dR)(cq:dE)(te:br)(src:List (Option Nat)):pF:=λρ P=>wi ρ λds=>ic g tt cI g1 cq te ds (vW src ρ) [] λout=>P out
theorem GW:∀σ H Q,vk Z 1 (NA wi g tt cI g1 cq te src) σ H Q→F7 (pT Z wi) (ng Z g) (liftT Z tt) (pT Z cI) (ng Z g1) (liftT Z cq) (dJ Z te) src σ H Q:=by
 rintro σ H Q ⟨G,ρ,P,s,en,h,q⟩;refine ⟨G,ρ,_,s,en,h,λds hd J G1 H1 x1 it Ad hA=>?_⟩;refine ⟨λi m eV H2=>m=ds.length-i∧i≤ds.length∧∃cN acc,CS Z G1 H1 Ad cN acc eV H2∧ic g tt cI g1 cq te (ds.drop i) cN acc λout=>P out,⟨_,rfl,cH _,_,[], .begin x1.sub hA ((en.mono x1.gg).src src),hd⟩,?_⟩;rintro i m eV H2 ⟨rfl,hi,cN,acc,c,hl⟩
 by_cases bN:i<ds.length
 ·have c0:=c
  obtain ⟨G2,ys,s1,s2,s3,off,gA,kU,bB,OT⟩:=c;obtain ⟨go,_,yld⟩:=it G2 H2 s1 s2 i;refine .inr ⟨go bN,λay H'=>∃aD cm,CS Z G1 H1 Ad aD cm ay H'∧ic g tt cI g1 cq te (ds.drop (i+1)) aD cm λout=>P out,λay H' n=>⟨ds.length-(i+1),by omega,rfl,bN,n⟩,λx H3 y=>?_⟩
  obtain ⟨G3,d,x3,I0,dv⟩:=yld x H3 bN y;rw [j9 I0] at hl;refine ⟨G3,cN,d,_,x3.sub,OT.mono x3.gg,dv,hl,λaW h1 fc qw=>?_⟩;refine ⟨G3,aW,_,x3.sub,qw,h1,λb hb G5 H5 x5=>?_⟩;have ik:=x3.trans x5;have qQ:∀{G kN:Hp},Ext G2 H2 G kN→G Ad=none:=λx=>x.off Ad (by rw [kU];exact λz=>nomatch z) gA
  have ku:∀{G kN:Hp},Ext G2 H2 G kN→∀b,H1 b≠none→G1 b=none→G b=none:=λx b h1 h2=>x.off b (fm s3 h1) (off b h1 h2);cases b with
  |false=>exact dg ⟨aW,acc,⟨G5,ys,s1.trans ik.gg,ik.sub,s3.trans ik.hh,ku ik,qQ ik,ik.hh _ _ kU,bB.mono ik.gg,qw.mono x5.gg⟩,by simpa using hb⟩
  |true=>
   refine eY ⟨G5,aW,_,x5.sub,qw.mono x5.gg,(by simpa using hb),λes Po J1 G6 H6 x6 zO=>?_⟩
   have x:=ik.trans x6;have c6:CS Z G6 H6 Ad aW acc fc H6→True:=λ_=>trivial
   refine ⟨λk m nV H7=>m=es.length-k∧k≤es.length∧∃(wN:DN)(mM:List D),(∃(G:Hp)(ys:List V),aK G6 G∧aK G H7∧aK H1 H7∧(∀b,H1 b≠none→G1 b=none→G b=none)∧G Ad=none∧H7 Ad=some (.lst ys)∧av Z G ys mM∧dq Z G nV wN)∧
    lcW g1 cq te (es.drop k) wN mM λcN j7=>ic g tt cI g1 cq te (ds.drop (i+1)) cN j7 λout=>P out,
    ⟨_,rfl,cH _,aW,acc,⟨G6,ys, .refl _,x.sub,s3.trans x.hh,ku x,qQ x,x.hh _ _ kU,bB.mono x.gg,(qw.mono x5.gg).mono x6.gg⟩,Po⟩,?_⟩
   rintro k m nV H7 ⟨rfl,hk,wN,mM,⟨G7,A2,a1,a2,a3,a4,a5,a6,a7,a8⟩,zI⟩;have O1:aK G1 G6:=s1.trans x.gg
   by_cases u4:k<es.length
   ·obtain ⟨O4,_,K2⟩:=zO G7 H7 a1 a2 k
    refine .inr ⟨O4 u4,λay H'=>∃(aD:DN)(cm:List D),(∃(G:Hp)(ys:List V),aK G6 G∧aK G H'∧aK H1 H'∧(∀b,H1 b≠none→G1 b=none→G b=none)∧G Ad=none∧H' Ad=some (.lst ys)∧av Z G ys cm∧dq Z G ay aD)∧
     lcW g1 cq te (es.drop (k+1)) aD cm λcN j7=>ic g tt cI g1 cq te (ds.drop (i+1)) cN j7 λout=>P out,λay H' n=>⟨es.length-(k+1),by omega,rfl,u4,n⟩,λy H8 hy=>?_⟩
    obtain ⟨G8,d8,x8,Pm,OQ⟩:=K2 y H8 u4 hy;rw [j9 Pm] at zI;refine ⟨G8,wN,d8,_,x8.sub,a8.mono x8.gg,OQ,zI,λBc h9 σ9 zw=>?_⟩;refine ⟨G8,Bc,_,x8.sub,zw,h9,λb hb HH HI wj=>?_⟩;have xx:=x8.trans wj;have oA:∀{G kN:Hp},Ext G7 H7 G kN→G Ad=none:=λx=>x.off Ad (by rw [a6];exact λz=>nomatch z) a5
    have oB:∀{G kN:Hp},Ext G7 H7 G kN→∀b,H1 b≠none→G1 b=none→G b=none:=λx b h1 h2=>x.off b (fm a3 h1) (a4 b h1 h2);cases b with
    |false=>exact dg ⟨Bc,mM,⟨HH,A2,a1.trans xx.gg,xx.sub,a3.trans xx.hh,oB xx,oA xx,xx.hh _ _ a6,a7.mono xx.gg,zw.mono wj.gg⟩,by simpa using hb⟩
    |true=>
     refine eY ⟨HH,Bc,_,wj.sub,zw.mono wj.gg,(by simpa using hb),λd' oK v N5 HJ K1 IF=>?_⟩
     have xz:=xx.trans K1;refine ⟨A2,xz.hh _ _ a6,by rw [a7.length];exact oK.1,Bc,_,⟨N5,A2++ [v],a1.trans xz.gg,λb o e=>?_,λb o e=>?_,oB xz,oA xz,aC,(a7.mono xz.gg).snoc IF,(zw.mono wj.gg).mono K1.gg⟩,oK.2⟩
     ·rw [aG (aY e (oA xz))];exact xz.sub _ _ e
     ·rw [aG (aY e hA)];exact (a3.trans xz.hh) _ _ e
   ·have e:es.drop k= []:=wC (by omega)
    rw [e] at zI;exact .inl ⟨(zO G7 H7 a1 a2 k).2.1 (by omega),wN,mM,⟨G7,A2,O1.trans a1,a2,a3,a4,a5,a6,a7,a8⟩,zI⟩
 ·have e:ds.drop i= []:=wC (by omega)
  rw [e] at hl;obtain ⟨G2,ys,s1,s2,s3,off,gA,kU,bB,en⟩:=c;refine .inl ⟨(it G2 H2 s1 s2 i).2.1 (by omega),q _ hl (.ref Ad) [Ad] G2 H2 ⟨x1.gg.trans s1,s2,x1.hh.trans s3,λb hb hg=>off b (fm x1.hh hb) (x1.off b hb hg)⟩ (.inl ⟨Ad,ys,acc,[],rfl,rfl,kU,rfl,bB.own⟩) (by simp) λb hb=>?_⟩
  have:b=Ad:=by simpa using hb
  subst this;exact ⟨x1.hh.free hA,(by rw [kU];exact λz=>nomatch z),gA⟩
theorem Dk(i:Nat){x:Str}{px ij:Pos}(hc:X.calm=true)(hN:X.N.Nodup)(c:b9 X scope)(dO:cR scope X.N src NC)(hi:DI Z X t0 i0 wi)
  (hg:∀ex s H,DG Z (bT X scope NC ex s H) t0 g) (ht:∀ex s H,tZ Z (bT X scope NC ex s H) f0 tt) (oM:∀ex s H,DI Z (bT X scope NC ex s H) t1 i1 cI) (u0:∀ex s H,DG Z (bT X scope NC ex s H) t1 g1)
  (u9:∀ex s H,tZ Z (bT X scope NC ex s H) f1 cq) (he:∀ex s H,DE Z (bT X scope NC ex s H) elt te)
  (kW:swapsWith (.ListComp elt [⟨t0,i0,f0,0⟩,⟨t1,i1,f1,0⟩] scope pos) (some (.Name x px)) ij.line X.env=pure true:=by rfl) (hm:md.getD i 0=1:=by rfl) (iK:X.N[i]? =some x:=by rfl) (hx:Loc X.env.scope x:=by first|exact Or.inl rfl|exact Or.inr rfl)
  (hf:X.fn x=true∨X.env.scope.names.lookup x=some .local:=by first|exact .inl rfl|exact .inr rfl|assumption)
  (hs:∀x,foldedSetIterable i0 X.env x=pure x:=by intro _;rfl) (qG:∀env x,foldedSetIterable i1 env x=pure x:=by intro _ _;rfl):
  DSt Z X md rn (.Assign [.Name x px] (.ListComp elt [⟨t0,i0,f0,0⟩,⟨t1,i1,f1,0⟩] scope pos) ij) (Io md i (NA wi g tt cI g1 cq te src)):=by
 refine (vL hc hN iK hx c dO hi hg ht oM u0 u9 he kW hf hs qG).imp ?_;rintro D σ H ⟨B,ρ,E,⟨G,fp,S⟩,h,M⟩;exact GW σ H _ (su hm S h M)
end
section
variable {Z:DC} {X:Cx}
theorem qV(ns:List Int):∀n,n≤ns.length→preSum (λi=>ns.getD i 0) n=(ns.take n).sum
 |0,_=>by simp [preSum]
 |n+1,h=>by
  have:=qV ns n (by omega)
  rw [preSum,this,List.take_succ_eq_append_getElem (by omega),List.sum_append,aL,bz (by omega)]
  simp
theorem De(hc:X.calm=true):cP X (.builtin "sum") (λxs H Q=>∃(p:Addr)(ns:List Int),xs= [.ref p]∧H p=some (.lst (ns.map V.int))∧Q (.int ns.sum) H):=by
 intro pins s σ H xs us Q I rv h;obtain ⟨p,ns,rfl,hp,q⟩:=h;obtain ⟨u,rfl,ru⟩:=rv.one;cases ru;obtain ⟨its,r,pl,hz⟩:=I.list (cQ.of hp);have hl:=r.length;rw [aI] at hl;refine call_sum_walkG (wpAny_pyIter_list pl.isList ?_)
 have bN:p<s.heap.objs.size:=by
  obtain ⟨o,ho,_⟩:=pl.isList;exact Heap.lt_size ho
 have zK:p≠s.heap.objs.size:=bV bN;refine ⟨_,_,_,its.toArray.size,_,_,λi=>ns.getD i 0,rfl,Walks.list (show X.A.in1.handled=none from I.ok.hd hc) s.heap.objs.size p zK its.toArray,⟨⟨_,Heap.get?_push_size _ rfl,rfl,rfl⟩,pl.isList.push _⟩,?_,?_,λh' tk t' kk=>?_⟩
 ·intro b hb
  show b<(s.heap.push _).objs.size;rw [size_push'];simp only [cv,wL,or_false] at hb
  rcases hb with rfl|rfl
  ·exact wy _
  ·exact wK bN
 ·intro i v hv
  have DY:its[i]? =some v:=by simpa using hv
  have hi:i<its.length:=(eU.mp DY).1;obtain ⟨w,hw,EH⟩:=r.get (i:=i) (x:= .int (ns.getD i 0)) (by rw [e7,aL,bz (by omega)];rfl)
  rw [hw] at DY;cases DY;exact EH
 ·have kept:∀b o,s.heap.get? b=some o→h'.get? b=some o:=λb o e=>kk b o (by simp;exact bV (Heap.lt_size e)) (Heap.get?_push_of_some _ e)
  have e:preSum (λi=>ns.getD i 0) its.toArray.size=ns.sum:=by
   rw [cJ,←hl,qV ns _ (bC _),tT (bC _)]
  rw [e];exact ⟨.int _,H,I.kept kept,⟨_,rfl⟩,q⟩
def Rg:dD:=λds P=>∃ns:List Int,ds= [.lst (ns.map D.int)]∧P (.int ns.sum)
theorem Lg(hc:X.calm=true):cP X (.builtin "sum") (iz Z Rg):=by
 refine (De hc).imp ?_;rintro xs H Q ⟨G,ds,P,s,dv,⟨ns,rfl,hp⟩,q⟩;cases dv with
 |cons a as=>
  cases as;cases a with
  |lst h e=>exact ⟨_,ns,rfl,by rw [←uT e];exact s _ _ h,q _ hp _ G H (.refl s) (.int _)⟩
theorem Lf:bootBuiltins "sum"=some (.builtin "sum"):=by decide+kernel
end
end L2
namespace Wb
section
variable {α:Type}
open Classical in
noncomputable def num(P:α→Prop)(l:List α):Nat:=(l.filter λx=>decide (P x)).length
theorem bO(P:α→Prop)(a:α)(l:List α):(P a→num P (a::l)=num P l+1)∧(¬P a→num P (a::l)=num P l):=by
 unfold num
 constructor
 ·intro h;rw [List.filter_cons_of_pos (by simpa using h)];rfl
 ·intro h;rw [List.filter_cons_of_neg (by simpa using h)]
theorem bX{P Q:α→Prop}:∀{l:List α},(∀x∈l,P x↔Q x)→num P l=num Q l
 | [],_=>rfl
 |a::l,h=>by
  have ih:=bX (P:=P) (Q:=Q) (l:=l) λx hx=>h x (cM _ hx)
  by_cases c:P a
  ·rw [(bO P a l).1 c,(bO Q a l).1 ((h a (cD ..)).mp c),ih]
  ·rw [(bO P a l).2 c,(bO Q a l).2 (λz=>c ((h a (cD ..)).mpr z)),ih]
theorem fQ{P Q:α→Prop}:∀{l:List α},(∀x∈l,P x→Q x→False)→num (λx=>P x∨Q x) l=num P l+num Q l
 | [],_=>rfl
 |a::l,h=>by
  have ih:=fQ (P:=P) (Q:=Q) (l:=l) λx hx=>h x (cM _ hx)
  by_cases c:P a
  ·have nq:¬Q a:=λz=>h a (cD ..) c z
   rw [(bO _ a l).1 (Or.inl c),(bO P a l).1 c,(bO Q a l).2 nq,ih];omega
  ·by_cases d:Q a
   ·rw [(bO _ a l).1 (Or.inr d),(bO P a l).2 c,(bO Q a l).1 d,ih];omega
   ·rw [(bO _ a l).2 (λz=>z.elim c d),(bO P a l).2 c,(bO Q a l).2 d,ih]
theorem kq{P:α→Prop}{l:List α}(h:∀x∈l,¬P x):num P l=0:=by
 unfold num;rw [List.filter_eq_nil_iff.mpr (by simpa using h)];rfl
theorem ni{a:α}:∀{l:List α},l.Nodup→a∈l→num (λx=>x=a) l=1
 | [],_,h=>by cases h
 |b::l,nd,h=>by
  obtain ⟨n1,n2⟩:=gS.mp nd
  by_cases c:b=a
  ·subst c
   rw [(bO (λx=>x=b) b l).1 rfl,kq (P:=λx=>x=b) λx hx e=>n1 (by rw [←e];exact hx)]
  ·rw [(bO (λx=>x=a) b l).2 c,ni n2 ((cv.mp h).resolve_left λz=>c z.symm)]
theorem jd:∀{S l:List α},S.Nodup→l.Nodup→(∀x∈S,x∈l)→num (λx=>x∈S) l=S.length
 | [],l,_,_,_=>kq λx _ h=>by cases h
 |a::S,l,ns,nl,h=>by
  obtain ⟨n1,n2⟩:=gS.mp ns;have e:num (λx=>x∈a::S) l=num (λx=>x=a∨x∈S) l:=bX λx _=>cv;rw [e,fQ (P:=λx=>x=a) (Q:=λx=>x∈S) (λx _ h1 h2=>n1 (by rw [←h1];exact h2)),ni nl (h a (cD ..)),jd n2 nl λx hx=>h x (cM _ hx),dB]
  omega
end
theorem mP(w:W)(A:Nat×Nat→Prop):cnt w A=num A (b7 w):=rfl
theorem Ct{l:List Nat}(nd:l.Nodup){P:Nat→Prop}(h:∀x∈l,P x→P (af l x)){a:Nat}(ha:a∈l)(pa:P a):∀x∈l,P x:=by
 have pos:0<l.length:=C0 ha;have ia:=fq.mpr ha
 have key:∀k,P (l.getD ((l.idxOf a+k)%l.length) 0):=by
  intro k
  induction k with
  |zero=>
   rw [Nat.add_zero,fu ia,aL,bz ia]
   have:l[l.idxOf a]=a:=gK ia
   show P (l[l.idxOf a]);rw [this];exact pa
  |succ k ih=>
   have bN:(l.idxOf a+k)%l.length<l.length:=jR _ pos
   have:=h _ (az bN) ih
   rw [iW nd bN] at this;rw [show l.idxOf a+(k+1)=l.idxOf a+k+1 by omega]
   rw [Nat.mod_add_mod] at this;exact this
 intro x hx;have ix:=fq.mpr hx
 have:=key (l.idxOf x+l.length-l.idxOf a)
 rw [show l.idxOf a+(l.idxOf x+l.length-l.idxOf a)=l.idxOf x+l.length by omega,Nat.add_mod_right,fu ix,aL,bz ix] at this
 have e:l[l.idxOf x]=x:=gK ix;have this:P (l[l.idxOf x]):=this;rw [e] at this;exact this
section
variable {w:W} {R:List Nat} {A:Nat×Nat→Prop}
theorem Disc.closed(g:Good w)(D:Disc w R A){p q:Nat}(hp:p∉R)(h:A (p,q)):∀r∈row w p,A (p,r):=by
 refine Ct (g.nod p) (P:=λr=>A (p,r)) (λx hx a=>?_) (D.dart _ h) h;have s:=(D.sym p x hx (λz=>hp z.1) (λz=>hp (by rw [z.2];exact bf z.1))).mp a
 exact (D.face (x,p) (g.sym _ _ hx)).mp s
def kO(R:List Nat)(A:Nat×Nat→Prop)(p:Nat):Prop:=p∉R∧∃q,A (p,q)
noncomputable def m9(w:W)(R:List Nat)(A:Nat×Nat→Prop):Nat:=num (kO R A) (List.range w.length)
theorem zi(g:Good w)(B:oF w)(D:Disc w R A){i j:Nat}(cK:i<j)(hj:j<R.length)(h:R.getD j 0∈withinL w R i):
  ∃S:Nat×Nat→Prop,Disc w ((R.take (j+1)).drop i) (λd=>A d∧S d)∧Disc w (R.drop j++R.take (i+1)) (λd=>A d∧¬S d):=by
 have hi:i<R.length:=by omega
 have hw:=(cn g D hi).mp h
 have hB:(R.drop (i+1)).take (j-i-1)≠ []:=by
  intro e;have e:=congrArg List.length e;simp only [b8,dY,jr] at e;have e:j=i+1:=by omega
  refine lK g D hi ?_;rw [fu (by omega),←e];exact h
 have hC:R.drop (j+1)++R.take i≠ []:=by
  intro e;have e:=congrArg List.length e;simp only [cy,b8,dY,jr] at e;refine hw.2 ?_;unfold bD;rw [if_pos (by omega),show j=R.length-1 by omega]
 rw [IU cK hj,IW cK hj];have s3:=uy cK hj;generalize hP:R.take i=P at*;generalize hp:R.getD i 0=p at*;generalize Yj:(R.drop (i+1)).take (j-i-1)=BB at*;generalize hq:R.getD j 0=q at*;generalize Yk:R.drop (j+1)=CC at*;have D0:Disc w (P++p::(BB++q::CC)) A:=s3▸D
 have D1:Disc w (p::(BB++q::(CC++P))) A:=by
  have:=D0.vO
  simpa using this
 have sj:=D1.nd;have e1:p::(BB++q::(CC++P))=(p::BB)++ [q]++(CC++P):=by simp
 have JK:(p::(BB++ [q])).Nodup:=by
  rw [e1] at sj
  have:=(fN.mp sj).1
  simpa using this
 have bl:1≤BB.length:=tU.mpr hB
 have tie:∀x∈p::(BB++ [q]),af (p::(BB++ [q])) x∈row w x:=λx hx=>by
  have hx:x∈p::BB∨x=q:=by simpa [or_assoc] using hx
  rcases hx with hx|rfl
  ·have:=lI (a:=p::BB) (z:=q) (b:=CC++P) (by rw [←e1];exact sj) hx
   rw [←e1] at this;rw [show p::(BB++ [q])=(p::BB)++ [q] by simp,←this]
   exact g.sym _ _ (D1.ring x (by rw [e1];exact fL _ (fL _ hx))).1
  ·rw [cV JK]
   exact g.sym _ _ (D.dart _ hw.1)
 obtain ⟨S,bd⟩:=B.ring g JK (by simp;omega) tie
 by_cases c:S (af (p::(BB++q::(CC++P))) p,p)
 ·exact ⟨S,parted g D1 rfl hB hC hw.1 bd c⟩
 ·exact ⟨λd=>¬S d,parted g D1 rfl hB hC hw.1 bd.neg c⟩
variable {v m:Nat} {y:Nat→Nat}
def Bl(v:Nat)(y:Nat→Nat)(k:Nat)(d:Nat×Nat):Prop:=d=(y k,v)∨d=(v,y (k+1))∨d=(y (k+1),y k)
theorem Bl.cnt(g:Good w)(D:Disc w R A)(F:At w R v m y){k:Nat}(hk:k<m):num (Bl v y k) (b7 w)=3:=by
 have nd:=gv g;have a:=F.BV g D k hk;have b:=(F.Cd g D hk).2.2;have n0:=F.ne g (k:=k) (by omega)
 have n1:=F.ne g (k:=k+1) (by omega)
 have e:num (Bl v y k) (b7 w)=num (λd=>d=(y k,v)∨(d=(v,y (k+1))∨d=(y (k+1),y k))) (b7 w):=rfl;rw [e,fQ (P:=λd=>d=(y k,v)) (Q:=λd=>d=(v,y (k+1))∨d=(y (k+1),y k)),fQ (P:=λd=>d=(v,y (k+1))) (Q:=λd=>d=(y (k+1),y k)),ni nd (cL.mpr (D.dart _ a.1)),ni nd (cL.mpr (D.dart _ a.2)),ni nd (cL.mpr (D.dart _ b))]
 ·rintro x _ rfl h
  exact n1 (Prod.mk.inj h).1.symm
 ·rintro x _ rfl (h|h)
  ·exact n0 (Prod.mk.inj h).1
  ·exact n0 (Prod.mk.inj h).2.symm
theorem cx.cnt(g:Good w)(D:Disc w R A)(F:At w R v m y):∀j,j≤m→num (cx v j y) (b7 w)=3*j
 |0,_=>kq λx _ ⟨k,hk,_⟩=>by omega
 |j+1,hj=>by
  have e:num (cx v (j+1) y) (b7 w)=num (λd=>cx v j y d∨Bl v y j d) (b7 w):=bX λd _=>by
   constructor
   ·rintro ⟨k,hk,h⟩
    by_cases c:k=j
    ·subst c;exact .inr h
    ·exact .inl ⟨k,by omega,h⟩
   ·rintro (⟨k,hk,h⟩ |h)
    ·exact ⟨k,by omega,h⟩
    ·exact ⟨j,by omega,h⟩
  have inj:=F.fan.inj;rw [e,fQ,cx.cnt g D F j (by omega),Bl.cnt g D F (by omega)]
  ·omega
  ·rintro x _ ⟨k,hk,h⟩ h'
   have ne:∀i,i≤m→y i≠v:=λi hi=>F.ne g hi
   rcases h with rfl|rfl|rfl<;>rcases h' with h'|h'|h'
   ·have:=inj _ _ (by omega) (by omega) (Prod.mk.inj h').1;omega
   ·exact ne k (by omega) (Prod.mk.inj h').1
   ·exact ne j (by omega) (Prod.mk.inj h').2.symm
   ·exact ne j (by omega) (Prod.mk.inj h').1.symm
   ·have:=inj _ _ (by omega) (by omega) (Prod.mk.inj h').2;omega
   ·exact ne (j+1) (by omega) (Prod.mk.inj h').1.symm
   ·exact ne k (by omega) (Prod.mk.inj h').2
   ·exact ne (k+1) (by omega) (Prod.mk.inj h').1
   ·have:=inj _ _ (by omega) (by omega) (Prod.mk.inj h').2;omega
theorem HE(g:Good w)(D:Disc w R A)(F:At w R v 1 y)(hR:R= [y 0,y 1,v])(d:Nat×Nat)(h:A d):cx v 1 y d:=by
 apply Classical.byContradiction;intro hn;have nd:=D.nd;have s0:af R (y 0)=y 1:=by rw [hR];exact bY (a:= []) (by rw [hR] at nd;exact nd)
 have s1:af R (y 1)=v:=F.pv;have s2:af R v=y 0:=F.nx.symm;have m0:y 0∈R:=by rw [hR];simp
 have m1:y 1∈R:=by rw [hR];simp
 have m2:v∈R:=F.vm;have mR:∀p∈R,p=y 0∨p=y 1∨p=v:=λp hp=>by rw [hR] at hp;simpa using hp
 have t0:cx v 1 y (y 0,v):=⟨0,by omega, .inl rfl⟩
 have t1:cx v 1 y (v,y 1):=⟨0,by omega, .inr (.inl rfl)⟩
 have t2:cx v 1 y (y 1,y 0):=⟨0,by omega, .inr (.inr rfl)⟩
 have tr:∀p q,cx v 1 y (p,q)→q∈R∧p=af R q:=by
  rintro p q ⟨k,hk,h⟩
  have:k=0:=by omega
  subst this
  rcases h with h|h|h<;>obtain ⟨rfl,rfl⟩:=Prod.mk.inj h
  ·exact ⟨m2,s2.symm⟩
  ·exact ⟨m1,s1.symm⟩
  ·exact ⟨m0,s0.symm⟩
 have rev:∀p q,A (p,q)→¬cx v 1 y (p,q)→A (q,p)∧¬cx v 1 y (q,p):=λp q a n=>by
  have n1:¬(p∈R∧q=af R p):=λz=>(D.ring p z.1).2.2 (by rw [←z.2];exact a)
  have n2:¬(q∈R∧p=af R q):=by
   rintro ⟨hq,rfl⟩
   rcases mR q hq with rfl|rfl|rfl
   ·rw [s0] at n;exact n t2
   ·rw [s1] at n;exact n t1
   ·rw [s2] at n;exact n t0
  refine ⟨(D.sym p q (D.dart _ a) n1 n2).mp a,λt=>?_⟩;exact n1 (tr _ _ t)
 have all:∀p q,A (p,q)→¬cx v 1 y (p,q)→∀r∈row w p,A (p,r)∧¬cx v 1 y (p,r):=λp q a n=>by
  refine Ct (g.nod p) (P:=λr=>A (p,r)∧¬cx v 1 y (p,r)) (λx hx z=>?_) (D.dart _ a) ⟨a,n⟩;obtain ⟨z1,z2⟩:=rev p x z.1 z.2;have hd:aQ w (x,p):=g.sym _ _ hx;exact ⟨(D.face _ hd).mp z1,λt=>z2 ((F.N3 g D hd).mpr t)⟩
 obtain ⟨p,q⟩:=d
 have go:∀r,Reach w p r→∀s∈row w r,A (r,s)∧¬cx v 1 y (r,s):=by
  intro r hr
  induction hr with
  |refl=>exact all p q h hn
  | @step b c _ hc ih=>
   obtain ⟨a,n⟩:=ih c hc;obtain ⟨a',n'⟩:=rev _ _ a n;exact all c b a' n'
 have hp:p<w.length:=bI (D.dart _ h);have hv:v<w.length:=bI (F.fan.mem 0 (by omega))
 have hr:Reach w p v:=((g.con p hp).symm g.sym).trans (g.con v hv);exact (go v hr (y 1) (F.fan.mem 1 (by omega))).2 t1
theorem uN(w:W)(A S:Nat×Nat→Prop):cnt w A=cnt w (λd=>A d∧S d)+cnt w (λd=>A d∧¬S d):=by
 rw [mP,mP,mP,←fQ (λx _ h h'=>h'.2 h.2)];refine bX λx _=>?_
 by_cases c:S x
 ·exact ⟨λa=> .inl ⟨a,c⟩,λz=>z.elim (·.1) (·.1)⟩
 ·exact ⟨λa=> .inr ⟨a,c⟩,λz=>z.elim (·.1) (·.1)⟩
theorem OU(g:Good w)(B:oF w):∀(n:Nat){R:List Nat}{A:Nat×Nat→Prop},Disc w R A→cnt w A≤n→cnt w A+6=6*m9 w R A+3*R.length:=by
 intro n
 induction n with
 |zero=>
  intro R A D hn;obtain ⟨p,hp⟩:∃p,p∈R:=⟨R.getD 0 0,az (by have:=D.len;omega)⟩
  have a:=(D.ring p hp).2.1
  have:=nX (w:=w) (A:=A) (A':=λ_=>False) (λ_ z=>z.elim) (D.dart _ a) a id
  omega
 |succ n ih=>
  intro R A D hn;have len:=D.len
  by_cases c:∃i,i<R.length-1∧R.getD (R.length-1) 0∈withinL w R i
  ·obtain ⟨i,hi,hc⟩:=c
   obtain ⟨S,E1,E2⟩:=zi g B D hi (by omega) hc
   have sp:=uN w A S;have x1:=ih E1;have x2:=ih E2
   have p1:0<cnt w (λd=>A d∧S d):=by
    obtain ⟨p,hp⟩:∃p,p∈(R.take (R.length-1+1)).drop i:=⟨_,az (i:=0) (by have:=E1.len;omega)⟩
    have a:=(E1.ring p hp).2.1
    have:=nX (w:=w) (A:=λd=>A d∧S d) (A':=λ_=>False) (λ_ z=>z.elim) (E1.dart _ a) a id
    omega
   have p2:0<cnt w (λd=>A d∧¬S d):=by
    obtain ⟨p,hp⟩:∃p,p∈R.drop (R.length-1)++R.take (i+1):=⟨_,az (i:=0) (by have:=E2.len;omega)⟩
    have a:=(E2.ring p hp).2.1
    have:=nX (w:=w) (A:=λd=>A d∧¬S d) (A':=λ_=>False) (λ_ z=>z.elim) (E2.dart _ a) a id
    omega
   have x1:=x1 (by omega)
   have x2:=x2 (by omega)
   have V9:∀p,p∈(R.take (R.length-1+1)).drop i→p∈R:=λp h=>wo (List.mem_of_mem_drop h);have Wa:∀p,p∈R.drop (R.length-1)++R.take (i+1)→p∈R:=λp h=>(dh.mp h).elim List.mem_of_mem_drop wo
   have cov:∀p,p∈R→p∈(R.take (R.length-1+1)).drop i∨p∈R.drop (R.length-1)++R.take (i+1):=λp h=>by
    rw [show R.length-1+1=R.length by omega,List.take_length]
    rw [←iq i R] at h
    rcases dh.mp h with h|h
    ·refine .inr (cG _ ?_)
     rw [List.take_add_one];exact fL _ h
    ·exact .inl h
   have key:m9 w R A=m9 w ((R.take (R.length-1+1)).drop i) (λd=>A d∧S d)+m9 w (R.drop (R.length-1)++R.take (i+1)) (λd=>A d∧¬S d):=by
    unfold m9;rw [←fQ]
    ·refine bX λp _=>?_
     constructor
     ·rintro ⟨hp,q,a⟩
      by_cases s:S (p,q)
      ·exact .inl ⟨λz=>hp (V9 p z),q,a,s⟩
      ·exact .inr ⟨λz=>hp (Wa p z),q,a,s⟩
     ·rintro (⟨hp,q,a,s⟩ | ⟨hp,q,a,s⟩)
      ·refine ⟨λz=>?_,q,a⟩
       rcases cov p z with z|z
       ·exact hp z
       ·
        have cl:=E1.closed g hp ⟨a,s⟩;obtain ⟨b,hb,eb⟩:=qW E2.nd z;have r:=(E2.ring b hb);rw [eb] at r
        have:=cl b r.1
        exact r.2.1.2 this.2
      ·refine ⟨λz=>?_,q,a⟩
       rcases cov p z with z|z
       ·have cl:=E2.closed g hp ⟨a,s⟩
        obtain ⟨b,hb,eb⟩:=qW E1.nd z;have r:=(E1.ring b hb);rw [eb] at r
        have:=cl b r.1
        exact this.2 r.2.1.2
       ·exact hp z
    ·rintro p _ ⟨hp,q,a,s⟩ ⟨_,q',a',s'⟩
     exact s' (E1.closed g hp ⟨a,s⟩ q' (D.dart _ a')).2
   rw [dY,b8] at x1;rw [cy,dY,b8] at x2;omega
  ·have no:∀i,i<R.length-1→R.getD (R.length-1) 0∉withinL w R i:=λi hi h=>c ⟨i,hi,h⟩
   have hl:R.length-1<R.length:=by omega
   obtain ⟨m,y,F,e0,em,ew⟩:=jK g D hl;have pos:=F.at_.fan.pos;have bN:=F.lt;rw [show R.length-1+1=R.length by omega,qj] at e0
   have ep:bD R (R.length-1)=R.length-2:=by unfold bD;rw [if_neg (by omega)];omega
   rw [ep] at em;have sp:=uy (R:=R) (i:=R.length-2) (j:=R.length-1) (by omega) hl
   rw [show R.length-1-(R.length-2)-1=0 by omega,show R.length-1+1=R.length by omega,List.drop_length,sX,kJ,←em] at sp
   have pl:(R.take (R.length-2)).length=R.length-2:=by rw [b8];omega
   have p0:(R.take (R.length-2)).getD 0 0=y 0:=by
    rw [e0,aL,pk (by omega),←aL]
   have w9:∀k,0<k→k<m→y k∉R:=λk h1 h2 hR=>by
    obtain ⟨i,hi,ei⟩:=fM.mp hR;have IG:R.getD i 0=y k:=by rw [←ei,aL,bz hi];rfl
    have hm:y k∈withinL w R (R.length-1):=by rw [ew];exact fW.mpr ⟨k,h1,h2,rfl⟩
    rw [←IG] at hm;have hs:=fZ g D hl hi hm
    have ne:i≠R.length-1:=by
     intro z;refine F.at_.ne g (k:=k) (by omega) ?_
     rw [←IG,z]
    exact no i (by omega) hs
   generalize hv:R.getD (R.length-1) 0=v at F sp;have tc:=cx.cnt g D F.at_ m (bC _);have sc:=uN w A (cx v m y)
   have st:cnt w (λd=>A d∧cx v m y d)=3*m:=by
    rw [mP,←tc];exact bX λd _=>⟨λz=>z.2,λz=>⟨F.at_.Wt g D z,z⟩⟩
   by_cases c3:3≤(R.take (R.length-2)).length+m
   ·have E:=vt g D F.at_ sp p0 (λe=>by rw [e] at pl;simp at pl;omega) w9 c3
    have x:=ih E (by omega)
    have ndy:((List.range (m-1)).map λk=>y (k+1)).Nodup:=by
     rw [CY,jM];refine List.Pairwise.imp_of_mem ?_ List.pairwise_lt_range;intro a b ha hb zC e;have ha:=cE.mp ha;have hb:=cE.mp hb
     have:=F.at_.fan.inj _ _ (by omega) (by omega) e
     omega
    have key:m9 w R A=m9 w (cT (R.take (R.length-2)) m y) (λd=>A d∧¬cx v m y d)+(m-1):=by
     have e1:num (λp=>p∈(List.range (m-1)).map λk=>y (k+1)) (List.range w.length)=m-1:=by
      rw [jd ndy pC,aI,iu];intro p hp;obtain ⟨k,hk,rfl⟩:=bK.mp hp;have hk:=cE.mp hk;exact cE.mpr (g.rng _ _ (F.at_.fan.mem (k+1) (by omega)))
     unfold m9;rw [←e1,←fQ]
     ·refine bX λp _=>?_
      have Co:∀q∈R.take (R.length-2),q∈R:=λq h=>wo h;have vR:v∈R:=F.at_.vm;have y0R:y 0∈R:=by rw [F.at_.nx];exact bf vR
      constructor
      ·rintro ⟨hp,q,a⟩
       by_cases z:p∈cT (R.take (R.length-2)) m y
       ·rcases eo.mp z with z| ⟨k,h1,h2,rfl⟩
        ·exact absurd (Co p z) hp
        ·by_cases km:k=m
         ·exact absurd (km▸F.at_.pm) hp
         ·exact .inr (fW.mpr ⟨k,by omega,by omega,rfl⟩)
       ·refine .inl ⟨z,q,a,?_⟩
        rintro ⟨k,hk,h|h|h⟩
        ·have e:=(Prod.mk.inj h).1
         by_cases k0:k=0
         ·rw [k0] at e;exact hp (e▸y0R)
         ·exact z (eo.mpr (.inr ⟨k,by omega,by omega,e⟩))
        ·exact hp ((Prod.mk.inj h).1▸vR)
        ·exact z (eo.mpr (.inr ⟨k+1,by omega,by omega,(Prod.mk.inj h).1⟩))
      ·rintro (⟨hp,q,a,nt⟩ |h)
       ·refine ⟨λz=>?_,q,a⟩
        rw [sp] at z
        rcases dh.mp z with z|z
        ·exact hp (eo.mpr (.inl z))
        ·have z:p=y m∨p=v:=by simpa using z
         rcases z with rfl|rfl
         ·exact hp (eo.mpr (.inr ⟨m,by omega,by omega,rfl⟩))
         ·obtain ⟨k,k1,k2,rfl⟩:=Whole.between g D F a
          exact nt ⟨k-1,by omega, .inr (.inl (by rw [show k-1+1=k by omega]))⟩
       ·obtain ⟨k,k1,k2,rfl⟩:=fW.mp h
        exact ⟨w9 k k1 k2,_,(F.at_.BV g D k k2).1⟩
     ·rintro p _ ⟨hp,_⟩ h
      obtain ⟨k,k1,k2,rfl⟩:=fW.mp h;exact hp (eo.mpr (.inr ⟨k,by omega,by omega,rfl⟩))
    rw [g5,pl] at x;omega
   ·have hm:m=1:=by omega
    have hr:R.length=3:=by omega
    subst hm
    have hR:R= [y 0,y 1,v]:=by
     have h1:R.take (R.length-2)= [y 0]:=by
      rw [hr] at pl p0 ⊢
      match R.take (3-2),pl,p0 with
      | [a],_,h=>rw [show a=y 0 from h]
     rw [h1] at sp;simpa using sp
    have only:=HE g D F.at_ hR
    have z0:m9 w R A=0:=by
     refine kq ?_;rintro p _ ⟨hp,q,a⟩;obtain ⟨k,hk,h⟩:=only _ a
     have:k=0:=by omega
     subst this;rw [hR] at hp
     rcases h with h|h|h<;>obtain ⟨rfl,_⟩:=Prod.mk.inj h<;>simp at hp
    have c0:cnt w (λd=>A d∧¬cx v 1 y d)=0:=kq λd _ z=>z.2 (only d z.1);omega
end
section
variable {w:W} {R:List Nat} {A:Nat×Nat→Prop}
theorem Disc.swap(D:Disc w R A){p q:Nat}(h:A (p,q))(n:p∉R∨q∉R):A (q,p):=by
 refine (D.sym p q (D.dart _ h) (λz=>?_) (λz=>?_)).mp h
 ·rcases n with n|n
  ·exact n z.1
  ·exact n (by rw [z.2];exact bf z.1)
 ·rcases n with n|n
  ·exact n (by rw [z.2];exact bf z.1)
  ·exact n z.1
theorem inn_start(g:Good w)(D:Disc w R A){i z:Nat}(hi:i<R.length)(h:z∈withinL w R i)(hz:z∉R):kO R A z:=
 ⟨hz,_,D.swap ((cn g D hi).mp h).1 (.inr hz)⟩
theorem GO(g:Good w)(D:Disc w R A){p q:Nat}(h:kO R A p)(hq:q∈row w p)(hz:q∉R):kO R A q:=by
 obtain ⟨h1,r,h2⟩:=h;exact ⟨hz,_,D.swap (D.closed g h1 h2 q hq) (.inl h1)⟩
theorem Dw(g:Good w)(D:Disc w R A){M:Nat→Prop}(c1:∀i z,i<R.length→z∈withinL w R i→z∉R→M z)(c2:∀p q,M p→q∈row w p→q∉R→M q){p:Nat}(h:kO R A p):M p:=by
 apply Classical.byContradiction;intro nm
 have step:∀p q,(kO R A p∧¬M p)→q∈row w p→(kO R A q∧¬M q):=λp q ⟨hp,np⟩ hq=>by
  obtain ⟨h1,r,h2⟩:=hp;have a:=D.closed g h1 h2 q hq;have a':=D.swap a (.inl h1)
  by_cases c:q∈R
  ·exfalso
   have lt:=fq.mpr c;have e:R.getD (R.idxOf q) 0=q:=by rw [aL,bz lt,gK lt];rfl
   refine np (c1 (R.idxOf q) p lt ((cn g D lt).mpr ⟨by rw [e];exact a',λz=>h1 ?_⟩) h1)
   rw [z];exact az (eM lt)
  ·exact ⟨⟨c,p,a'⟩,λmq=>np (c2 q p mq (g.sym _ _ hq) h1)⟩
 have bN:p<w.length:=by obtain ⟨_,q,a⟩:=h;exact bI (D.dart _ a)
 have all:∀{a b},Reach w a b→(kO R A b∧¬M b)→(kO R A a∧¬M a):=λ {a b} r=>by
  induction r with
  |refl=>exact id
  |step _ hr ih=>exact λhb=>ih (step _ _ hb (g.sym _ _ hr))
 have z0:=all (g.con p bN) ⟨h,nm⟩;have fwd:∀q,q<w.length→(kO R A q∧¬M q):=tj g z0 step;have hr:R.getD 0 0∈R:=az (by have:=D.len;omega)
 exact (fwd _ (bI (g.sym _ _ (D.ring _ hr).1))).1.1 hr
theorem uu(g:Good w)(D:Disc w R A){p:Nat}(h:kO R A p):p<w.length:=by obtain ⟨_,q,a⟩:=h;exact bI (D.dart _ a)
theorem kd{R:List Nat}{k i:Nat}(hk:k<R.length)(hi:i<R.length):(R.drop k++R.take k).getD i 0=R.getD ((i+k)%R.length) 0:=by
 by_cases c:i+k<R.length
 ·rw [aL,eI (by rw [dY];omega),pz,fu c,aL,Nat.add_comm]
 ·rw [aL,f7 (by rw [dY];omega),dY,pk (by omega),Bb (by omega),fu (by omega),aL]
  congr 2
  omega
theorem kC(R:List Nat)(k:Nat):(R.drop k++R.take k).length=R.length:=by
 rw [cy,dY,b8];omega
theorem nP(w:W){R:List Nat}{k i:Nat}(hk:k<R.length)(hi:i<R.length):withinL w (R.drop k++R.take k) i=withinL w R ((i+k)%R.length):=by
 have e1:(R.drop k++R.take k).getD ((i+1)%(R.drop k++R.take k).length) 0=R.getD (((i+k)%R.length+1)%R.length) 0:=by
  rw [kC,kd hk (jR _ (by omega)),Nat.mod_add_mod,Nat.mod_add_mod]
  congr 2;omega
 have e2:(R.drop k++R.take k).getD (bD (R.drop k++R.take k) i) 0=R.getD (bD R ((i+k)%R.length)) 0:=by
  have hp:bD (R.drop k++R.take k) i<R.length:=by
   have:=eM (R:=R.drop k++R.take k) (i:=i) (by rw [kC];exact hi)
   rw [kC] at this;exact this
  rw [kd hk hp]
  congr 1
  unfold bD;rw [kC]
  by_cases c:i=0
  ·subst c
   rw [if_pos rfl,mz,fu hk]
   by_cases d:k=0
   ·rw [if_pos d,d,Nat.add_zero,fu (by omega)]
   ·rw [if_neg d,Bb (by omega),fu (by omega)];omega
  ·rw [if_neg c]
   by_cases d:i+k<R.length
   ·rw [fu d,if_neg (by omega),fu (by omega)];omega
   ·rw [Bb (a:=i+k) (by omega),fu (a:=i+k-R.length) (by omega)]
    by_cases z:i+k-R.length=0
    ·rw [if_pos z,fu (by omega)];omega
    ·rw [if_neg z,Bb (by omega),fu (by omega)];omega
 unfold withinL;rw [e1,e2,kd hk hi]
end
theorem Ha{α:Type}{P:α→Prop}{l m:List α}(h:l.Perm m):num P l=num P m:=(h.filter _).length_eq
theorem Cb{α β:Type}{P:β→Prop}(f:α→β):∀l:List α,num P (l.map f)=num (λx=>P (f x)) l
 | []=>rfl
 |a::l=>by
  have ih:=Cb (P:=P) f l
  by_cases c:P (f a)
  ·rw [gL,(bO P _ _).1 c,(bO (λx=>P (f x)) a l).1 c,ih]
  ·rw [gL,(bO P _ _).2 c,(bO (λx=>P (f x)) a l).2 c,ih]
def sw(d:Nat×Nat):Nat×Nat:=(d.2,d.1)
theorem KJ(d:Nat×Nat):sw (sw d)=d:=rfl
theorem F5{a b:Nat×Nat}(h:sw a=sw b):a=b:=by rw [←KJ a,h,KJ]
theorem cC{α β:Type}{f:α→β}{l:List α}(nd:l.Nodup)(inj:∀a∈l,∀b∈l,f a=f b→a=b):(l.map f).Nodup:=by
 rw [CY,jM];exact (CY.mp nd).imp_of_mem λ {a b} ha hb zC e=>zC (inj a ha b hb e)
section
variable {w:W} {R:List Nat} {A:Nat×Nat→Prop}
theorem Gm(g:Good w):((b7 w).map sw).Perm (b7 w):=by
 refine (Ga (cC (gv g) λa _ b _ h=>F5 h) (gv g)).mpr λd=>?_;rw [bK]
 constructor
 ·rintro ⟨e,he,rfl⟩
  exact cL.mpr (g.sym _ _ (cL.mp he))
 ·intro h
  exact ⟨sw d,cL.mpr (g.sym _ _ (cL.mp h)),rfl⟩
theorem L9(g:Good w)(P:Nat×Nat→Prop):num (λd=>P (sw d)) (b7 w)=num P (b7 w):=by
 rw [←Cb,Ha (Gm g)]
def WD(w:W)(R:List Nat)(d:Nat×Nat):Prop:=∃i,i<R.length∧d.1=R.getD i 0∧d.2∈withinL w R i
theorem pj(g:Good w)(D:Disc w R A){i:Nat}(hi:i<R.length):(withinL w R i).Nodup:=by
 obtain ⟨m,y,F,_,_,ew⟩:=jK g D hi;rw [ew];have hl:=F.lt;refine cC pC λa ha b hb e=>?_;rw [cE] at ha hb
 have:=F.inj (a+1) (b+1) (by omega) (by omega) e
 omega
theorem WD.a(g:Good w)(D:Disc w R A){d:Nat×Nat}(h:WD w R d):A d:=by
 obtain ⟨i,hi,e,h⟩:=h
 have:=((cn g D hi).mp h).1
 rw [←e] at this;exact this
theorem jE{α β:Type}{f:α→List β}:∀{l:List α},l.Nodup→(∀a∈l,(f a).Nodup)→(∀a∈l,∀b∈l,∀x,x∈f a→x∈f b→a=b)→(l.flatMap f).Nodup
 | [],_,_,_=>mw
 |a::l,nd,h1,h2=>by
  obtain ⟨n1,n2⟩:=gS.mp nd;rw [jN,fN];refine ⟨h1 a (cD ..),jE n2 (λb hb=>h1 b (cM _ hb)) (λb hb c hc=>h2 b (cM _ hb) c (cM _ hc)),λx hx y hy e=>?_⟩;obtain ⟨b,hb,hy⟩:=pE.mp hy;subst e
  have:=h2 a (cD ..) b (cM _ hb) x hx hy
  exact n1 (by rw [this];exact hb)
def uU(w:W)(R:List Nat):List (Nat×Nat):=(List.range R.length).flatMap λi=>(withinL w R i).map λz=>(R.getD i 0,z)
theorem Ds(w:W)(R:List Nat):(uU w R).length=((List.range R.length).map λi=>(withinL w R i).length).sum:=by
 unfold uU;rw [List.length_flatMap]
 congr 1
 refine Ba λi _=>by simp
theorem Gv(g:Good w)(D:Disc w R A):((List.range R.length).map λi=>(withinL w R i).length).sum=num (WD w R) (b7 w):=by
 rw [←Ds]
 have nd:(uU w R).Nodup:=by
  refine jE pC (λi hi=>?_) λi hi j hj x hx hy=>?_
  ·exact cC (pj g D (cE.mp hi)) λa _ b _ e=>(Prod.mk.inj e).2
  ·obtain ⟨_,_,rfl⟩:=bK.mp hx
   obtain ⟨_,_,e⟩:=bK.mp hy;exact (getD_inj D.nd (cE.mp hj) (cE.mp hi) (Prod.mk.inj e).1).symm
 have mem:∀d,d∈uU w R↔WD w R d:=λd=>by
  unfold uU WD;rw [pE]
  constructor
  ·rintro ⟨i,hi,h⟩
   obtain ⟨z,hz,rfl⟩:=bK.mp h;exact ⟨i,cE.mp hi,rfl,hz⟩
  ·rintro ⟨i,hi,e,h⟩
   exact ⟨i,cE.mpr hi,bK.mpr ⟨d.2,h,by rw [←e]⟩⟩
 rw [←jd nd (gv g) λd hd=>cL.mpr (D.dart _ (((mem d).mp hd).a g D))];exact bX λd _=>mem d
theorem Ii(g:Good w)(B:oF w)(D:Disc w R A){L:List Nat}{cs ts:List (Nat×Nat)}(nL:L.Nodup)(hL:∀p,p∈L↔kO R A p)(nc:cs.Nodup)(hc:∀i j,(i,j)∈cs↔i<j∧j<R.length∧R.getD j 0∈withinL w R i)
  (nt:ts.Nodup) (ht:∀p q,(p,q)∈ts↔p<q∧q∈row w p∧p∈L∧q∈L):
  ((List.range R.length).map λi=>(withinL w R i).length).sum+ts.length+3=cs.length+3*L.length+R.length:=by
 have ee:=OU g B _ D (bC _);have nd:=gv g;rw [Gv g D]
 have r1:num (λd=>d.2∈R∧d.1=af R d.2) (b7 w)=R.length:=by
  rw [←aI (f:=λp=>(af R p,p)),←jd (cC D.nd λa _ b _ e=>(Prod.mk.inj e).2) nd λd hd=>by
   obtain ⟨p,hp,rfl⟩:=bK.mp hd;exact cL.mpr (D.ring p hp).1]
  refine bX λd _=>?_;rw [bK]
  constructor
  ·rintro ⟨a,b⟩;exact ⟨d.2,a,by rw [←b]⟩
  ·rintro ⟨p,hp,rfl⟩;exact ⟨hp,rfl⟩
 have r2:num (λd=>WD w R d∧d.2∈R) (b7 w)=2*cs.length:=by
  have len:(cs.map (λt=>(R.getD t.1 0,R.getD t.2 0))++cs.map (λt=>(R.getD t.2 0,R.getD t.1 0))).length=2*cs.length:=by simp;omega
  have cl:∀t∈cs,t.1<t.2∧t.2<R.length:=λt ht=>let h:=(hc t.1 t.2).mp ht;⟨h.1,h.2.1⟩
  have nS:(cs.map (λt=>(R.getD t.1 0,R.getD t.2 0))++cs.map (λt=>(R.getD t.2 0,R.getD t.1 0))).Nodup:=by
   rw [fN];refine ⟨cC nc λa ha b hb e=>?_,cC nc λa ha b hb e=>?_,λx hx y hy e=>?_⟩
   ·have:=cl a ha;have:=cl b hb
    exact Prod.ext (getD_inj D.nd (by omega) (by omega) (Prod.mk.inj e).1) (getD_inj D.nd (by omega) (by omega) (Prod.mk.inj e).2)
   ·have:=cl a ha;have:=cl b hb
    exact Prod.ext (getD_inj D.nd (by omega) (by omega) (Prod.mk.inj e).2) (getD_inj D.nd (by omega) (by omega) (Prod.mk.inj e).1)
   ·obtain ⟨a,ha,rfl⟩:=bK.mp hx
    obtain ⟨b,hb,rfl⟩:=bK.mp hy
    have:=cl a ha;have:=cl b hb
    have:=getD_inj D.nd (i:=a.1) (j:=b.2) (by omega) (by omega) (Prod.mk.inj e).1
    have:=getD_inj D.nd (i:=a.2) (j:=b.1) (by omega) (by omega) (Prod.mk.inj e).2
    omega
  have mem:∀d,d∈(cs.map (λt=>(R.getD t.1 0,R.getD t.2 0))++cs.map (λt=>(R.getD t.2 0,R.getD t.1 0)))↔WD w R d∧d.2∈R:=λd=>by
   rw [dh,bK,bK]
   constructor
   ·rintro (⟨t,ht,rfl⟩ | ⟨t,ht,rfl⟩)
    ·have h:=(hc t.1 t.2).mp ht
     exact ⟨⟨t.1,by omega,rfl,h.2.2⟩,az h.2.1⟩
    ·have h:=(hc t.1 t.2).mp ht
     exact ⟨⟨t.2,h.2.1,rfl,fZ g D (by omega) h.2.1 h.2.2⟩,az (by omega)⟩
   ·rintro ⟨⟨i,hi,e,h⟩,hr⟩
    have lt:=fq.mpr hr;have ej:R.getD (R.idxOf d.2) 0=d.2:=by rw [aL,bz lt,gK lt];rfl
    rw [←ej] at h
    rcases Nat.lt_trichotomy i (R.idxOf d.2) with c|c|c
    ·exact .inl ⟨(i,R.idxOf d.2),(hc _ _).mpr ⟨c,lt,h⟩,Prod.ext e.symm ej⟩
    ·exfalso
     have a:=((cn g D hi).mp h).1;rw [←c] at a;exact g.irr _ (D.dart _ a)
    ·exact .inr ⟨(R.idxOf d.2,i),(hc _ _).mpr ⟨c,hi,fZ g D hi lt h⟩,Prod.ext e.symm ej⟩
  rw [←len,←jd nS nd λd hd=>cL.mpr (D.dart _ (((mem d).mp hd).1.a g D))];exact bX λd _=>(mem d).symm
 have r3:num (λd=>d.1∉R∧A d∧d.2∉R) (b7 w)=2*ts.length:=by
  have len:(ts++ts.map sw).length=2*ts.length:=by simp;omega
  have nS:(ts++ts.map sw).Nodup:=by
   rw [fN];refine ⟨nt,cC nt λa _ b _ e=>F5 e,λx hx y hy e=>?_⟩;obtain ⟨b,hb,rfl⟩:=bK.mp hy;have h1:=((ht x.1 x.2).mp hx).1;have h2:=((ht b.1 b.2).mp hb).1;rw [e] at h1;have h1:b.2<b.1:=h1;omega
  have mem:∀d,d∈ts++ts.map sw↔d.1∉R∧A d∧d.2∉R:=λd=>by
   have tie:∀p q,(p,q)∈ts→p∉R∧A (p,q)∧q∉R:=λp q h=>by
    obtain ⟨_,h2,h3,h4⟩:=(ht p q).mp h;obtain ⟨n1,r,a⟩:=(hL p).mp h3;exact ⟨n1,D.closed g n1 a q h2,((hL q).mp h4).1⟩
   rw [dh,bK]
   constructor
   ·rintro (h| ⟨t,h,rfl⟩)
    ·exact tie d.1 d.2 h
    ·obtain ⟨n1,a,n2⟩:=tie t.1 t.2 h
     exact ⟨n2,D.swap a (.inl n1),n1⟩
   ·rintro ⟨n1,a,n2⟩
    have a':A (d.1,d.2):=a;have i1:d.1∈L:=(hL _).mpr ⟨n1,d.2,a⟩;have i2:d.2∈L:=(hL _).mpr ⟨n2,d.1,D.swap a' (.inl n1)⟩;have hd:=D.dart _ a;have ne:d.1≠d.2:=λz=>g.irr d.1 (by have:d.2∈row w d.1:=hd;rw [←z] at this;exact this)
    rcases Nat.lt_or_gt_of_ne ne with c|c
    ·exact .inl ((ht d.1 d.2).mpr ⟨c,hd,i1,i2⟩)
    ·exact .inr ⟨sw d,(ht d.2 d.1).mpr ⟨c,g.sym _ _ hd,i2,i1⟩,rfl⟩
  rw [←len,←jd nS nd λd hd=>cL.mpr (D.dart _ ((mem d).mp hd).2.1)];exact bX λd _=>(mem d).symm
 have r4:num (λd=>d.1∉R∧A d∧d.2∈R) (b7 w)=num (λd=>WD w R d∧d.2∉R) (b7 w):=by
  rw [←L9 g];refine bX λd _=>?_;show (d.2∉R∧A (d.2,d.1)∧d.1∈R)↔_
  constructor
  ·rintro ⟨n1,a,hr⟩
   have lt:=fq.mpr hr;have ej:R.getD (R.idxOf d.1) 0=d.1:=by rw [aL,bz lt,gK lt];rfl
   refine ⟨⟨R.idxOf d.1,lt,ej.symm,(cn g D lt).mpr ⟨by rw [ej];exact D.swap a (.inl n1),λz=>n1 ?_⟩⟩,n1⟩
   rw [z];exact az (eM lt)
  ·rintro ⟨h,n1⟩
   have a:A (d.1,d.2):=h.a g D;obtain ⟨i,hi,e,_⟩:=h;exact ⟨n1,D.swap a (.inr n1),by rw [e];exact az hi⟩
 have w1:num (WD w R) (b7 w)=num (λd=>WD w R d∧d.2∈R) (b7 w)+num (λd=>WD w R d∧d.2∉R) (b7 w):=by
  rw [←fQ λd _ h1 h2=>h2.2 h1.2];refine bX λd _=>⟨λh=>?_,λh=>h.elim (·.1) (·.1)⟩
  by_cases c:d.2∈R
  ·exact .inl ⟨h,c⟩
  ·exact .inr ⟨h,c⟩
 have a1:cnt w A=num (λd=>d.2∈R∧d.1=af R d.2) (b7 w)+(num (WD w R) (b7 w)+(num (λd=>d.1∉R∧A d∧d.2∈R) (b7 w)+num (λd=>d.1∉R∧A d∧d.2∉R) (b7 w))):=by
  have wr:∀d,WD w R d→d.1∈R:=λd ⟨i,hi,e,_⟩=>by rw [e];exact az hi
  rw [mP,←fQ λd _ h1 h2=>h2.2.2 h1.2.2,←fQ (P:=WD w R) (Q:=λd=>(d.1∉R∧A d∧d.2∈R)∨(d.1∉R∧A d∧d.2∉R)) λd _ h1 h2=>h2.elim (λz=>z.1 (wr d h1)) λz=>z.1 (wr d h1),←fQ (P:=λd:Nat×Nat=>d.2∈R∧d.1=af R d.2) λd _ h1 h2=>?_]
  ·refine bX λd _=>⟨λa=>?_,λh=>?_⟩
   ·by_cases c:d.1∈R
    ·by_cases z:d.2∈R∧d.1=af R d.2
     ·exact .inl z
     ·right;left
      have lt:=fq.mpr c;have ej:R.getD (R.idxOf d.1) 0=d.1:=by rw [aL,bz lt,gK lt];rfl
      refine ⟨R.idxOf d.1,lt,ej.symm,(cn g D lt).mpr ⟨by rw [ej];exact a,λe=>z ?_⟩⟩
      refine ⟨by rw [e];exact az (eM lt),?_⟩
      rw [e,fY D.nd lt,ej]
    ·right;right
     by_cases z:d.2∈R
     ·exact .inl ⟨c,a,z⟩
     ·exact .inr ⟨c,a,z⟩
   ·rcases h with h|h|h|h
    ·have:=(D.ring d.2 h.1).2.1
     rw [←h.2] at this;exact this
    ·exact h.a g D
    ·exact h.2.1
    ·exact h.2.1
  ·rcases h2 with ⟨i,hi,e,hw⟩ |h2|h2
   ·have:=((cn g D hi).mp hw).2
    refine this (cZ D.nd h1.1 (az (eM hi)) ?_);rw [←h1.2,e,fY D.nd hi]
   ·exact h2.1 (by rw [h1.2];exact bf h1.1)
   ·exact h2.1 (by rw [h1.2];exact bf h1.1)
 have i1:m9 w R A=L.length:=by
  unfold m9;rw [←jd nL pC λp hp=>cE.mpr (uu g D ((hL p).mp hp))];exact bX λp _=>(hL p).symm
 omega
end
end Wb
namespace rK
open PySem L2 Wb
variable {P:Program} {w:World} {mg:Str→Option Value} {base:Heap} {Z:DC} (T:Txt Z mg)
theorem Jy{g:dR}{cI:hJ}{g1:dR}{cq:dE}{te:br}{α β γ:Type}(I:DN→Prop)(J:α→DN→Prop)(enc:α→D)(f:α→List β)(iD:β→D)(p:α→β→Bool)(k:α→β→γ)(mW:γ→D)(JI:∀y ρ,J y ρ→I ρ):∀(ys:List α)(aD:DN)(acc:List γ)(P:List D→Prop),
  (∀y∈ys,∀aD,I aD→∀(Y:DN→List D→Prop),(∀aW,J y aW→Y aW ((f y).map iD))→g (enc y) aD λaW=>cI aW (Y aW))→
  (∀y∈ys,∀b∈f y,∀aD,J y aD→∀(Y:DN→D→Prop)(Nn:DN→Prop),(∀aW,J y aW→p y b=true→Y aW (mW (k y b)))→(∀aW,J y aW→p y b=false→Nn aW)→g1 (iD b) aD λaW=>cq aW λc=>if c=true then te aW (Y aW) else Nn aW)→
  I aD→acc.length+(ys.flatMap λy=>((f y).filter (p y)).map (k y)).length≤sizeLine→(∀y∈ys,acc.length+(ys.flatMap λy=>((f y).filter (p y)).map (k y)).length+(f y).length≤sizeLine)→P ((acc++ys.flatMap λy=>((f y).filter (p y)).map (k y)).map mW)→ic g oU cI g1 cq te (ys.map enc) aD (acc.map mW) P
 | [],aD,acc,P,_,_,hI,_,_,h=>by
  show P (acc.map mW);simpa using h
 |y::ys,aD,acc,P,h1,h2,hI,hz,hy,h=>by
  have Y2:=hy y (cD ..);rw [jN,cy] at hz Y2;refine h1 y (cD ..) aD hI (λaW es=>lcW g1 cq te es aW (acc.map mW) λcN j7=>ic g oU cI g1 cq te (ys.map enc) cN j7 P) λaW Yn=>?_;refine qJ (J y) iD (p y) (λb=>mW (k y b)) (f y) aW (acc.map mW) _ (λb hb cN Pb Y Nn hY hN=>?_) Yn (by rw [aI];omega) λcN Pb=>?_
  ·exact h2 y (cD ..) b hb cN Pb Y Nn hY hN
  ·have e:acc.map mW++((f y).filter (p y)).map (λb=>mW (k y b))=(acc++((f y).filter (p y)).map (k y)).map mW:=by rw [eJ,gd];rfl
   rw [e];refine Jy I J enc f iD p k mW JI ys cN (acc++((f y).filter (p y)).map (k y)) P (λz hz=>h1 z (cM _ hz)) (λz hz=>h2 z (cM _ hz)) (JI y cN Pb) (by rw [cy];omega) (λz hz=>?_) ?_
   ·have:=hy z (cM _ hz)
    rw [jN,cy] at this;rw [cy];omega
   ·rw [jN] at h
    rw [rF];exact h
def KD:dD:=λds P=>∃(w:W),ds= [.fo w]∧Good w∧w.length≤14∧∀ts:List (Nat×Nat),ts.Perm (gI (row w) w.length)→ts.Pairwise lexLe→P (.lst (ts.map pairD))
theorem z4:FnOk P w Z.K mg base di 1 T.m_ties.f T.m_ties.fd ["self"] (aT Z KD):=by
 have nd:=qZ.nd;refine bg T.m_ties.F qZ [0] (by decide) (λds R h=>by obtain ⟨_,rfl,_⟩:=h;rfl) (λbQ A outer s H E ds R hr h=>?_)
 have hu:=hr.units;refine ⟨_,(au (aM (ax rM rfl T.B.sorted i6 (ab (Ln (NC:= ["p","row","q"]) (src:= [none,none,none]) rfl (oH (ar jG)) trivial (h8 rfl T.B.enumerate (ab (BA T.W (aa 0)) ag)) (λ_ _ _=>(Fo 2 rfl (nY (bU 0 (show (["p","row","q"]:List Str).Nodup from by decide+kernel)) (nY (bU 1 (show (["p","row","q"]:List Str).Nodup from by decide+kernel)) BC)))) (λ_ _ _=>eC) (λ_ _ _=>(bZ (aa 1))) (λ_ _ _=>(bU 2 (show (["p","row","q"]:List Str).Nodup from by decide+kernel))) (λ_ _ _=>(i9 (aU vy (aa 0) (aa 2) (bH _)))) (λ_ _ _=>(fP (ab (aa 0) (ab (aa 2) ag))))) ag)))),?_⟩
 obtain ⟨w',rfl,g,bL,q⟩:=h
 have ee:gW (w'.map aq)=(List.range w'.length).map λ(j:Nat)=>D.tup [.int (j:Int),aq (row w' j)]:=by
  refine wu λj=>?_;rw [e7]
  by_cases lt:j<w'.length
  ·rw [wq lt]
   cases e:(gW (w'.map aq))[j]? with
   |none=>
    have:=List.getElem?_eq_none_iff.mp e
    rw [pM,aI] at this;omega
   |some d=>rw [(CQ e).2];rfl
  ·rw [mh (by rw [pM,aI];omega),mh (by rw [iu];omega)];rfl
 have tb:((List.range w'.length).flatMap λp=>((row w' p).filter λq=>decide (p<q)).map λq=>(p,q))=gI (row w') w'.length:=rfl
 have fl:∀n,n≤w'.length→(gI (row w') n).length≤n*14:=λn=>by
  induction n with
  |zero=>intro _;exact bC _
  |succ n ih=>
   intro h
   have:=ih (by omega)
   have h2:=dX g n;have h3:=y6 (λq=>decide (n<q)) (row w' n);unfold gI at this ⊢;rw [tY,wI,cy];simp only [jN,sV,jO,aI];omega
 have Lz:=fl w'.length (bC _);refine ⟨_,rfl,w',rfl,?_⟩;refine (?_:ic _ _ _ _ _ _ (gW (w'.map aq)) _ _ _);rw [ee];refine Jy (λρ=>∃o0 o1 o2,ρ= [o0,o1,o2]) (λp ρ=>∃o2,ρ= [some (ae p),some (aq (row w' p)),o2]) _ (λp=>row w' p) ae (λp q=>decide (p<q)) (λp q=>(p,q)) pairD (λy ρ ⟨o2,e⟩=>⟨_,_,_,e⟩) (List.range w'.length) _ [] _ (λp hp aD hI Y hY=>?_) (λp hp b hb aD hI Y Nn hY hN=>?_) ⟨none,none,none,rfl⟩ ?_ (λp hp=>?_) ?_
 ·obtain ⟨o0,o1,o2,rfl⟩:=hI
  exact ⟨rfl,rfl,_,rfl,hY _ ⟨_,rfl⟩⟩
 ·obtain ⟨o2,rfl⟩:=hI
  refine ⟨_,rfl,_,rfl,_,rfl,?_⟩;refine (?_:if decide ((p:Int)<(b:Int))=true then _ else _);rw [show decide ((p:Int)<(b:Int))=decide (p<b) from decide_eq_decide.mpr (by omega)]
  exact cB (λe=>⟨_,rfl,_,rfl,by show 2≤sizeLine;decide,hY _ ⟨_,rfl⟩ e⟩) (λe=>hN _ ⟨_,rfl⟩ e)
 ·rw [tb,jr,mz];exact small (by omega)
 ·have:=dX g p
  rw [tb,jr,mz];exact small (by omega)
 ·rw [tb,kJ]
  exact ⟨_,rfl,by omega,q⟩
theorem GQ{ms:List Int}{ns:List Nat}(pm:ms.Perm (ns.map λ(n:Nat)=>(n:Int)))(uh:ms.Pairwise (·≤·))(nd:ns.Nodup):∃L:List Nat,ms.map D.int=L.map ae∧L.Pairwise (·<·)∧L.Perm ns:=by
 have e:∀m∈ms,((m.toNat:Nat):Int)=m:=λm hm=>by
  obtain ⟨n,_,rfl⟩:=bK.mp (pm.mem_iff.mp hm);simp
 have pn:(ms.map Int.toNat).Perm ns:=by
  have:=pm.map Int.toNat
  rw [gd] at this;rw [show (Int.toNat∘λ(n:Nat)=>(n:Int))=id from by funext n;simp] at this
  simpa using this
 refine ⟨ms.map Int.toNat,?_,?_,pn⟩
 ·rw [gd]
  exact Ba λm hm=>by show D.int m=ae m.toNat;unfold ae;rw [e m hm]
 ·have ko:=pn.nodup_iff.mpr nd
  rw [CY,jM] at ko;rw [jM]
  exact (uh.and ko).imp λ {a b} ⟨h1,h2⟩=>by
   have:a.toNat≤b.toNat:=Int.toNat_le_toNat h1
   omega
theorem nO{w:W}{R:List Nat}{i:Nat}(g:Good w)(bL:w.length≤14)(Ti:hV w R)(hi:i<R.length):(withinL w R i).length≤14:=by
 rw [iP]
 have:=lD (Ti.next (i:=i) hi)
 have h2:=dX g (R.getD i 0);rw [b8];omega
def ER:dD:=λds P=>∃(w:W)(R:List Nat)(A:Nat×Nat→Prop),ds= [.fo w,aq R]∧Good w∧w.length≤14∧Disc w R A∧∀L:List Nat,L.Pairwise (·<·)→(∀p,p∈L↔kO R A p)→P (aq L)
theorem gD:FnOk P w Z.K mg base di 3 T.d_points_within.f T.d_points_within.fd ["web","ring"] (aT Z ER):=by
 have nd:=jI.nd;refine bg T.d_points_within.F jI [0,0,0,1,99,0] (by decide) (λds R h=>by obtain ⟨_,_,_,rfl,_⟩:=h;rfl) (λbQ A outer s H E ds R hr h=>?_)
 have hu:=hr.units
 refine ⟨_,(ah (aF false 2 nd (rO T.W (aa 0) T.m_turns.m (oY T) (hr.mono (by decide)) T.m_turns.b))
   (ah (Dk 3 (NC:= ["i","p","web","ring"]) (src:= [none,none,some 0,some 1]) rfl nd (oH (ar fE)) ⟨rfl,rfl,rfl,rfl,trivial⟩ (pI rfl T.B.range (ab (ax aP rfl T.B.len aO (ab (aa 1) ag)) ag)) (λ_ _ _=>(bU 0 (show (["i","p","web","ring"]:List Str).Nodup from by decide+kernel))) (λ_ _ _=>eC) (λ_ _ _=>(bZ (aB T.d_within_at ((fi T).imp Hr) hr (ab (aa 2) (ab (aa 3) (ab (aa 0) ag)))))) (λ_ _ _=>(bU 1 (show (["i","p","web","ring"]:List Str).Nodup from by decide+kernel))) (λ_ _ _=>eC) (λ_ _ _=>(aa 1)))
   (ah (IE 4 nd rfl T.x_set)
   (ah (rR PassesOwn.never (kS (aa 3)) (ah (Fq 5 3 nd)
   (au (cY (DW.dt (uq (aU x9 (aa 5) (aa 1) (by with_unfolding_all rfl)) (qv (aU Ep (aa 5) (aa 4) (by with_unfolding_all rfl))))) (ah (IC false 4 (aa 5))
   (au (Ls 3 (bF (aa 2) (aa 5))))) bJ))))
   (au (aM (ax (Gi rfl) rfl T.B.sorted i6 (ab (aa 4) ag)))))))),?_⟩
 obtain ⟨w',R',A',rfl,g,bL,D',q⟩:=h;have Ti:=D'.tP g;have Kj:=Ti.ug g;have lR:(R'.map ae).length=R'.length:=aI _;have wl:∀i,i<R'.length→(withinL w' R' i).length≤14:=λi hi=>nO g bL Ti hi;refine ⟨_,rfl,w',rfl,w',rfl,bL,trivial,?_⟩;refine ⟨_,rfl,⟨by omega,by show ((R'.map ae).length:Int)<2^62;omega⟩,?_⟩
 rw [show (((R'.map ae).length:Int)).toNat=R'.length by omega,p9]
 have fl:∀n,n≤R'.length→((List.range n).flatMap λi=>withinL w' R' i).length≤n*14:=λn=>by
  induction n with
  |zero=>intro _;simp
  |succ n ih=>
   intro h
   have:=ih (by omega)
   have:=wl n (by omega)
   rw [tY,wI,cy];simp only [jN,sV,jO];omega
 have Lz:=fl R'.length (bC _);refine B2 (λρ=>∃o0 o1,ρ= [o0,o1,some (.fo w'),some (aq R')]) ae (λi=>withinL w' R' i) ae (List.range R'.length) _ [] _ (λi hi aD hI Y hY=>?_) (λi hi b hb aD hI Y hY=>?_) ⟨none,none,rfl⟩ (by rw [jr,mz];exact small (by omega)) ?_
 ·obtain ⟨o0,o1,rfl⟩:=hI
  exact ⟨_,rfl,_,rfl,_,rfl,w',R',i,rfl,g,bL,Ti,cE.mp hi,hY _ ⟨_,_,rfl⟩⟩
 ·obtain ⟨o0,o1,rfl⟩:=hI
  exact ⟨_,rfl,hY _ ⟨_,_,rfl⟩⟩
 rw [kJ]
 have start:∀z,z∈((List.range R'.length).flatMap λi=>withinL w' R' i)↔∃i,i<R'.length∧z∈withinL w' R' i:=λz=>by
  rw [pE];exact ⟨λ⟨i,hi,h⟩=>⟨i,cE.mp hi,h⟩,λ⟨i,hi,h⟩=>⟨i,cE.mpr hi,h⟩⟩
 generalize ((List.range R'.length).flatMap λi=>withinL w' R' i)=K0 at start Lz
 refine qf (λm ρ=>∃(ws ms:List Nat)(o5:Option D),ρ= [some (.fo w'),some (aq R'),some (aN w'),some (.lst (ws.map ae)),some (.set (e9 w) (ms.map λ(n:Nat)=>(n:Int))),o5]∧ms.Nodup∧(∀p∈ms,kO R' A' p)∧(∀z∈ws,z∉R'→kO R' A' z)∧
  (∀z∈K0,z∉R'→z∈ms∨z∈ws)∧(∀p∈ms,∀q∈row w' p,q∉R'→q∈ms∨q∈ws)∧m=ws.length+20*(20-ms.length)∧ws.length≤200+20*ms.length) (K0.length+400) ?_ ?_
 ·exact ⟨K0,[],_,rfl,mw,(λp hp=>nomatch hp),λz hz n=>let ⟨i,hi,h⟩:=(start z).mp hz;inn_start g D' hi h n,λz hz _=> .inr hz,(λp hp=>nomatch hp),rfl,(by show K0.length≤200+0;omega)⟩
 rintro m _ ⟨ws,ms,o5,rfl,nm,hm,hw,c1,c2,em,hz⟩
 have ml:ms.length≤14:=by
  have:=aX (m:=List.range w'.length) nm λp hp=>cE.mpr (uu g D' (hm p hp))
  rw [iu] at this;omega
 refine ⟨_,rfl,rfl,?_⟩
 rcases List.eq_nil_or_concat ws with rfl| ⟨rB,p,e⟩
 ·refine dg ?_
  refine ⟨_,rfl,_,rfl,by rw [aI];omega,λks pm uh=>?_⟩
  obtain ⟨L,e1,e2,e3⟩:=GQ pm uh nm;rw [e1];refine q L e2 λp=>?_;rw [e3.mem_iff];refine ⟨hm p,λhp=>?_⟩;refine Dw g D' (M:=λx=>x∈ms) (λi z hi h n=>?_) (λp q hp hq n=>?_) hp
  ·rcases c1 z ((start z).mpr ⟨i,hi,h⟩) n with h|h
   ·exact h
   ·cases h
  ·rcases c2 p hp q hq n with h|h
   ·exact h
   ·cases h
 ·rw [A8] at e
  subst e;rw [show yo (.lst ((rB++ [p]).map ae))=true by simp [yo]]
  refine eY ?_;rw [cy] at em hz;simp only [wD] at em hz;refine ⟨rB.map ae,ae p,by rw [eJ];rfl,?_⟩
  have NK:∀x:Nat,decide ((x:Int)∈ms.map λ(n:Nat)=>(n:Int))=decide (x∈ms):=λx=>by
   refine decide_eq_decide.mpr ?_;rw [bK]
   exact ⟨λ⟨y,hy,e⟩=>by have:y=x:=by omega
                        rw [←this];exact hy,λh=>⟨x,h,rfl⟩⟩
  have keep:∀(F:DN→Prop),(p∈R'∨p∈ms)→(∀ρ,(∃(ws ms:List Nat)(o5:Option D),ρ= [some (.fo w'),some (aq R'),some (aN w'),some (.lst (ws.map ae)),some (.set (e9 w) (ms.map λ(n:Nat)=>(n:Int))),o5]∧ms.Nodup∧(∀p∈ms,kO R' A' p)∧(∀z∈ws,z∉R'→kO R' A' z)∧
    (∀z∈K0,z∉R'→z∈ms∨z∈ws)∧(∀p∈ms,∀q∈row w' p,q∉R'→q∈ms∨q∈ws)∧m-1=ws.length+20*(20-ms.length)∧ws.length≤200+20*ms.length)→F ρ)→
    F [some (.fo w'),some (aq R'),some (aN w'),some (.lst (rB.map ae)),some (.set (e9 w) (ms.map λ(n:Nat)=>(n:Int))),some (ae p)]:=λF hp hF=>by
   have drop:∀z,z∉R'→(z∈ms∨z∈rB++ [p])→(z∈ms∨z∈rB):=λz n h=>by
    rcases h with h|h
    ·exact .inl h
    ·rcases dh.mp h with h|h
     ·exact .inr h
     ·rw [gQ] at h
      subst h
      rcases hp with hp|hp
      ·exact absurd hp n
      ·exact .inl hp
   exact hF _ ⟨rB,ms,_,rfl,nm,hm,λz hz=>hw z (fL _ hz),λz hz n=>drop z n (c1 z hz n),λx hx y hy n=>drop y n (c2 x hx y hy n),by omega,by omega⟩
  refine ⟨_,rfl,_,rfl,rfl,bS _,_,rfl,?_⟩;refine (?_:if (if true=true then !inD (ae p) (R'.map ae) else _)=true then _ else _);rw [if_pos rfl,gx];refine cB (λnr=>?_) (λnr=>?_)
  ·have nr:p∉R':=by simpa using nr
   refine ⟨_,rfl,_,rfl,_,_,_,rfl,rfl,_,rfl,?_⟩;refine (?_:if (if true=true then !decide ((p:Int)∈ms.map λ(n:Nat)=>(n:Int)) else _)=true then _ else _);rw [if_pos rfl,NK];refine cB (λnq=>?_) (λnq=>?_)
   ·have nq:p∉ms:=by simpa using nq
    have ip:kO R' A' p:=hw p (by simp) nr
    have bN:=uu g D' ip;have rl:=dX g p;refine ⟨_,rfl,_,rfl,p,rfl,by rw [aI];omega,?_⟩
    refine ⟨_,rfl,_,rfl,_,rfl,_,ig bN,_,rfl,(by rw [aI,aI];exact small (by omega)),?_⟩
    have e1:xM (ms.map λ(n:Nat)=>(n:Int)) (p:Int)=(ms++ [p]).map λ(n:Nat)=>(n:Int):=by
     unfold xM;rw [if_neg (by have:=NK p;rw [decide_eq_false nq] at this;exact of_decide_eq_false this),eJ];rfl
    refine ⟨(rB++row w' p).length+20*(20-(ms++ [p]).length),by rw [cy,cy,wD];omega,rB++row w' p,ms++ [p],some (ae p),?_,?_,?_,?_,?_,?_,rfl,?_⟩
    ·rw [←e1,show (rB++row w' p).map ae=rB.map ae++(row w' p).map ae from eJ ..];rfl
    ·rw [fN]
     refine ⟨nm,by simp,λx hx y hy z=>nq ?_⟩
     rw [gQ] at hy;rw [←hy,←z];exact hx
    ·intro x hx
     rcases dh.mp hx with hx|hx
     ·exact hm x hx
     ·rw [gQ] at hx;rw [hx];exact ip
    ·intro z hz n
     rcases dh.mp hz with hz|hz
     ·exact hw z (fL _ hz) n
     ·exact GO g D' ip hz n
    ·intro z hz n
     rcases c1 z hz n with h|h
     ·exact .inl (fL _ h)
     ·rcases dh.mp h with h|h
      ·exact .inr (fL _ h)
      ·exact .inl (cG _ h)
    ·intro x hx y hy n
     rcases dh.mp hx with hx|hx
     ·rcases c2 x hx y hy n with h|h
      ·exact .inl (fL _ h)
      ·rcases dh.mp h with h|h
       ·exact .inr (fL _ h)
       ·exact .inl (cG _ h)
     ·rw [gQ] at hx
      subst hx;exact .inr (cG _ hy)
    ·rw [cy,cy,wD];omega
   ·have nq:p∈ms:=by simpa using nq
    exact keep _ (.inr nq) λρ h=>⟨m-1,by omega,h⟩
  ·have nr:p∈R':=by simpa using nr
   refine dg ?_;exact keep _ (.inl nr) λρ h=>⟨m-1,by omega,h⟩
def EN:dD:=λds P=>∃(w:W)(R:List Nat)(A:Nat×Nat→Prop),ds= [.fo w,aq R]∧Good w∧w.length≤14∧Disc w R A∧∀cs:List (Nat×Nat),cs.Nodup→cs.Pairwise lexLe→(∀i j,(i,j)∈cs↔i<j∧j<R.length∧R.getD j 0∈withinL w R i)→P (.lst (cs.map pairD))
theorem vE:FnOk P w Z.K mg base di 3 T.d_chords.f T.d_chords.fd ["web","ring"] (aT Z EN):=by
 have nd:=vS.nd;refine bg T.d_chords.F vS [0,0,0] (by decide) (λds R h=>by obtain ⟨_,_,_,rfl,_⟩:=h;rfl) (λbQ A outer s H E ds R hr h=>?_)
 have hu:=hr.units
 refine ⟨_,(ah (Dl 2 (NC:= ["i","p","ring","web"]) (src:= [none,none,some 1,some 0]) rfl nd (oH (ar kD)) ⟨rfl,rfl,rfl,rfl,trivial⟩ (pI rfl T.B.range (ab (ax aP rfl T.B.len aO (ab (aa 1) ag)) ag)) (λ_ _ _=>(bU 0 (show (["i","p","ring","web"]:List Str).Nodup from by decide+kernel))) (λ_ _ _=>eC) (λ_ _ _=>(bZ (aB T.d_within_at ((fi T).imp Hr) hr (ab (aa 3) (ab (aa 2) (ab (aa 0) ag)))))) (λ_ _ _=>(bU 1 (show (["i","p","ring","web"]:List Str).Nodup from by decide+kernel))) (λ_ _ _=>(i9 (aU pY (aa 1) (aa 2) (by with_unfolding_all rfl)))) (λ_ _ _=>(fP (ab (aa 0) (ab (iR (aa 2) (aa 1)) ag)))))
   (au (aM (ax rM rfl T.B.sorted i6 (ab (kR (NC:= ["i","j"]) (src:= [none,none]) rfl (oH (ar kD)) trivial (bZ (aa 2)) (λ_ _ _=>(Fo 2 rfl (nY (bU 0 (show (["i","j"]:List Str).Nodup from by decide+kernel)) (nY (bU 1 (show (["i","j"]:List Str).Nodup from by decide+kernel)) BC)))) (λ_ _ _=>(i9 (aU vy (aa 0) (aa 1) (bH _)))) (λ_ _ _=>(fP (ab (aa 0) (ab (aa 1) ag))))) ag))))),?_⟩
 obtain ⟨w',R',A',rfl,g,bL,D',q⟩:=h;have Ti:=D'.tP g;have Kj:=Ti.ug g;have lR:(R'.map ae).length=R'.length:=aI _;have wl:∀i,i<R'.length→(withinL w' R' i).length≤14:=λi hi=>nO g bL Ti hi;refine ⟨_,rfl,⟨by omega,by show ((R'.map ae).length:Int)<2^62;omega⟩,?_⟩
 rw [show (((R'.map ae).length:Int)).toNat=R'.length by omega,p9]
 have fl:∀n,n≤R'.length→((List.range n).flatMap λi=>((withinL w' R' i).filter λb=>decide (b∈R')).map λb=>(i,R'.idxOf b)).length≤n*14:=λn=>by
  induction n with
  |zero=>intro _;simp
  |succ n ih=>
   intro h
   have:=ih (by omega)
   have:=wl n (by omega)
   have h3:=y6 (λb=>decide (b∈R')) (withinL w' R' n);rw [tY,wI,cy];simp only [jN,sV,jO,aI];omega
 have Lz:=fl R'.length (bC _);refine Jy (λρ=>∃o0 o1,ρ= [o0,o1,some (aq R'),some (.fo w')]) (λi ρ=>∃o1,ρ= [some (ae i),o1,some (aq R'),some (.fo w')]) ae (λi=>withinL w' R' i) ae (λi b=>decide (b∈R')) (λi b=>(i,R'.idxOf b)) pairD (λy ρ ⟨o2,e⟩=>⟨_,_,e⟩) (List.range R'.length) _ [] _ (λi hi aD hI Y hY=>?_) (λi hi b hb aD hI Y Nn hY hN=>?_) ⟨none,none,rfl⟩ (by rw [jr,mz];exact small (by omega)) (λi hi=>by have:=wl i (cE.mp hi);rw [jr,mz];exact small (by omega)) ?_
 ·obtain ⟨o0,o1,rfl⟩:=hI
  exact ⟨_,rfl,_,rfl,_,rfl,w',R',i,rfl,g,bL,Ti,cE.mp hi,hY _ ⟨_,rfl⟩⟩
 ·obtain ⟨o1,rfl⟩:=hI
  refine ⟨_,rfl,_,rfl,rfl,bS _,_,rfl,?_⟩;refine (?_:if (if false=true then _ else inD (ae b) (R'.map ae))=true then _ else _);rw [if_neg cW,gx];refine cB (λe=>?_) (λe=>hN _ ⟨_,rfl⟩ e);have Pj:b∈R':=of_decide_eq_true e;exact ⟨_,rfl,_,rfl,_,rfl,_,rfl,rfl,bS _,_,_,(aS Pj).1,(aS Pj).2.1,(aS Pj).2.2,by show 2≤sizeLine;decide,hY _ ⟨_,rfl⟩ e⟩
 rw [kJ]
 have mem:∀t,t∈((List.range R'.length).flatMap λi=>((withinL w' R' i).filter λb=>decide (b∈R')).map λb=>(i,R'.idxOf b))↔t.1<R'.length∧t.2<R'.length∧R'.getD t.2 0∈withinL w' R' t.1:=λt=>by
  rw [pE]
  constructor
  ·rintro ⟨i,hi,h⟩
   obtain ⟨b,hb,rfl⟩:=bK.mp h;obtain ⟨h1,h2⟩:=kK.mp hb;have h2:b∈R':=of_decide_eq_true h2;have lt:=fq.mpr h2;have ej:R'.getD (R'.idxOf b) 0=b:=by rw [aL,bz lt,gK lt];rfl
   exact ⟨cE.mp hi,lt,by show R'.getD (R'.idxOf b) 0∈withinL w' R' i;rw [ej];exact h1⟩
  ·rintro ⟨h1,h2,h3⟩
   refine ⟨t.1,cE.mpr h1,bK.mpr ⟨R'.getD t.2 0,kK.mpr ⟨h3,decide_eq_true (az h2)⟩,?_⟩⟩;have e:R'.getD t.2 0=R'[t.2]:=by rw [aL,bz h2];rfl
   rw [e,D'.nd.idxOf_getElem t.2 h2]
 have nod:((List.range R'.length).flatMap λi=>((withinL w' R' i).filter λb=>decide (b∈R')).map λb=>(i,R'.idxOf b)).Nodup:=by
  refine jE pC (λi hi=>?_) λi hi j hj x hx hy=>?_
  ·refine cC ((pj g D' (cE.mp hi)).filter _) λa ha b hb e=>?_
   have ha:a∈R':=of_decide_eq_true (kK.mp ha).2;have hb:b∈R':=of_decide_eq_true (kK.mp hb).2;have e:R'.idxOf a=R'.idxOf b:=(Prod.mk.inj e).2;have la:=fq.mpr ha;have lb:=fq.mpr hb;have e1:=gK la;have e2:=gK lb;rw [←e1,←e2]
   congr 1
  ·obtain ⟨_,_,rfl⟩:=bK.mp hx
   obtain ⟨_,_,e⟩:=bK.mp hy;exact (Prod.mk.inj e).1.symm
 generalize ((List.range R'.length).flatMap λi=>((withinL w' R' i).filter λb=>decide (b∈R')).map λb=>(i,R'.idxOf b))=ps at mem nod Lz;refine ⟨trivial,?_⟩;refine ⟨_,rfl,qJ (λρ=>∃o0 o1,ρ= [o0,o1]) pairD (λt=>decide (t.1<t.2)) pairD ps _ [] _ (λt ht aD hI Y Nn hY hN=>?_) ⟨none,none,rfl⟩ (by rw [jr,mz];exact small (by omega)) λaD hI=>?_⟩
 ·obtain ⟨o0,o1,rfl⟩:=hI
  refine ⟨rfl,rfl,?_⟩;refine ⟨_,rfl,_,rfl,_,rfl,?_⟩;refine (?_:if decide ((t.1:Int)<(t.2:Int))=true then _ else _);rw [show decide ((t.1:Int)<(t.2:Int))=decide (t.1<t.2) from decide_eq_decide.mpr (by omega)]
  exact cB (λe=>⟨_,rfl,_,rfl,by show 2≤sizeLine;decide,hY _ ⟨_,_,rfl⟩ e⟩) (λe=>hN _ ⟨_,_,rfl⟩ e)
 ·rw [kJ]
  have fl:=y6 (λt:Nat×Nat=>decide (t.1<t.2)) ps;refine ⟨_,rfl,by omega,λcs pm uh=>q cs (pm.nodup_iff.mpr (nod.filter _)) uh λi j=>?_⟩
  rw [pm.mem_iff,kK,mem,decide_eq_true_eq]
  constructor
  ·rintro ⟨⟨h1,h2,h3⟩,h4⟩;exact ⟨h4,h2,h3⟩
  ·rintro ⟨h4,h2,h3⟩;exact ⟨⟨Nat.lt_trans h4 h2,h2,h3⟩,h4⟩
variable {P:Program} {w:World} {mg:Str→Option Value} {base:Heap} {Z:DC} (T:Txt Z mg)
theorem EF{a b:List Nat}(ha:a.Pairwise (·<·))(hb:b.Pairwise (·<·))(h:∀p,p∈a↔p∈b):a=b:=by
 have na:a.Nodup:=ha.imp λh=>bV h;have nb:b.Nodup:=hb.imp λh=>bV h;exact List.Perm.eq_of_pairwise (λ_ _ _ _ h1 h2=>absurd h1 (Nat.lt_asymm h2)) ha hb ((Ga na nb).mpr h)
theorem GV{a b:List (Nat×Nat)}(ha:a.Pairwise lexLe)(hb:b.Pairwise lexLe)(na:a.Nodup)(nb:b.Nodup)(h:∀p,p∈a↔p∈b):a=b:=
 List.Perm.eq_of_pairwise (λ_ _ _ _=>xU) ha hb ((Ga na nb).mpr h)
theorem Hn{L:List Nat}{P:D→Prop}(hl:L.length<64)(h:∀M:List Nat,M.Perm L→M.Pairwise (·≤·)→P (aq M)):Ff [aq L] P:=by
 refine ⟨L.map λ(n:Nat)=>(n:Int),by unfold aq;rw [gd];rfl,by rw [aI];exact hl,λms pm uh=>?_⟩
 have e:∀m∈ms,((m.toNat:Nat):Int)=m:=λm hm=>by
  obtain ⟨n,_,rfl⟩:=bK.mp (pm.mem_iff.mp hm);simp
 have pn:(ms.map Int.toNat).Perm L:=by
  have:=pm.map Int.toNat
  rw [gd] at this;rw [show (Int.toNat∘λ(n:Nat)=>(n:Int))=id from by funext n;simp] at this
  simpa using this
 have:=h (ms.map Int.toNat) pn (by
  rw [jM];exact uh.imp λ {a b} h1=>Int.toNat_le_toNat h1)
 unfold aq at this;rw [gd] at this;rw [show ms.map D.int=ms.map (ae∘Int.toNat) from Ba λm hm=>by show D.int m=ae m.toNat;unfold ae;rw [e m hm]]
 exact this
theorem Kq{L:List Nat}(h:L.Pairwise (·<·)):L.Pairwise (·≤·):=h.imp λh=>nT h
theorem Jz{a b:List Nat}(ha:a.Pairwise (·≤·))(hb:b.Pairwise (·≤·))(h:a.Perm b):a=b:=
 List.Perm.eq_of_pairwise (λ_ _ _ _ h1 h2=>Nat.le_antisymm h1 h2) ha hb h
def jX(k:Nat×Nat):PyData:= .tuple [nD k.1,nD k.2]
theorem Qg(k:Nat×Nat):(pairD k).py=some (jX k):=by
 unfold pairD;rw [D.py,fT,fT,fT];rfl
theorem xD(a b:Nat×Nat):PyData.eqv (jX a) (jX b)=true↔a=b:=by
 unfold jX nD;simp [PyData.eqv,PyData.eqvAll]
 constructor
 ·rintro ⟨h1,h2⟩;exact Prod.ext (by omega) (by omega)
 ·rintro rfl;exact ⟨rfl,rfl⟩
theorem zr(l:List (Nat×Nat)):(PyData.list (l.map jX)).depth≤64:=by
 rw [PyData.depth]
 have:=hE (f:=jX) (k:=10) (λn=>by unfold jX nD;simp [PyData.depth,PyData.depthAll]) l
 omega
theorem yk(l:List (Nat×Nat)):(D.lst (l.map pairD)).py=some (.list (l.map jX)):=by rw [D.py,jf Qg];rfl
theorem Du(l m:List (Nat×Nat)):PyData.eqv (.list (l.map jX)) (.list (m.map jX))=decide (l=m):=by
 rw [PyData.eqv]
 by_cases e:l=m
 ·rw [decide_eq_true e];exact (jA xD l m).mpr e
 ·rw [decide_eq_false e]
  apply wx.mpr;exact λz=>e ((jA xD l m).mp z)
theorem Dg{l m:List (Nat×Nat)}{P:D→Prop}(h:P (.bl (!decide (l=m)))):Ll (.lst (l.map pairD)) (.lst (m.map pairD)) P:=by
 refine ⟨_,_,yk l,yk m,zr l,?_⟩;rw [if_pos rfl,Du];exact h
variable {P:Program} {w:World} {mg:Str→Option Value} {base:Heap} {Z:DC} (T:Txt Z mg)
def EO:dD:=λds P=>∃(w:W)(R:List Nat)(A:Nat×Nat→Prop),ds= [.fo w,aq R]∧Good w∧oF w∧w.length≤14∧Disc w R A∧P (.bl true)
theorem sum_nat(l:List Nat):(l.map λ(n:Nat)=>(n:Int)).sum=((l.sum:Nat):Int):=by
 induction l with
 |nil=>rfl
 |cons a l ih=>rw [gL,List.sum_cons,List.sum_cons,ih];omega
theorem HC{w:W}(g:Good w):(gI (row w) w.length).length≤w.length*w.length:=by
 have:∀n,(gI (row w) n).length≤n*w.length:=λn=>by
  induction n with
  |zero=>exact cH _
  |succ n ih=>
   have h2:=dX g n;have h3:=y6 (λq=>decide (n<q)) (row w n);unfold gI at ih ⊢;rw [tY,wI,cy,Nat.succ_mul];simp only [jN,sV,jO,aI];omega
 exact this _
theorem HD{w:W}{p q:Nat}:(p,q)∈gI (row w) w.length↔p<w.length∧p<q∧q∈row w p:=by
 unfold gI;rw [pE]
 constructor
 ·rintro ⟨x,hx,h⟩
  obtain ⟨y,hy,e⟩:=bK.mp h;obtain ⟨h1,h2⟩:=kK.mp hy;cases e;exact ⟨cE.mp hx,of_decide_eq_true h2,h1⟩
 ·rintro ⟨h1,h2,h3⟩
  exact ⟨p,cE.mpr h1,bK.mpr ⟨q,kK.mpr ⟨h3,decide_eq_true h2⟩,rfl⟩⟩
theorem CL{w:W}(g:Good w):(gI (row w) w.length).Nodup:=by
 unfold gI;refine jE pC (λa _=>cC ((g.nod a).filter _) λx _ y _ e=>(Prod.mk.inj e).2) λa _ b _ x hx hy=>?_;obtain ⟨_,_,rfl⟩:=bK.mp hx;obtain ⟨_,_,e⟩:=bK.mp hy;exact (Prod.mk.inj e).1.symm
theorem sD:FnOk P w Z.K mg base di 4 T.d__law_counted.f T.d__law_counted.fd ["_law_web_here","_law_ring"] (aT Z EO):=by
 have nd:=kG.nd;refine bg T.d__law_counted.F kG [0,0,0,0,0] (by decide) (λds R h=>by obtain ⟨_,_,_,rfl,_⟩:=h;rfl) (λbQ A outer s H E ds R hr h=>?_)
 have hu:=hr.units
 refine ⟨_,(ah (aF false 2 nd (ax (Lg rfl) rfl T.B.sum Lf (ab (kR (NC:= ["_law_i","_law_web_here","_law_ring"]) (src:= [none,some 0,some 1]) rfl (oH (ar dk)) ⟨rfl,rfl,rfl,rfl,trivial⟩ (pI rfl T.B.range (ab (ax aP rfl T.B.len aO (ab (aa 1) ag)) ag)) (λ_ _ _=>(bU 0 (show (["_law_i","_law_web_here","_law_ring"]:List Str).Nodup from by decide+kernel))) (λ_ _ _=>eC) (λ_ _ _=>(ax aP rfl T.B.len aO (ab (aB T.d_within_at ((fi T).imp Hr) hr (ab (aa 1) (ab (aa 2) (ab (aa 0) ag)))) ag)))) ag)))
   (ah (aF false 3 nd (aB T.d_points_within (gD T) hr (ab (aa 0) (ab (aa 1) ag))))
   (ah (aF false 4 nd (ax aP rfl T.B.len aO (ab (kR (NC:= ["_law_two","_law_inner"]) (src:= [none,some 3]) rfl (oH (ar dk)) ⟨rfl,rfl,trivial⟩ (bZ (rO T.W (aa 0) T.m_ties.m (z4 T) (hr.mono (by decide)) T.m_ties.b)) (λ_ _ _=>(bU 0 (show (["_law_two","_law_inner"]:List Str).Nodup from by decide+kernel))) (λ_ _ _=>(i9 (DW.dt (uq (aU pY (bF (aa 0) aw) (aa 1) (by with_unfolding_all rfl)) (qv (aU pY (bF (aa 0) aw) (aa 1) (by with_unfolding_all rfl))))))) (λ_ _ _=>(aa 0))) ag)))
   (ah (cY (DW.dt (pL (aU (sA hu) (aa 3) (ax Gh rfl T.B.sorted i6 (ab (aa 3) ag)) (bH _)) (n5 (aU (sA hu) (kR (NC:= ["_law_point","_law_ring"]) (src:= [none,some 1]) rfl (oH (ar dk)) ⟨rfl,rfl,trivial⟩ (bZ (aa 3)) (λ_ _ _=>(bU 0 (show (["_law_point","_law_ring"]:List Str).Nodup from by decide+kernel))) (λ_ _ _=>(i9 (aU pY (aa 0) (aa 1) (by with_unfolding_all rfl)))) (λ_ _ _=>(aa 0))) (eX ag) (bH _))))) (au (aM mT)) bJ)
   (au (aM (Fi (pX hu) (aA bE (aA lh (aa 2) (ax aP rfl T.B.len aO (ab (aB T.d_chords (vE T) hr (ab (aa 0) (ab (aa 1) ag))) ag))) (aa 4)) (aA lh (aA bE (aA uv aw (ax aP rfl T.B.len aO (ab (aa 3) ag))) (ax aP rfl T.B.len aO (ab (aa 1) ag))) aw) (bH _)))))))),?_⟩
 obtain ⟨w',R',A',rfl,g,B,bL,D',q⟩:=h;have Ti:=D'.tP g;have Kj:=Ti.ug g;have lR:(R'.map ae).length=R'.length:=aI _;have wl:∀i,i<R'.length→(withinL w' R' i).length≤14:=λi hi=>nO g bL Ti hi;refine ⟨_,rfl,⟨by omega,by show ((R'.map ae).length:Int)<2^62;omega⟩,?_⟩
 rw [show (((R'.map ae).length:Int)).toNat=R'.length by omega,p9]
 refine jC (ρ:= [none,some (.fo w'),some (aq R')]) ae (λi=>ae (withinL w' R' i).length) (List.range R'.length) _ (λi hi Y h=>?_) rfl (small (by rw [iu];omega)) λaD=>?_
 ·refine ⟨_,rfl,_,rfl,_,rfl,w',R',i,rfl,g,bL,Ti,cE.mp hi,?_⟩
  refine (?_:Y (D.int ((((withinL w' R' i).map ae).length:Nat):Int)));rw [aI];exact h
 refine ⟨(List.range R'.length).map λi=>(((withinL w' R' i).length:Nat):Int),by rw [gd];rfl,trivial,?_⟩
 have es:((List.range R'.length).map λi=>(((withinL w' R' i).length:Nat):Int)).sum=((((List.range R'.length).map λi=>(withinL w' R' i).length).sum:Nat):Int):=by
  rw [←sum_nat,gd];rfl
 rw [es];refine ⟨_,rfl,_,rfl,w',R',A',rfl,g,bL,D',λL sL mL=>⟨trivial,?_⟩⟩;have nL:L.Nodup:=sL.imp λh=>bV h
 have lL:L.length≤14:=by
  have:=aX (m:=List.range w'.length) nL λp hp=>cE.mpr (uu g D' ((mL p).mp hp))
  rw [iu] at this;omega
 refine ⟨_,rfl,w',rfl,w',rfl,g,bL,λts pm uh=>?_⟩
 have tl:ts.length≤400:=by
  have:=pm.length_eq
  have h2:=HC g;have h3:w'.length*w'.length≤14*14:=wB bL bL;omega
 refine jb (ρ:= [none,some (aq L)]) pairD (λt=>decide (t.1∈L)&&decide (t.2∈L)) pairD ts _ [] _ (λt ht Y Nn t1 t2=>?_) ⟨none,rfl⟩ (by rw [jr,mz];exact small (by omega)) λaD=>?_
 ·refine ⟨_,rfl,_,rfl,_,rfl,rfl,bS _,_,rfl,?_⟩
  refine (?_:if (if false=true then _ else inD (ae t.1) (L.map ae))=true then _ else _);rw [if_neg cW,gx];refine cB (λe1=>?_) (λe1=>?_)
  ·refine ⟨_,rfl,_,rfl,_,rfl,rfl,bS _,_,rfl,?_⟩
   refine (?_:if (if false=true then _ else inD (ae t.2) (L.map ae))=true then _ else _);rw [if_neg cW,gx];exact cB (λe2=>⟨_,rfl,t1 (by rw [e1,e2];rfl)⟩) (λe2=>t2 (by rw [e1,e2];rfl))
  ·exact dg (t2 (by rw [e1];rfl))
 rw [kJ]
 have tt:∀p q,(p,q)∈ts.filter (λt=>decide (t.1∈L)&&decide (t.2∈L))↔p<q∧q∈row w' p∧p∈L∧q∈L:=λp q=>by
  rw [kK,pm.mem_iff,HD];simp only [tW,decide_eq_true_eq]
  constructor
  ·rintro ⟨⟨h1,h2,h3⟩,h4,h5⟩;exact ⟨h2,h3,h4,h5⟩
  ·rintro ⟨h2,h3,h4,h5⟩;exact ⟨⟨bI h3,h2,h3⟩,h4,h5⟩
 have nt:(ts.filter (λt=>decide (t.1∈L)&&decide (t.2∈L))).Nodup:=(pm.nodup_iff.mpr (CL g)).filter _;generalize ts.filter (λt=>decide (t.1∈L)&&decide (t.2∈L))=us at tt nt;refine ⟨trivial,?_⟩;have eL:∀M:List Nat,M.Perm L→M.Pairwise (·≤·)→M=L:=λM h1 h2=>Jz h2 (Kq sL) h1;refine ⟨_,rfl,_,rfl,?_⟩;dsimp only [xu];refine Hn (by omega) λM h1 h2=>?_
 rw [eL M h1 h2];refine Bz ⟨_,rfl,xQ (by rw [decide_eq_true rfl];rfl) ?_⟩
 have Sy:∀l:List Nat,(PyData.list (l.map nD)).depth≤64:=λl=>by have:=mU l;unfold o9 at this;omega
 refine ⟨_,rfl,jb (ρ:= [none,some (aq R')]) ae (λp=>decide (p∈R')) ae L _ [] _ (λp hp Y Nn t1 t2=>?_) ⟨none,rfl⟩ (by rw [jr,mz];exact small (by omega)) λaD=>?_⟩
 ·refine ⟨_,rfl,_,rfl,rfl,bS _,_,rfl,?_⟩
  refine (?_:if (if false=true then _ else inD (ae p) (R'.map ae))=true then _ else _);rw [if_neg cW,gx];exact cB (λe=>⟨_,rfl,t1 e⟩) (λe=>t2 e)
 have ee:L.filter (λp=>decide (p∈R'))= []:=List.filter_eq_nil_iff.mpr λp hp z=>((mL p).mp hp).1 (of_decide_eq_true z);rw [kJ,ee];refine ⟨by show 0≤sizeLine;decide,ne_nil (l:= []) (ps:= []) rfl (Sy []) ⟨_,rfl,dg ?_⟩⟩
 refine ⟨_,rfl,_,rfl,_,rfl,w',R',A',rfl,g,bL,D',λcs nc sc mc=>?_⟩;have key:=Ii g B D' nL mL nc mc nt tt;refine ⟨_,rfl,_,rfl, .inl ⟨by decide,by decide⟩,_,rfl,?_⟩
 refine uS ?_;rw [decide_eq_true (by dsimp only;rw [aI,aI,aI,aI];omega)]
 exact q
def Hu:dD:=λds P=>∃(w:W)(R:List Nat)(A:Nat×Nat→Prop),ds= [.fo w,aq R]∧Good w∧w.length≤14∧Disc w R A∧∀S:List (Nat×Nat),S.Nodup→S.Pairwise lexLe→(∀p q,(p,q)∈S↔p<q∧q∈R∧WD w R (p,q))→P (.lst (S.map pairD))
def ends(R:List Nat)(t:Nat×Nat):Nat×Nat:=(min (R.getD t.1 0) (R.getD t.2 0),max (R.getD t.1 0) (R.getD t.2 0))
theorem JF(a b:Nat):(if (b:Int)<(a:Int) then (b:Int) else (a:Int))=((min a b:Nat):Int):=by split<;>omega
theorem JD(a b:Nat):(if (b:Int)>(a:Int) then (b:Int) else (a:Int))=((max a b:Nat):Int):=by split<;>omega
theorem gN:FnOk P w Z.K mg base di 4 T.d__law_named_chords.f T.d__law_named_chords.fd ["_law_web_here","_law_ring"] (aT Z Hu):=by
 have nd:=gO.nd;refine bg T.d__law_named_chords.F gO [0,0,1,0,0] (by decide) (λds R h=>by obtain ⟨_,_,_,rfl,_⟩:=h;rfl) (λbQ A outer s H E ds R hr h=>?_)
 have hu:=hr.units
 refine ⟨_,(ah (qu 2 nd (qr ag))
   (ah (fz rfl PassesOwn.never (bZ (aB T.d_chords (vE T) hr (ab (aa 0) (ab (aa 1) ag)))) (gw 2 rfl (bx (aR 3 nd) (bx (aR 4 nd) dS))) (ah (cY (DW.dt (pL (aU vy (aa 3) aw (bH _)) (pL (aU JP (aa 3) (aa 4) (bH _)) (n5 (aU JP (aa 4) (ax aP rfl T.B.len aO (ab (aa 1) ag)) (bH _)))))) (au (aM fO)) bJ)
   (au (uo false 2 (fP (ab (ax (Ig rfl) rfl T.B.min Le (ab (bF (aa 1) (aa 3)) (ab (bF (aa 1) (aa 4)) ag))) (ab (ax (Ie rfl) rfl T.B.max Ld (ab (bF (aa 1) (aa 3)) (ab (bF (aa 1) (aa 4)) ag))) ag)))))))
   (au (aM (ax rM rfl T.B.sorted i6 (ab (aa 2) ag)))))),?_⟩
 obtain ⟨w',R',A',rfl,g,bL,D',q⟩:=h;have Ti:=D'.tP g;have Kj:=Ti.ug g;have lR:(R'.map ae).length=R'.length:=aI _;refine ⟨by show 0≤sizeLine;decide,?_⟩
 refine ⟨_,rfl,_,rfl,w',R',A',rfl,g,bL,D',λcs nc sc mc=>?_⟩
 have cl:cs.length≤400:=by
  have:=aX (m:=(List.range R'.length).flatMap λi=>(List.range R'.length).map λj=>(i,j)) nc λt ht=>by
   have h:=(mc t.1 t.2).mp ht;exact pE.mpr ⟨t.1,cE.mpr (by omega),bK.mpr ⟨t.2,cE.mpr h.2.1,rfl⟩⟩
  have h2:∀n,((List.range n).flatMap λi=>(List.range R'.length).map λj=>(i,j)).length=n*R'.length:=λn=>by
   induction n with
   |zero=>simp
   |succ n ih=>rw [tY,wI,cy,ih,Nat.succ_mul];simp
  rw [h2] at this;have h3:R'.length*R'.length≤14*14:=wB (by omega) (by omega)
  omega
 refine dA (λk ρ=>∃o3 o4,ρ= [some (.fo w'),some (aq R'),some (.lst ((cs.take k).map (pairD∘ends R'))),o3,o4]) ⟨none,none,rfl⟩ ?_ ?_
 ·rintro k d _ hd ⟨o3,o4,rfl⟩ A hA
  obtain ⟨t,ht,rfl⟩:=eF hd;have hm:=(mc t.1 t.2).mp (f9 ht);have kl:=(eU.mp ht).1;refine ⟨rfl,rfl,?_⟩;refine ⟨_,rfl,_,rfl,xQ (decide_eq_false (by omega)) ?_⟩
  refine ⟨_,rfl,_,rfl,_,rfl,xQ (decide_eq_false (by omega)) ?_⟩
  refine ⟨_,rfl,_,rfl,_,rfl,xQ (decide_eq_false (by rw [lR];omega)) ?_⟩
  have a1:=eG (ns:=R') (p:=t.1) (by omega)
  have a2:=eG (ns:=R') (p:=t.2) (by omega)
  refine ⟨_,rfl,_,rfl,_,rfl,_,a1,_,rfl,_,rfl,_,a2,_,_,rfl,?_⟩;refine ⟨_,rfl,_,rfl,_,a1,_,rfl,_,rfl,_,a2,_,_,rfl,?_⟩;refine ⟨by show 2≤sizeLine;decide,trivial,g8 (by rw [aI,b8];omega),?_⟩
  refine hA _ ⟨some (ae t.1),some (ae t.2),?_⟩;rw [List.take_succ,ht];simp only [Option.toList_some,eJ,gL,List.map_nil];rw [show (pairD∘ends R') t= .tup [.int (if ((R'.getD t.2 0:Nat):Int)<((R'.getD t.1 0:Nat):Int) then ((R'.getD t.2 0:Nat):Int) else ((R'.getD t.1 0:Nat):Int)), .int (if ((R'.getD t.2 0:Nat):Int)>((R'.getD t.1 0:Nat):Int) then ((R'.getD t.2 0:Nat):Int) else ((R'.getD t.1 0:Nat):Int))] by rw [JF,JD];rfl]
  rfl
 ·rintro _ ⟨o3,o4,rfl⟩
  rw [aI,List.take_length];refine ⟨_,rfl,cs.map (ends R'),by rw [gd],by rw [aI];omega,λS pm uh=>?_⟩
  have nE:(cs.map (ends R')).Nodup:=by
   refine cC nc λa ha b hb e=>?_;have h1:=(mc a.1 a.2).mp ha;have h2:=(mc b.1 b.2).mp hb;have n1:R'.getD a.1 0≠R'.getD a.2 0:=λz=>by have:=getD_inj D'.nd (by omega) (by omega) z;omega
   have n2:R'.getD b.1 0≠R'.getD b.2 0:=λz=>by have:=getD_inj D'.nd (by omega) (by omega) z;omega
   obtain ⟨e1,e2⟩:=Prod.mk.inj e;have c:(R'.getD a.1 0=R'.getD b.1 0∧R'.getD a.2 0=R'.getD b.2 0)∨(R'.getD a.1 0=R'.getD b.2 0∧R'.getD a.2 0=R'.getD b.1 0):=by omega
   rcases c with ⟨c1,c2⟩ | ⟨c1,c2⟩
   ·exact Prod.ext (getD_inj D'.nd (by omega) (by omega) c1) (getD_inj D'.nd (by omega) (by omega) c2)
   ·have:=getD_inj D'.nd (i:=a.1) (j:=b.2) (by omega) (by omega) c1
    have:=getD_inj D'.nd (i:=a.2) (j:=b.1) (by omega) (by omega) c2
    omega
  refine q S (pm.nodup_iff.mpr nE) uh λx y=>?_;rw [pm.mem_iff,bK]
  constructor
  ·rintro ⟨t,ht,e⟩
   obtain ⟨h1,h2,h3⟩:=(mc t.1 t.2).mp ht;have n1:R'.getD t.1 0≠R'.getD t.2 0:=λz=>by have:=getD_inj D'.nd (by omega) (by omega) z;omega
   obtain ⟨e1,e2⟩:=Prod.mk.inj e
   rcases Nat.lt_or_gt_of_ne n1 with c|c
   ·have ex:x=R'.getD t.1 0:=by omega
    have ey:y=R'.getD t.2 0:=by omega
    subst ex;subst ey;exact ⟨c,az h2,t.1,by omega,rfl,h3⟩
   ·have ex:x=R'.getD t.2 0:=by omega
    have ey:y=R'.getD t.1 0:=by omega
    subst ex;subst ey;exact ⟨c,az (by omega),t.2,h2,rfl,fZ g D' (by omega) h2 h3⟩
  ·rintro ⟨h1,h2,i,hi,h3,h4⟩
   have h3:x=R'.getD i 0:=h3;have h4:y∈withinL w' R' i:=h4;have lt:=fq.mpr h2;have ej:R'.getD (R'.idxOf y) 0=y:=by rw [aL,bz lt,gK lt];rfl
   rw [←ej] at h4
   rcases Nat.lt_trichotomy i (R'.idxOf y) with c|c|c
   ·refine ⟨(i,R'.idxOf y),(mc _ _).mpr ⟨c,lt,h4⟩,?_⟩
    unfold ends;rw [ej,←h3];exact Prod.ext (by show min x y=x;omega) (by show max x y=y;omega)
   ·rw [c,ej] at h3;omega
   ·refine ⟨(R'.idxOf y,i),(mc _ _).mpr ⟨c,hi,fZ g D' hi lt h4⟩,?_⟩
    unfold ends;rw [ej,←h3];exact Prod.ext (by show min y x=x;omega) (by show max y x=y;omega)
def Hw:dD:=λds P=>∃(w:W)(R:List Nat)(A:Nat×Nat→Prop)(a:Nat),ds= [.fo w,aq R,ae a]∧Good w∧w.length≤14∧Disc w R A∧a<R.length∧P (.bl true)
theorem Kr{R:List Nat}{a x:Nat}:x∈R.drop a++R.take a↔x∈R:=by
 rw [dh,Or.comm,←dh,iq]
theorem WD.vO{w:W}{R:List Nat}{a:Nat}(ha:a<R.length)(d:Nat×Nat):WD w (R.drop a++R.take a) d↔WD w R d:=by
 unfold WD;rw [kC]
 constructor
 ·rintro ⟨i,hi,e,h⟩
  rw [kd ha hi] at e;rw [nP w ha hi] at h;exact ⟨(i+a)%R.length,jR _ (by omega),e,h⟩
 ·rintro ⟨i,hi,e,h⟩
  have hj:(i+(R.length-a))%R.length<R.length:=jR _ (by omega)
  have ej:((i+(R.length-a))%R.length+a)%R.length=i:=by
   rw [Nat.mod_add_mod,show i+(R.length-a)+a=i+R.length by omega,Nat.add_mod_right,fu hi]
  exact ⟨(i+(R.length-a))%R.length,hj,by rw [kd ha hj,ej];exact e,by rw [nP w ha hj,ej];exact h⟩
theorem uc:FnOk P w Z.K mg base di 5 T.d__law_turned.f T.d__law_turned.fd ["_law_web_here","_law_ring","_law_at"] (aT Z Hw):=by
 have nd:=lU.nd;refine bg T.d__law_turned.F lU [0,0,0,0,0,0] (by decide) (λds R h=>by obtain ⟨_,_,_,_,rfl,_⟩:=h;rfl) (λbQ A outer s H E ds R hr h=>?_)
 have hu:=hr.units
 refine ⟨_,(ah (aF false 3 nd (aA bE (bp (aa 1) (bw (aa 2)) bR) (bp (aa 1) bR (bw (aa 2)))))
   (ah (qt rfl PassesOwn.never (pJ rfl T.B.range (ab (ax aP rfl T.B.len aO (ab (aa 1) ag)) ag)) (aR 4 nd) (au (cY (aU (sA hu) (aB T.d_within_at ((fi T).imp Hr) hr (ab (aa 0) (ab (aa 3) (ab (aa 4) ag)))) (aB T.d_within_at ((fi T).imp Hr) hr (ab (aa 0) (ab (aa 1) (ab (aA cu (aA bE (aa 4) (aa 2)) (ax aP rfl T.B.len aO (ab (aa 1) ag))) ag)))) (bH _)) (au (aM mT)) bJ)))
   (ah (aF false 5 nd (aB T.d__law_named_chords (gN T) hr (ab (aa 0) (ab (aa 1) ag))))
   (ah (cY (DW.dt (pL (aU vx (aa 5) fO (bH _)) (n5 (aU (sA hu) (aB T.d__law_named_chords (gN T) hr (ab (aa 0) (ab (aa 3) ag))) (aa 5) (bH _))))) (au (aM mT)) bJ)
   (au (aM (Fi (pX hu) (aB T.d_points_within (gD T) hr (ab (aa 0) (ab (aa 3) ag))) (aB T.d_points_within (gD T) hr (ab (aa 0) (ab (aa 1) ag))) (bH _)))))))),?_⟩
 obtain ⟨w',R',A',a,rfl,g,bL,D',ha,q⟩:=h;have Ti:=D'.tP g;have Kj:=Ti.ug g;have h3:=D'.len;have lR:(R'.map ae).length=R'.length:=aI _;have ca:cutD (R'.map ae) (some (a:Int)) none=(R'.drop a).map ae:=by rw [dH _ _ (by rw [lR];omega),kL]
 have cb:cutD (R'.map ae) none (some (a:Int))=(R'.take a).map ae:=by rw [cX _ _ (by rw [lR];omega),jP]
 have mI:(cutD (R'.map ae) (some (a:Int)) none).length+(cutD (R'.map ae) none (some (a:Int))).length≤sizeLine:=by
  rw [ca,cb,aI,aI,dY,b8];exact small (by omega)
 have er:(.lst (cutD (R'.map ae) (some (a:Int)) none++cutD (R'.map ae) none (some (a:Int))):D)=aq (R'.drop a++R'.take a):=by rw [ca,cb];unfold aq;rw [eJ]
 have D2:Disc w' (R'.drop a++R'.take a) A':=by
  have:=D'
  rw [←iq a R'] at this;exact this.vO
 have T2:=D2.tP g;refine ⟨_,rfl,_,rfl,_,rfl,_,rfl,mI,trivial,?_⟩;refine nj [some (.fo w'),some (aq R'),some (ae a),some (aq (R'.drop a++R'.take a)),none,none] (by rw [←er];rfl) ?_
 have wd:∀d,WD w' (R'.drop a++R'.take a) d↔WD w' R' d:=λd=>WD.vO ha d;have wr:∀i,i<R'.length→withinL w' (R'.drop a++R'.take a) i=withinL w' R' ((i+a)%R'.length):=λi hi=>nP w' ha hi;have mr:∀x,x∈R'.drop a++R'.take a↔x∈R':=λx=>Kr;have lr:=kC R' a;generalize R'.drop a++R'.take a=R2 at D2 T2 wd wr mr lr;refine ⟨_,rfl,⟨by omega,by show ((R'.map ae).length:Int)<2^62;omega⟩,?_⟩
 rw [show (((R'.map ae).length:Int)).toNat=R'.length by omega]
 refine rS (λi ρ=>∃o4,ρ= [some (.fo w'),some (aq R'),some (ae a),some (aq R2),o4,none]) ⟨none,rfl⟩ ?_ ?_
 ·rintro i _ hi ⟨o4,rfl⟩ A hA
  have e0:(0:Int)<((R'.map ae).length:Int):=by rw [lR];omega
  refine ⟨_,rfl,_,rfl,_,rfl,w',R2,i,rfl,g,bL,T2,by omega,?_⟩
  have em:((i:Int)+(a:Int))%((R'.map ae).length:Int)=(((i+a)%R'.length:Nat):Int):=by rw [lR,Int.natCast_emod,Int.natCast_add]
  refine ⟨_,rfl,_,rfl,_,rfl,_,rfl,_,rfl,e0,w',R',(i+a)%R'.length,by show [_,_,D.int (((i:Int)+(a:Int))%((R'.map ae).length:Int))]=_;rw [em];rfl,g,bL,Ti,jR _ (by omega),?_⟩
  rw [wr i hi];refine Bz ⟨_,rfl,xQ (by rw [decide_eq_true rfl];rfl) ?_⟩
  exact hA _ ⟨some (ae i),rfl⟩
 ·rintro _ ⟨o4,rfl⟩
  refine ⟨_,rfl,_,rfl,w',R',A',rfl,g,bL,D',λS nS sS mS=>⟨trivial,?_⟩⟩;refine ⟨_,rfl,_,rfl,dg ?_⟩;refine ⟨_,rfl,_,rfl,w',R2,A',rfl,g,bL,D2,λS2 nS2 sS2 mS2=>?_⟩
  have eS:S2=S:=GV sS2 sS nS2 nS λt=>by
   have h1:=mS2 t.1 t.2;have h2:=mS t.1 t.2;rw [wd,mr] at h1;exact h1.trans h2.symm
  subst eS;refine ⟨_,rfl,Dg ⟨_,rfl,xQ (by rw [decide_eq_true rfl];rfl) ?_⟩⟩
  refine ⟨_,rfl,_,rfl,w',R2,A',rfl,g,bL,D2,λL2 s2 m2=>?_⟩;refine ⟨_,rfl,_,rfl,w',R',A',rfl,g,bL,D',λL s1 m1=>?_⟩
  have eL:L2=L:=EF s2 s1 λp=>by
   rw [m1 p,m2 p];unfold kO;rw [mr]
  subst eL;refine Ij ?_;rw [decide_eq_true rfl];exact q
variable {P:Program} {w:World} {mg:Str→Option Value} {base:Heap} {Z:DC} (T:Txt Z mg)
theorem Ma:FnOk P w Z.K mg base di 7 T.d_law.f T.d_law.fd ["_law_script"] (aT Z F3):=by
 have nd:=F1.nd;refine bg T.d_law.F F1 [0,0,0,0,0] (by decide) (λds R h=>by obtain ⟨_,rfl,_⟩:=h;rfl) (λbQ A outer s H E ds R hr h=>?_)
 have hu:=hr.units
 refine ⟨_,(ah (zu (aB T.d__law_built (vA T) hr (ab (aa 0) ag)) (gw 2 rfl (bx (aR 1 nd) (bx (aR 2 nd) dS))))
   (ah (aF false 3 nd (aB T.d__law_web (z5 T) hr (ab (aa 1) ag)))
   (ah (fz rfl PassesOwn.never (bZ (aB T.d__law_rings (vD T) hr (ab (aa 1) (ab (aa 2) (ab (aB T.d__law_drawn (gz T) hr (ab (aB T.d__law_cell_at (dW T) hr (ab (aa 0) (ab aw ag))) ag)) ag))))) (aR 4 nd) (au (cY (DW.dt (pL (nZ (kS (aB T.d__law_counted (sD T) hr (ab (aa 3) (ab (aa 4) ag))))) (n5 (nZ (kS (aB T.d__law_turned (uc T) hr (ab (aa 3) (ab (aa 4) (ab (aA cu (aB T.d__law_cell_at (dW T) hr (ab (aa 0) (ab aw ag))) (ax aP rfl T.B.len aO (ab (aa 4) ag))) ag))))))))) (au (aM mT)) bJ)))
   (au (aM mT))))),?_⟩
 obtain ⟨ns,rfl,u5,q⟩:=h;refine ⟨_,rfl,ns,rfl,λF R' g B h3 bL Fl=>?_⟩;refine ⟨rfl,rfl,?_⟩;refine ⟨_,rfl,F,rfl,g,by omega,bL,trivial,?_⟩
 refine ⟨_,rfl,_,rfl,_,rfl,ns,2,rfl,λv1=>⟨v1,rfl,λv2=>⟨F,R',v2,rfl,g,B,bL,⟨_,Fl⟩,λRs LA hl=>?_⟩⟩⟩;refine dA (λj ρ=>∃o4,ρ= [some (.kH ns),some (aN F),some (aq R'),some (.fo F),o4]) ⟨none,rfl⟩ ?_ ?_
 ·rintro j d _ hd ⟨o4,rfl⟩ A hA
  obtain ⟨R1,Gz,rfl⟩:=eF hd;obtain ⟨A1,D1⟩:=LA R1 (f9 Gz);have h3':=D1.len;have lR:(R1.map ae).length=R1.length:=aI _;have e0:(0:Int)<((R1.map ae).length:Int):=by rw [lR];omega
  refine ⟨_,rfl,_,rfl,F,R1,A1,rfl,g,B,bL,D1,rfl,dg ?_⟩;refine ⟨_,rfl,_,rfl,_,rfl,ns,3,rfl,λv3=>?_⟩;refine ⟨_,rfl,e0,?_⟩;have m1:=g6 v3 ((R1.map ae).length:Int) e0;obtain ⟨a,ea⟩:∃a:Nat,v3%((R1.map ae).length:Int)=(a:Int):=⟨(v3%((R1.map ae).length:Int)).toNat,by omega⟩
  rw [ea] at m1;refine ⟨F,R1,A1,a,by show [_,_,D.int (v3%((R1.map ae).length:Int))]=_;rw [ea];rfl,g,bL,D1,by omega,rfl,dg ?_⟩
  exact hA _ ⟨some (aq R1),rfl⟩
 ·rintro _ ⟨o4,rfl⟩
  exact q
theorem all_mk{l:PySem.W.OpenLaw}{w:World}{K:PySem.W.Frag}{h:Heap}{mg:Str→Option Value}{fa C:Addr}{QF:Tok}(X:K.In h)(G:h.Ns mainGlobals mg)(Yx:mg "law"=some (.ref fa))
  {d0:Addr} {od0 WZ:Option Addr} {sl0:Array (Option Value)} {oc0 kV0 XQ pm0 Rh Xu:Value}
  {d1:Addr} {od1 W0:Option Addr} {sl1:Array (Option Value)} {oc1 kV1 XR J9 Ri Xv:Value}
  {d2:Addr} {od2 W2:Option Addr} {ME:Array (Option Value)} {oc2 kV2 XS Cn Rj Xw:Value}
  {d3:Addr} {od3 W3:Option Addr} {sl3:Array (Option Value)} {oc3 kV3 XT pm3 Rk Xx:Value}
  {d4:Addr} {od4 W4:Option Addr} {sl4:Array (Option Value)} {oc4 kV4 XU pm4 Rl Xy:Value}
  {d5:Addr} {od5 W5:Option Addr} {sl5:Array (Option Value)} {oc5 kV5 XW pm5 Rm Xz:Value}
  {d6:Addr} {od6 W6:Option Addr} {sl6:Array (Option Value)} {oc6 kV6 XX pm6 Ro XA:Value}
  {d7:Addr} {od7 W7:Option Addr} {sl7:Array (Option Value)} {oc7 kV7 XY pm7 Rp XB:Value}
  {d8:Addr} {od8 W8:Option Addr} {sl8:Array (Option Value)} {oc8 kV8 XZ pm8 Rq XD:Value}
  {d9:Addr} {od9 W9:Option Addr} {sl9:Array (Option Value)} {oc9 kV9 X0 pm9 Rr XE:Value}
  {Og:Addr} {US QW:Option Addr} {VP:Array (Option Value)} {UA TZ R9 Vf M4 Rv:Value}
  {Oh:Addr} {UT QX:Option Addr} {VQ:Array (Option Value)} {UB T3 Sa Vg M5 Rw:Value}
  {Oi:Addr} {UU QY:Option Addr} {VR:Array (Option Value)} {UC T4 Sb Vh M6 Rx:Value}
  {Oj:Addr} {UW QZ:Option Addr} {VS:Array (Option Value)} {UD T5 Sd Vi M7 Ry:Value}
  {Ol:Addr} {UX Q0:Option Addr} {VT:Array (Option Value)} {UE T6 Se Vj M8 Rz:Value}
  {Om:Addr} {UY Q1:Option Addr} {VU:Array (Option Value)} {UG T7 Sf Vk M9 RA:Value}
  {Oo:Addr} {UZ Q2:Option Addr} {VV:Array (Option Value)} {UH T8 Sg Vl Na RB:Value}
  {Oq:Addr} {U0 Q3:Option Addr} {VW:Array (Option Value)} {UI T9 Sh Vm Nb RC:Value}
  {Ot:Addr} {U2 Q4:Option Addr} {VX:Array (Option Value)} {UJ Ub Si Vn Nc RD:Value}
  {Ou:Addr} {U3 Q5:Option Addr} {VY:Array (Option Value)} {UK Uc Sj Vo Nd RE:Value}
  {Ov:Addr} {U4 Q6:Option Addr} {VZ:Array (Option Value)} {UL Ud Sk Vp Nf RF:Value}
  {Ow:Addr} {U5 Q7:Option Addr} {V0:Array (Option Value)} {UM Ue Sl Vq Ng RG:Value}
  {Ox:Addr} {U6 Q8:Option Addr} {V1:Array (Option Value)} {UN Ug Sm Vr Nh RH:Value}
  {Oy:Addr} {U7 Q9:Option Addr} {V2:Array (Option Value)} {UO Uh Sn Vs Ni RJ:Value}
  {Oz:Addr} {U8 Ra:Option Addr} {V3:Array (Option Value)} {UP Ui So Vt Nj RK:Value}
  {OA:Addr} {U9 Rb:Option Addr} {V4:Array (Option Value)} {UQ Uj Sq Vu Nk RL:Value}
  {OB:Addr} {Va Rc:Option Addr} {V5:Array (Option Value)} {UR Uk Sr Vv Nl RM:Value}
  {i0:Addr} {Zb Zn:Option Addr} {ZG:Array (Option Value)} {Y5 Zh Zt Zz TQ ZM:Value}
  {i1:Addr} {Zc Zo:Option Addr} {ZH:Array (Option Value)} {Y6 Zi Zu ZA TR ZN:Value}
  {i2:Addr} {Zd Zp:Option Addr} {ZI:Array (Option Value)} {Y7 Zj Zv ZC TU ZO:Value}
  {i3:Addr} {Ze Zq:Option Addr} {ZJ:Array (Option Value)} {Y8 Zk Zw ZD TV ZP:Value}
  {i4:Addr} {Zf Zr:Option Addr} {ZK:Array (Option Value)} {Y9 Zl Zx ZE TX ZQ:Value}
  {i5:Addr} {Zg Zs:Option Addr} {ZL:Array (Option Value)} {Za Zm Zy ZF TY ZR:Value}
  (gC:PySem.W.nsIn K mainGlobals "Web"=some (some (.ref C)))
  (a0:gM K "is_among" d0)
  (l0:fg K "is_among" "is_among" nB d0 od0 WZ sl0 oc0 kV0 XQ pm0 Rh Xu)
  (c0:PySem.W.codeIn K Rh "is_among"=true)
  (k0:PySem.W.keepIn K (.ref d0)=true)
  (a1:gM K "alien_fault" d1)
  (l1:fg K "alien_fault" "alien_fault" jl d1 od1 W0 sl1 oc1 kV1 XR J9 Ri Xv)
  (c1:PySem.W.codeIn K Ri "alien_fault"=true)
  (k1:PySem.W.keepIn K (.ref d1)=true)
  (a2:gM K "self_fault" d2)
  (l2:fg K "self_fault" "self_fault" j6 d2 od2 W2 ME oc2 kV2 XS Cn Rj Xw)
  (c2:PySem.W.codeIn K Rj "self_fault"=true)
  (k2:PySem.W.keepIn K (.ref d2)=true)
  (a3:gM K "twice_fault" d3)
  (l3:fg K "twice_fault" "twice_fault" jq d3 od3 W3 sl3 oc3 kV3 XT pm3 Rk Xx)
  (c3:PySem.W.codeIn K Rk "twice_fault"=true)
  (k3:PySem.W.keepIn K (.ref d3)=true)
  (a4:gM K "lone_fault" d4)
  (l4:fg K "lone_fault" "lone_fault" j5 d4 od4 W4 sl4 oc4 kV4 XU pm4 Rl Xy)
  (c4:PySem.W.codeIn K Rl "lone_fault"=true)
  (k4:PySem.W.keepIn K (.ref d4)=true)
  (a5:gM K "reached_from_first" d5)
  (l5:fg K "reached_from_first" "reached_from_first" df d5 od5 W5 sl5 oc5 kV5 XW pm5 Rm Xz)
  (c5:PySem.W.codeIn K Rm "reached_from_first"=true)
  (k5:PySem.W.keepIn K (.ref d5)=true)
  (a6:gM K "apart_fault" d6)
  (l6:fg K "apart_fault" "apart_fault" jn d6 od6 W6 sl6 oc6 kV6 XX pm6 Ro XA)
  (c6:PySem.W.codeIn K Ro "apart_fault"=true)
  (k6:PySem.W.keepIn K (.ref d6)=true)
  (a7:gM K "first_fault" d7)
  (l7:fg K "first_fault" "first_fault" jo d7 od7 W7 sl7 oc7 kV7 XY pm7 Rp XB)
  (c7:PySem.W.codeIn K Rp "first_fault"=true)
  (k7:PySem.W.keepIn K (.ref d7)=true)
  (a8:gM K "begun_at" d8)
  (l8:fg K "begun_at" "begun_at" nz d8 od8 W8 sl8 oc8 kV8 XZ pm8 Rq XD)
  (c8:PySem.W.codeIn K Rq "begun_at"=true)
  (k8:PySem.W.keepIn K (.ref d8)=true)
  (a9:gM K "within_at" d9)
  (l9:fg K "within_at" "within_at" lF d9 od9 W9 sl9 oc9 kV9 X0 pm9 Rr XE)
  (c9:PySem.W.codeIn K Rr "within_at"=true)
  (k9:PySem.W.keepIn K (.ref d9)=true)
  (WI:gM K "chords" Og)
  (l10:fg K "chords" "chords" kD Og US QW VP UA TZ R9 Vf M4 Rv)
  (Xb:PySem.W.codeIn K M4 "chords"=true)
  (ZT:PySem.W.keepIn K (.ref Og)=true)
  (WJ:gM K "points_within" Oh)
  (l11:fg K "points_within" "points_within" fE Oh UT QX VQ UB T3 Sa Vg M5 Rw)
  (Xc:PySem.W.codeIn K M5 "points_within"=true)
  (ZU:PySem.W.keepIn K (.ref Oh)=true)
  (WK:gM K "_law_cell_at" Oi)
  (l12:fg K "_law_cell_at" "_law_cell_at" iB Oi UU QY VR UC T4 Sb Vh M6 Rx)
  (Xd:PySem.W.codeIn K M6 "_law_cell_at"=true)
  (ZV:PySem.W.keepIn K (.ref Oi)=true)
  (WL:gM K "_law_drawn" Oj)
  (l13:fg K "_law_drawn" "_law_drawn" j0 Oj UW QZ VS UD T5 Sd Vi M7 Ry)
  (Xe:PySem.W.codeIn K M7 "_law_drawn"=true)
  (ZW:PySem.W.keepIn K (.ref Oj)=true)
  (WM:gM K "_law_grown" Ol)
  (l14:fg K "_law_grown" "_law_grown" j3 Ol UX Q0 VT UE T6 Se Vj M8 Rz)
  (Xf:PySem.W.codeIn K M8 "_law_grown"=true)
  (ZX:PySem.W.keepIn K (.ref Ol)=true)
  (WN:gM K "_law_named" Om)
  (l15:fg K "_law_named" "_law_named" eN Om UY Q1 VU UG T7 Sf Vk M9 RA)
  (Xg:PySem.W.codeIn K M9 "_law_named"=true)
  (ZY:PySem.W.keepIn K (.ref Om)=true)
  (WO:gM K "_law_built" Oo)
  (l16:fg K "_law_built" "_law_built" jZ Oo UZ Q2 VV UH T8 Sg Vl Na RB)
  (Xh:PySem.W.codeIn K Na "_law_built"=true)
  (ZZ:PySem.W.keepIn K (.ref Oo)=true)
  (WQ:gM K "_law_web" Oq)
  (l17:fg K "_law_web" "_law_web" jH Oq U0 Q3 VW UI T9 Sh Vm Nb RC)
  (Xi:PySem.W.codeIn K Nb "_law_web"=true)
  (Z0:PySem.W.keepIn K (.ref Oq)=true)
  (WR:gM K "_law_within" Ot)
  (l18:fg K "_law_within" "_law_within" jk Ot U2 Q4 VX UJ Ub Si Vn Nc RD)
  (Xj:PySem.W.codeIn K Nc "_law_within"=true)
  (Z1:PySem.W.keepIn K (.ref Ot)=true)
  (WS:gM K "_law_chords" Ou)
  (l19:fg K "_law_chords" "_law_chords" gF Ou U3 Q5 VY UK Uc Sj Vo Nd RE)
  (Xk:PySem.W.codeIn K Nd "_law_chords"=true)
  (Z2:PySem.W.keepIn K (.ref Ou)=true)
  (WT:gM K "_law_halves" Ov)
  (l20:fg K "_law_halves" "_law_halves" ji Ov U4 Q6 VZ UL Ud Sk Vp Nf RF)
  (Xl:PySem.W.codeIn K Nf "_law_halves"=true)
  (Z3:PySem.W.keepIn K (.ref Ov)=true)
  (WU:gM K "_law_lesser" Ow)
  (l21:fg K "_law_lesser" "_law_lesser" gG Ow U5 Q7 V0 UM Ue Sl Vq Ng RG)
  (Xm:PySem.W.codeIn K Ng "_law_lesser"=true)
  (Z4:PySem.W.keepIn K (.ref Ow)=true)
  (WV:gM K "_law_rings" Ox)
  (l22:fg K "_law_rings" "_law_rings" j4 Ox U6 Q8 V1 UN Ug Sm Vr Nh RH)
  (Xn:PySem.W.codeIn K Nh "_law_rings"=true)
  (Z5:PySem.W.keepIn K (.ref Ox)=true)
  (WW:gM K "_law_counted" Oy)
  (l23:fg K "_law_counted" "_law_counted" dk Oy U7 Q9 V2 UO Uh Sn Vs Ni RJ)
  (Xo:PySem.W.codeIn K Ni "_law_counted"=true)
  (Z6:PySem.W.keepIn K (.ref Oy)=true)
  (WX:gM K "_law_named_chords" Oz)
  (l24:fg K "_law_named_chords" "_law_named_chords" fk Oz U8 Ra V3 UP Ui So Vt Nj RK)
  (Xp:PySem.W.codeIn K Nj "_law_named_chords"=true)
  (Z7:PySem.W.keepIn K (.ref Oz)=true)
  (WY:gM K "_law_turned" OA)
  (l25:fg K "_law_turned" "_law_turned" jj OA U9 Rb V4 UQ Uj Sq Vu Nk RL)
  (Xq:PySem.W.codeIn K Nk "_law_turned"=true)
  (Z8:PySem.W.keepIn K (.ref OA)=true)
  (QS:gM K "law" OB)
  (l26:fg K "law" "law" EK OB Va Rc V5 UR Uk Sr Vv Nl RM)
  (Xr:PySem.W.codeIn K Nl "law"=true)
  (Z9:PySem.W.keepIn K (.ref OB)=true)
  (m0:PySem.W.findIn K (.ref C) "__init__"=some (some (.ref i0)))
  (f0:PySem.W.isFn K (.ref i0)=true)
  (ml0:fg K "__init__" "Web.__init__" eH i0 Zb Zn ZG Y5 Zh Zt Zz TQ ZM)
  (mc0:PySem.W.codeIn K TQ "Web.__init__"=true)
  (mk0:PySem.W.keepIn K (.ref i0)=true)
  (m1:PySem.W.findIn K (.ref C) "many"=some (some (.ref i1)))
  (f1:PySem.W.isFn K (.ref i1)=true)
  (ml1:fg K "many" "Web.many" tJ i1 Zc Zo ZH Y6 Zi Zu ZA TR ZN)
  (mc1:PySem.W.codeIn K TR "Web.many"=true)
  (mk1:PySem.W.keepIn K (.ref i1)=true)
  (m2:PySem.W.findIn K (.ref C) "turns"=some (some (.ref i2)))
  (f2:PySem.W.isFn K (.ref i2)=true)
  (ml2:fg K "turns" "Web.turns" iN i2 Zd Zp ZI Y7 Zj Zv ZC TU ZO)
  (mc2:PySem.W.codeIn K TU "Web.turns"=true)
  (mk2:PySem.W.keepIn K (.ref i2)=true)
  (m3:PySem.W.findIn K (.ref C) "ties"=some (some (.ref i3)))
  (f3:PySem.W.isFn K (.ref i3)=true)
  (ml3:fg K "ties" "Web.ties" jG i3 Ze Zq ZJ Y8 Zk Zw ZD TV ZP)
  (mc3:PySem.W.codeIn K TV "Web.ties"=true)
  (mk3:PySem.W.keepIn K (.ref i3)=true)
  (m4:PySem.W.findIn K (.ref C) "tied"=some (some (.ref i4)))
  (f4:PySem.W.isFn K (.ref i4)=true)
  (ml4:fg K "tied" "Web.tied" tK i4 Zf Zr ZK Y9 Zl Zx ZE TX ZQ)
  (mc4:PySem.W.codeIn K TX "Web.tied"=true)
  (mk4:PySem.W.keepIn K (.ref i4)=true)
  (m5:PySem.W.findIn K (.ref C) "behind"=some (some (.ref i5)))
  (f5:PySem.W.isFn K (.ref i5)=true)
  (ml5:fg K "behind" "Web.behind" pb i5 Zg Zs ZL Za Zm Zy ZF TY ZR)
  (mc5:PySem.W.codeIn K TY "Web.behind"=true)
  (mk5:PySem.W.keepIn K (.ref i5)=true)
  (pgC:PySem.W.plainGet K C Str.empty=true)
  (DP:PySem.W.hasDictIn K C=true)
  (poC:PySem.W.plainOver K C=true)
  (saC:PySem.W.findIn K (.ref C) "__setattr__"=some (some (.builtin "object.__setattr__")))
  (mkC:PySem.W.makesIn K C=true)
  (kpC:PySem.W.keepIn K (.ref C)=true)
  (nR:PySem.W.findIn K (.ref C) "rows"=some none)
  (Xs:PySem.W.nsIn K mainGlobals "MOST_POINTS"=some (some (.int 14 QF)))
  (Wy:PySem.W.nsIn K mainGlobals "len"=some none)
  (MV:PySem.W.nsIn K mainGlobals "range"=some none)
  (Wz:PySem.W.nsIn K mainGlobals "max"=some none)
  (WA:PySem.W.nsIn K mainGlobals "min"=some none)
  (CU:PySem.W.nsIn K mainGlobals "enumerate"=some none)
  (WE:PySem.W.nsIn K mainGlobals "zip"=some none)
  (K3:PySem.W.nsIn K mainGlobals "sorted"=some none)
  (Ww:PySem.W.nsIn K mainGlobals "all"=some none)
  (A3:PySem.W.nsIn K mainGlobals "isinstance"=some none)
  (Wx:PySem.W.nsIn K mainGlobals "int"=some none)
  (QJ:PySem.W.nsIn K mainGlobals "bool"=some none)
  (QK:PySem.W.nsIn K mainGlobals "list"=some none)
  (MW:PySem.W.nsIn K mainGlobals "tuple"=some none)
  (WC:PySem.W.nsIn K mainGlobals "sum"=some none)
  (E9:PySem.W.nsIn K mainGlobals "reversed"=some none)
  (WB:PySem.W.nsIn K mainGlobals "set"=some none)
  :∃fd:FuncData,(∀(s:Shared)(v:Value),BindsTo s fd ⟨[v],[]⟩ [("_law_script",v)])∧∀base:Heap,K.In base→base.Ns mainGlobals mg→FnOk l.prog w K mg base di 40 fa fd ["_law_script"] (L2.rj K):=by
 have e:=Yx.symm.trans (PySem.W.mg_of X G QS);cases e;have E0:=qB (st:=eH) ml0 mc0 mk0;have e0:=E0.binds (ps:= ["self","turns"]) (λ_ _ _ _ _ _ _ hl=>by obtain ⟨_,_,rfl⟩:=L2.oW hl;rfl)
 let Z:DC:=⟨K,C⟩
 let T:Txt Z mg:=⟨⟨PySem.W.mg_none_of X G Wy,PySem.W.mg_none_of X G MV,PySem.W.mg_none_of X G Wz,PySem.W.mg_none_of X G WA,PySem.W.mg_none_of X G CU,PySem.W.mg_none_of X G WE,PySem.W.mg_none_of X G K3,PySem.W.mg_none_of X G Ww,PySem.W.mg_none_of X G A3,PySem.W.mg_none_of X G Wx,PySem.W.mg_none_of X G QJ,PySem.W.mg_none_of X G QK,PySem.W.mg_none_of X G MW,PySem.W.mg_none_of X G WC,PySem.W.mg_none_of X G E9⟩,PySem.W.mg_none_of X G WB, .of X G a0 l0 c0 k0 (λ_ _ _ _ _ _ _ hl=>by obtain ⟨_,_,rfl⟩:=L2.oW hl;rfl), .of X G a1 l1 c1 k1 (λ_ _ _ _ _ _ _ hl=>by obtain ⟨_,rfl⟩:=L2.iE hl;rfl), .of X G a2 l2 c2 k2 (λ_ _ _ _ _ _ _ hl=>by obtain ⟨_,rfl⟩:=L2.iE hl;rfl), .of X G a3 l3 c3 k3 (λ_ _ _ _ _ _ _ hl=>by obtain ⟨_,rfl⟩:=L2.iE hl;rfl), .of X G a4 l4 c4 k4 (λ_ _ _ _ _ _ _ hl=>by obtain ⟨_,rfl⟩:=L2.iE hl;rfl), .of X G a5 l5 c5 k5 (λ_ _ _ _ _ _ _ hl=>by obtain ⟨_,rfl⟩:=L2.iE hl;rfl), .of X G a6 l6 c6 k6 (λ_ _ _ _ _ _ _ hl=>by obtain ⟨_,rfl⟩:=L2.iE hl;rfl), .of X G a7 l7 c7 k7 (λ_ _ _ _ _ _ _ hl=>by obtain ⟨_,rfl⟩:=L2.iE hl;rfl), .of X G a8 l8 c8 k8 (λ_ _ _ _ _ _ _ hl=>by obtain ⟨_,_,rfl⟩:=L2.oW hl;rfl), .of X G a9 l9 c9 k9 (λ_ _ _ _ _ _ _ hl=>by obtain ⟨_,_,_,rfl⟩:=L2.qK hl;rfl), .of X G WI l10 Xb ZT (λ_ _ _ _ _ _ _ hl=>by obtain ⟨_,_,rfl⟩:=L2.oW hl;rfl), .of X G WJ l11 Xc ZU (λ_ _ _ _ _ _ _ hl=>by obtain ⟨_,_,rfl⟩:=L2.oW hl;rfl), .of X G WK l12 Xd ZV (λ_ _ _ _ _ _ _ hl=>by obtain ⟨_,_,rfl⟩:=L2.oW hl;rfl), .of X G WL l13 Xe ZW (λ_ _ _ _ _ _ _ hl=>by obtain ⟨_,rfl⟩:=L2.iE hl;rfl), .of X G WM l14 Xf ZX (λ_ _ _ _ _ _ _ hl=>by obtain ⟨_,rfl⟩:=L2.iE hl;rfl), .of X G WN l15 Xg ZY (λ_ _ _ _ _ _ _ hl=>by obtain ⟨_,_,_,rfl⟩:=L2.qK hl;rfl), .of X G WO l16 Xh ZZ (λ_ _ _ _ _ _ _ hl=>by obtain ⟨_,rfl⟩:=L2.iE hl;rfl), .of X G WQ l17 Xi Z0 (λ_ _ _ _ _ _ _ hl=>by obtain ⟨_,rfl⟩:=L2.iE hl;rfl), .of X G WR l18 Xj Z1 (λ_ _ _ _ _ _ _ hl=>by obtain ⟨_,_,_,rfl⟩:=L2.qK hl;rfl), .of X G WS l19 Xk Z2 (λ_ _ _ _ _ _ _ hl=>by obtain ⟨_,_,rfl⟩:=L2.oW hl;rfl), .of X G WT l20 Xl Z3 (λ_ _ _ _ _ _ _ hl=>by obtain ⟨_,_,_,rfl⟩:=L2.qK hl;rfl), .of X G WU l21 Xm Z4 (λ_ _ _ _ _ _ _ hl=>by obtain ⟨_,_,_,rfl⟩:=L2.qK hl;rfl), .of X G WV l22 Xn Z5 (λ_ _ _ _ _ _ _ hl=>by obtain ⟨_,_,_,rfl⟩:=L2.qK hl;rfl), .of X G WW l23 Xo Z6 (λ_ _ _ _ _ _ _ hl=>by obtain ⟨_,_,rfl⟩:=L2.oW hl;rfl), .of X G WX l24 Xp Z7 (λ_ _ _ _ _ _ _ hl=>by obtain ⟨_,_,rfl⟩:=L2.oW hl;rfl), .of X G WY l25 Xq Z8 (λ_ _ _ _ _ _ _ hl=>by obtain ⟨_,_,_,rfl⟩:=L2.qK hl;rfl), .of X G QS l26 Xr Z9 (λ_ _ _ _ _ _ _ hl=>by obtain ⟨_,rfl⟩:=L2.iE hl;rfl),⟨⟨pgC,DP,poC,saC⟩,nR⟩,PySem.W.mg_of X G gC,i0,_,E0,⟨mkC,m0,f0,kpC⟩,e0, .of m1 f1 ml1 mc1 mk1 (λ_ _ _ _ _ _ _ hl=>by obtain ⟨_,rfl⟩:=L2.iE hl;rfl), .of m2 f2 ml2 mc2 mk2 (λ_ _ _ _ _ _ _ hl=>by obtain ⟨_,rfl⟩:=L2.iE hl;rfl), .of m3 f3 ml3 mc3 mk3 (λ_ _ _ _ _ _ _ hl=>by obtain ⟨_,rfl⟩:=L2.iE hl;rfl), .of m4 f4 ml4 mc4 mk4 (λ_ _ _ _ _ _ _ hl=>by obtain ⟨_,_,_,rfl⟩:=L2.qK hl;rfl), .of m5 f5 ml5 mc5 mk5 (λ_ _ _ _ _ _ _ hl=>by obtain ⟨_,_,_,rfl⟩:=L2.qK hl;rfl),⟨QF,PySem.W.mg_of X G Xs⟩⟩
 exact ⟨_,λs v=> .of_eq rfl,λbase _ _=>(((Ma (P:=l.prog) (w:=w) (base:=base) T).mono (by decide)).imp (L2.LW (Z:=Z)))⟩
theorem walk{l:PySem.W.OpenLaw}{q:Program}{loose:List Str}{XP:(Str→Option Value)→Heap→Prop}{YP:World→Heap→Prop}{d:DefRec}{K:Params→PySem.W.Frag}(hn:l.most=some 63)(DQ:d.params.defaults= [])
  (hY:∀(w:World)(h:Heap),YP w h→(K w.params).In h)
  (F:∀(w:World)(mg:Str→Option Value)(fa:Addr)(h:Heap),(K w.params).In h→h.Ns mainGlobals mg→mg d.name=some (.ref fa)→
   ∃fd:FuncData,(∀(s:Shared)(u:Value),BindsTo s fd ⟨[u],[]⟩ [("_law_script",u)])∧∀base:Heap,(K w.params).In base→base.Ns mainGlobals mg→FnOk l.prog w (K w.params) mg base di 40 fa fd ["_law_script"] (rj (K w.params))):
  PySem.W.WalkO q loose XP YP l.row.toRowW d [] (λf vs=>PySem.call f vs):=L2.QH 40 (by decide) hn DQ hY F
end rK
def PySem.W.Fast.yG:Nat:=0
def PySem.W.Fast.yy:Nat:=0
def PySem.W.Fast.yY:Nat:=0
def PySem.W.Fast.yR:Nat:=0
def PySem.W.Fast.Ak:Nat:=0
def PySem.W.Fast.Av:Nat:=0
def PySem.W.Fast.Bf:Nat:=0
def PySem.W.Fast.yC:Nat:=0
def PySem.W.Fast.yF:Nat:=0
def PySem.W.Fast.AH:Nat:=0
def PySem.W.Fast.yZ:Nat:=0
def PySem.W.Fast.yT:Nat:=0
def PySem.W.Fast.Aq:Nat:=0
def PySem.W.Fast.Au:Nat:=0
def PySem.W.Fast.yO:Nat:=0
def PySem.W.Fast.AQ:Nat:=0
def PySem.W.Fast.Am:Nat:=0
def PySem.W.Fast.AO:Nat:=0
def PySem.W.Fast.Bg:Nat:=0
def PySem.W.Fast.AR:Nat:=0
def PySem.W.Fast.yW:Nat:=0
def PySem.W.Fast.yV:Nat:=0
def PySem.W.Fast.yJ:Nat:=0
def PySem.W.Fast.AL:Nat:=0
def PySem.W.Fast.yD:Nat:=0
def PySem.W.Fast.yX:Nat:=0
def PySem.W.Fast.AK:Nat:=0
def PySem.W.Fast.AI:Nat:=0
def PySem.W.Fast.yP:Nat:=0
def PySem.W.Fast.AS:Nat:=0
def PySem.W.Fast.yr:Nat:=0
def PySem.W.Fast.y1:Nat:=0
def PySem.W.Fast.AE:Nat:=0
def PySem.W.Fast.AJ:Nat:=0
def PySem.W.Fast.AM:Nat:=0
def PySem.W.Fast.AB:Nat:=0
def PySem.W.Fast.AN:Nat:=0
def PySem.W.Fast.yw:Nat:=0
def PySem.W.Fast.Az:Nat:=0
def PySem.W.Fast.yB:Nat:=0
def PySem.W.Fast.Ao:Nat:=0
def PySem.W.Fast.yz:Nat:=0
def PySem.W.Fast.yN:Nat:=0
def PySem.W.Fast.yQ:Nat:=0
def PySem.W.Fast.yA:Nat:=0
def PySem.W.Fast.yE:Nat:=0
def PySem.W.Fast.AG:Nat:=0
def PySem.W.Fast.Bh:Nat:=0
def PySem.W.Fast.Ax:Nat:=0
def PySem.W.Fast.Ap:Nat:=0
def PySem.W.Fast.y2:Nat:=0
def PySem.W.Fast.CO:Nat:=0
def PySem.W.Fast.yI:Nat:=0
def PySem.W.Fast.An:Nat:=0
def PySem.W.Fast.AF:Nat:=0
def PySem.W.Fast.yx:Nat:=0
def PySem.W.Fast.yS:Nat:=0
def PySem.W.Fast.Be:Nat:=0
def PySem.W.Fast.AD:Nat:=0
def PySem.W.Fast.Aw:Nat:=0
def PySem.W.Fast.As:Nat:=0
def PySem.W.Fast.yL:Nat:=0
def PySem.W.Fast.Al:Nat:=0
def PySem.W.Fast.yq:Nat:=0
def PySem.W.Fast.yu:Nat:=0
def PySem.W.Fast.yK:Nat:=0
def PySem.W.Fast.yH:Nat:=0
def PySem.W.Fast.yM:Nat:=0
def PySem.W.Fast.yt:Nat:=0
def PySem.W.Fast.yU:Nat:=0
def PySem.W.Fast.yp:Nat:=0
def PySem.W.Fast.Ay:Nat:=0
def PySem.W.Fast.Ar:Nat:=0
open PySem PySem.W PyProof.Rows
set_option maxRecDepth 100000 in
set_option maxHeartbeats 0 in
theorem PySem.Challenge.cw_mapdye_k35_whole_counts_and_turned_rings_holds : PySem.Challenge.rw_mapdye_k35_whole_counts_and_turned_rings.Holds := by
 w_on;o_law;k_head;(case hw=>w_witness2)
 k_fill
 refine rK.walk (l:=PySem.Challenge.rw_mapdye_k35_whole_counts_and_turned_rings) rfl rfl (λw h Y=>PySem.W.kIn_of Y) ?F
 case F=>
  intro w mg fa h KX G DU
  refine' rK.all_mk KX G DU ?_ ?_ ?_ ?_ ?_ ?_ ?_ ?_ ?_ ?_ ?_ ?_ ?_ ?_ ?_ ?_ ?_ ?_ ?_ ?_ ?_ ?_ ?_ ?_ ?_ ?_ ?_ ?_ ?_ ?_ ?_ ?_ ?_ ?_ ?_ ?_ ?_ ?_ ?_ ?_ ?_ ?_ ?_ ?_ ?_ ?_ ?_ ?_ ?_ ?_ ?_ ?_ ?_ ?_ ?_ ?_ ?_ ?_ ?_ ?_ ?_ ?_ ?_ ?_ ?_ ?_ ?_ ?_ ?_ ?_ ?_ ?_ ?_ ?_ ?_ ?_ ?_ ?_ ?_ ?_ ?_ ?_ ?_ ?_ ?_ ?_ ?_ ?_ ?_ ?_ ?_ ?_ ?_ ?_ ?_ ?_ ?_ ?_ ?_ ?_ ?_ ?_ ?_ ?_ ?_ ?_ ?_ ?_ ?_ ?_ ?_ ?_ ?_ ?_ ?_ ?_ ?_ ?_ ?_ ?_ ?_ ?_ ?_ ?_ ?_ ?_ ?_ ?_ ?_ ?_ ?_ ?_ ?_ ?_ ?_ ?_ ?_ ?_ ?_ ?_ ?_ ?_ ?_ ?_ ?_ ?_ ?_ ?_ ?_ ?_ ?_ ?_ ?_ ?_ ?_ ?_ ?_ ?_ ?_ ?_ ?_ ?_ ?_
  all_goals (try (show _=_;k_is))
