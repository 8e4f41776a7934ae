import PyProof.Rows.All
import Wide.All
import OpenK.AllK
import Wide.FinOn
import Lean
import PyProof.EqAt
import PyProof.EqKinds
import PyProof.TupleCall
import KE.KSortTup
import PyProof.NeKinds
import PyProof.SetKind
import PyProof.SetRoads
import PyProof.SetNew
import PyProof.WalksS
import PyProof.CollectWalk
import PyProof.TupleKey
import PyProof.IsRules
import PyProof.InstEq
import KE.KRevIter
import PyProof.FitsBits
import PyProof.P3Eq
import PyProof.ListRange
import PyProof.MeetsSeq
import PyProof.DictRoadsH
import PyProof.DictTruth
import PyProof.MinMaxWalk
import PyProof.StrLawsTight
import PySem.Challenge.RW_mapdye_k16_written_and_read
set_option Elab.async false
set_option linter.all false
set_option maxRecDepth 100000
abbrev aN:= @List.length_map
abbrev cF:= @List.getElem?_eq_some_iff
abbrev dh:= @List.getElem?_eq_getElem
abbrev cA:= @List.mem_cons_of_mem
abbrev cC:= @List.mem_cons_self
abbrev aV:= @Nat.le_refl
abbrev dD:= @List.mem_of_getElem?
abbrev cw:= @List.mem_append
abbrev dS:= @List.length_append
abbrev eE:= @List.mem_singleton
abbrev bW:= @List.getElem?_map
abbrev cu:= @Array.length_toList
abbrev eS:= @List.getD_eq_getElem?_getD
abbrev cY:= @List.mem_append_right
abbrev cn:= @List.size_toArray
abbrev bz:= @List.mem_map
abbrev cp:= @List.length_cons
abbrev cJ:= @List.nodup_append
abbrev cZ:= @Bool.false_ne_true
abbrev bV:= @List.mem_cons
abbrev eU:= @Array.getElem?_toList
abbrev gf:= @List.getElem?_eq_none
abbrev dP:= @List.map_append
abbrev gh:= @List.mem_append_left
abbrev jt:= @List.getElem?_append_right
abbrev cK:= @List.map_map
abbrev gk:= @Array.toList_append
abbrev fN:= @Bool.false_eq_true
abbrev gL:= @List.getElem?_of_mem
abbrev jK:= @List.getElem?_append_left
abbrev di:= @Nat.ne_of_lt
abbrev cS:= @Nat.zero_le
abbrev fz:= @List.nodup_cons
abbrev gO:= @Nat.lt_of_lt_of_le
abbrev gm:= @List.length_set
abbrev kq:= @List.take_append_drop
abbrev iG:= @List.length_range
abbrev iH:= @List.pairwise_map
abbrev iI:= @List.length_take
abbrev iJ:= @List.length_drop
abbrev gP:= @List.mem_range
abbrev gI:= @List.map_cons
abbrev mY:= @List.getElem?_set_self
abbrev mZ:= @List.take_of_length_le
abbrev iK:= @List.append_nil
abbrev jL:= @Int.toNat_natCast
abbrev qP:= @List.perm_ext_iff_of_nodup
abbrev qQ:= @List.drop_eq_getElem_cons
abbrev qR:= @List.idxOf_lt_length_iff
abbrev qS:= @List.getElem?_cons_succ
abbrev qT:= @Int.eq_ofNat_of_zero_le
abbrev m6:= @Nat.lt_of_le_of_lt
abbrev lI:= @Nat.le_of_not_lt
abbrev m7:= @List.append_assoc
abbrev m8:= @List.flatten_cons
abbrev kr:= @List.nodup_nil
abbrev wu:= @List.pairwise_iff_getElem
abbrev oJ:= @List.ext_getElem?
abbrev tw:= @List.length_replicate
abbrev oK:= @List.getElem_mem
abbrev tx:= @List.getElem?_set_ne
abbrev ku:= @Nat.le_trans
abbrev yt:= @List.nodup_iff_pairwise_ne
abbrev wx:= @List.drop_of_length_le
abbrev wy:= @List.drop_eq_nil_of_le
abbrev qU:= @List.getElem?_set
abbrev tD:= @List.getElem?_range
abbrev yu:= @Array.getElem?_eq_getElem
abbrev qV:= @List.lookup_cons
abbrev tF:= @List.getElem_idxOf
abbrev qW:= @List.mem_flatten
abbrev kv:= @Nat.le_succ
abbrev m9:= @Nat.lt_irrefl
abbrev tG:= @Bool.eq_false_iff
abbrev BH:= @Array.getD_eq_getD_getElem?
abbrev wz:= @List.reverse_append
abbrev ng:= @Nat.zero_add
abbrev BI:= @Array.getElem?_eq_some_iff
abbrev tH:= @List.mem_reverse
abbrev wB:= @List.getElem?_drop
abbrev wC:= @List.perm_append_comm
abbrev tI:= @List.nil_append
abbrev tJ:= @List.length_nil
abbrev BJ:= @List.getElem?_take_of_lt
abbrev BK:= @List.set_eq_of_length_le
abbrev BL:= @List.getElem?_replicate
abbrev yv:= @List.flatten_append
abbrev wD:= @Nat.mod_eq_of_lt
abbrev BM:= @List.length_pos_of_mem
abbrev qX:= @Nat.sub_self
abbrev yw:= @Array.size_extract
abbrev E6:= @Array.perm_iff_toList_perm
abbrev yx:= @List.flatMap_cons
abbrev yy:= @Array.toList_push
abbrev BN:= @Array.toList_reverse
abbrev BO:= @List.pairwise_append
abbrev yz:= @Bool.and_eq_true
abbrev BP:= @List.length_pos_iff
abbrev E7:= @List.getD_cons_succ
abbrev E8:= @List.map_congr_left
abbrev D9:= @List.mem_or_eq_of_mem_set
abbrev wj:= @List.mem_filter
abbrev zX:= @List.getElem?_take
abbrev wk:= @List.drop_drop
abbrev wo:= @List.take_zero
abbrev wq:= @Nat.mul_le_mul
namespace L2
open PySem PySem.Spec PyProof.Rows
abbrev Key:=Sum Int Str
def Jm:Key→Value→Bool
 | .inl k,v=>Value.isInt k v
 | .inr x,v=>Value.isStrOf x v
def VL(w:World):Key→Int
 | .inl k=>hashInt k
 | .inr x=>hashStr w x
theorem cE:∀{k:Key}{v:Value},Jm k v=true→(∃i t,k=Sum.inl i∧v=Value.int i t)∨(∃x t,k=Sum.inr x∧v=Value.str x t)
 | .inl i,v,h=>by
  obtain ⟨t,e⟩:=Value.isInt_shape (k:=i) (v:=v) h;exact .inl ⟨i,t,rfl,e⟩
 | .inr x,v,h=>by
  obtain ⟨t,e⟩:=Value.isStrOf_shape (x:=x) (v:=v) h;exact .inr ⟨x,t,rfl,e⟩
theorem LK(a b:Int):decide ((Sum.inl a:Key)=Sum.inl b)=(a==b):=by
 by_cases e:a=b
 ·subst e;simp
 ·have h:¬(Sum.inl a:Key)=Sum.inl b:=λq=>e (Sum.inl.inj q)
  rw [decide_eq_false h];exact (beq_eq_false_iff_ne.mpr e).symm
theorem LO(a b:Str):decide ((Sum.inr a:Key)=Sum.inr b)=decide (a=b):=by
 by_cases e:a=b
 ·subst e;simp
 ·have h:¬(Sum.inr a:Key)=Sum.inr b:=λq=>e (Sum.inr.inj q)
  rw [decide_eq_false h,decide_eq_false e]
theorem LL(a:Int)(b:Str):decide ((Sum.inl a:Key)=Sum.inr b)=false:=decide_eq_false (λq=>nomatch q)
theorem LN(a:Str)(b:Int):decide ((Sum.inr a:Key)=Sum.inl b)=false:=decide_eq_false (λq=>nomatch q)
def vi(prog:Program)(w:World):PySem.KeyKind prog w Key where
 is:=Jm
 hash:=VL w
 inj:=λv a b ha hb=>by
  rcases cE ha with ⟨i,t,rfl,rfl⟩ | ⟨x,t,rfl,rfl⟩
  ·rcases cE hb with ⟨j,u,rfl,e⟩ | ⟨y,u,rfl,e⟩
   ·injection e with e1 _;rw [e1]
   ·exact nomatch e
  ·rcases cE hb with ⟨j,u,rfl,e⟩ | ⟨y,u,rfl,e⟩
   ·exact nomatch e
   ·injection e with e1 _;rw [e1]
 byValue:=λk v h=>by
  rcases cE h with ⟨i,t,rfl,rfl⟩ | ⟨x,t,rfl,rfl⟩<;>rfl
 pyHash:=λhv h=>by
  rcases cE hv with ⟨i,t,rfl,rfl⟩ | ⟨x,t,rfl,rfl⟩
  ·exact wpAny_pyHash_int h
  ·exact wpAny_pyHash_str h
 eqBool:=λhu hv h=>by
  rcases cE hu with ⟨i,t,rfl,rfl⟩ | ⟨x,t,rfl,rfl⟩
  ·rcases cE hv with ⟨j,u,rfl,rfl⟩ | ⟨y,u,rfl,rfl⟩
   ·rw [LK] at h;exact wpAny_eqBool_int h
   ·rw [LL] at h;exact SeqAt.EqAt.int_str i t y u _ _ _ _ h
  ·rcases cE hv with ⟨j,u,rfl,rfl⟩ | ⟨y,u,rfl,rfl⟩
   ·rw [LN] at h;exact SeqAt.EqAt.str_int x t j u _ _ _ _ h
   ·rw [LO] at h;exact wpAny_eqBool_str h
 «strs»:=λk x t v h=>by
  rcases cE h with ⟨i,u,rfl,e⟩ | ⟨y,u,rfl,e⟩
  ·exact nomatch e
  ·injection e with e1 _
   subst e1;cases v<;>rfl
inductive V where
 |aM|bl (b:Bool) |int (i:Int) |str (x:Str) |tM (b:Array UInt8) |Cn (b:UInt64) |ref (a:Addr) |ty (n:String)
 deriving DecidableEq
def RelV:V→Value→Prop
 | .aM,u=>u=Value.none
 | .bl b,u=>u=Value.bool b
 | .int i,u=>∃t,u=Value.int i t
 | .str x,u=>∃t,u=Value.str x t
 | .tM b,u=>∃t,u=Value.bytes b t
 | .Cn b,u=>∃t,u=Value.float b t
 | .ref a,u=>u=Value.ref a
 | .ty n,u=>u=Value.type n
abbrev Vals:List V→List Value→Prop:=Paired RelV
theorem Vals.length{xs:List V}{us:List Value}(r:Vals xs us):xs.length=us.length:=Paired.length r
theorem Vals.get:∀{xs:List V}{us:List Value}{i:Nat}{x:V},Vals xs us→xs[i]? =some x→∃u,us[i]? =some u∧RelV x u
 |_,_,_,_, .nil,e=>by simp at e
 |_,_,0,_, .cons r _,e=>by simp at e;subst e;exact ⟨_,rfl,r⟩
 |_,_,i+1,x, .cons _ t,e=>by
  obtain ⟨u,h1,h2⟩:=Vals.get (i:=i) (x:=x) t (by simpa using e)
  exact ⟨u,by simpa using h1,h2⟩
theorem Vals.set{x:V}{u:Value}(r:RelV x u):∀{xs:List V}{us:List Value}(i:Nat),Vals xs us→Vals (xs.set i x) (us.set i u)
 |_,_,_, .nil=> .nil
 |_,_,0, .cons _ t=> .cons r t
 |_,_,i+1, .cons q t=> .cons q (Vals.set r i t)
theorem Vals.append:∀{xs ys:List V}{us ws:List Value},Vals xs us→Vals ys ws→Vals (xs++ys) (us++ws)
 |_,_,_,_, .nil,s=>s
 |_,_,_,_, .cons r t,s=> .cons r (Vals.append t s)
theorem Vals.take:∀{xs:List V}{us:List Value}(n:Nat),Vals xs us→Vals (xs.take n) (us.take n)
 |_,_,0,_=> .nil
 |_,_,_+1, .nil=> .nil
 |_,_,n+1, .cons r t=> .cons r (Vals.take n t)
theorem Vals.drop:∀{xs:List V}{us:List Value}(n:Nat),Vals xs us→Vals (xs.drop n) (us.drop n)
 |_,_,0,r=>r
 |_,_,_+1, .nil=> .nil
 |_,_,n+1, .cons _ t=>Vals.drop n t
def oe:Option V→Option Value→Prop
 |some v,some u=>RelV v u
 |none,none=>True
 |_,_=>False
def KV{κ:Type}:List (κ×V)→List (κ×Value)→Prop:=Paired λ(p:κ×V)(q:κ×Value)=>p.1=q.1∧RelV p.2 q.2
def kV:Key→V
 | .inl i=> .int i
 | .inr x=> .str x
inductive HO where
 |lst (xs:List V)
 |tup (xs:List V)
 |dK (eD:List (Key×V)) |dT (eD:List (List Key×V))
 |set (S:Int→Bool) (n:Nat)
 |ins (C dx:Addr) (fs:List (Str×V))
 |own (x:Addr)
 |xd (fs:List (Str×V))
 |met (f x:Addr)
 |rng (lo hi:Int)
 |p9 (o:Obj) (u:HO)
 |DU (ps:Array Value)
 |ext (φ:Heap→Prop)
abbrev Hp:=Addr→Option HO
def upd(H:Hp)(a:Addr)(o:HO):Hp:=λb=>if b=a then some o else H b
theorem aa{H:Hp}{a:Addr}{o:HO}:upd H a o a=some o:=by unfold upd;rw [if_pos rfl]
theorem ab{H:Hp}{a b:Addr}{o:HO}(h:b≠a):upd H a o b=H b:=by unfold upd;rw [if_neg h]
theorem qM{H:Hp}{a:Addr}{o u:HO}:upd (upd H a o) a u=upd H a u:=by
 funext b;unfold upd;split<;>rfl
theorem ah{H:Hp}{a b:Addr}{o:HO}(h:H a=some o)(h':H b=none):a≠b:=by
 intro e;subst e;rw [h] at h';cases h'
section
variable (P:Program) (w:World)
def cL(H:Hp)(h:Heap)(a:Addr):HO→Prop
 | .lst xs=>xs.length≤sizeLine∧∃(its:List Value)(n:Nat),Vals xs its∧h.get? a=some {cls:= .type "list",data:= .seq its.toArray n}
 | .tup xs=>xs.length≤sizeLine∧∃its:List Value,Vals xs its∧IsTup h a its.toArray
 | .dK eD=>eD.length≤sizeLine∧(a==sysModules)=false∧∃vs,KV eD vs∧h.DictOf (vi P w) a vs
 | .dT eD=>eD.length≤sizeLine∧(a==sysModules)=false∧∃xs:List (List Key×Addr×Value),
   Paired (λ(p:List Key×V)(q:List Key×Addr×Value)=>p.1=q.1∧H q.2.1=some (.tup (p.1.map kV))∧RelV p.2 q.2.2) eD xs∧
   ∃o es ep,h.get? a=some o∧o.ExactDict∧o.data= .dict es ep∧es.toList=xs.map (entryOfKey (tupleKind (vi P w)))∧(xs.map (·.1)).Nodup
 | .set S n=>h.SetOf (intKind P w) a S n
 | .ins C dx fs=>H dx=some (.own a)∧fs.length≤1000∧dx≠a∧h.get? a=some (PySem.W.instObj C dx)∧
   ∃mA,h.Ns1 dx mA∧(∀f,oe (fs.lookup f) (mA f))∧PySem.Within mA (fs.map (·.1))
 | .own _=>∃o,h.get? a=some o
 | .xd fs=>∃mA,h.Ns1 a mA∧∀f,oe (fs.lookup f) (mA f)
 | .rng lo hi=>∃t u v,h.get? a=some {cls:= .type "range",data:= .fields #[.int lo t, .int hi u, .int 1 v]}
 | .p9 o u=>h.get? a=some o∧cL H h a u
 | .DU ps=>h.get? a=some {cls:= .none,data:= .fields ps}
 | .met f x=>h.get? a=some (PySem.W.methodObj (.ref f) (.ref x))
 | .ext φ=>φ h∧(∃o,h.get? a=some o)∧∀h1 h2:Heap,φ h1→(∀o,h1.get? a=some o→h2.get? a=some o)→φ h2
def iL(H:Hp)(h:Heap):Prop:=∀a o,H a=some o→cL P w H h a o
end
section
variable {P:Program} {w:World} {H H':Hp} {h h':Heap} {a:Addr} {o:HO}
theorem cL.lt(x:cL P w H h a o):a<h.objs.size:=by
 cases o with
 |lst xs=>obtain ⟨_,_,_,_,e⟩:=x;exact Heap.lt_size e
 |tup xs=>obtain ⟨_,_,_,p⟩:=x;exact p.lt
 |dK eD=>obtain ⟨_,_,_,_,o,_,_,e,_⟩:=x;exact Heap.lt_size e
 |dT eD=>obtain ⟨_,_,_,_,o,_,_,e,_⟩:=x;exact Heap.lt_size e
 |set S n=>obtain ⟨o,_,_,_,e,_⟩:=x;exact Heap.lt_size e
 |ins C dx fs=>obtain ⟨_,_,_,e,_⟩:=x;exact Heap.lt_size e
 |own y=>obtain ⟨_,e⟩:=x;exact Heap.lt_size e
 |xd fs=>obtain ⟨_,⟨_,_,_,e,_⟩,_⟩:=x;exact Heap.lt_size e
 |rng lo hi=>obtain ⟨_,_,_,e⟩:=x;exact Heap.lt_size e
 |p9 ob u=>obtain ⟨e,_⟩:=x;exact Heap.lt_size e
 |DU ps=>exact Heap.lt_size (show h.get? a=some _ from x)
 |met f y=>exact Heap.lt_size (show h.get? a=some _ from x)
 |ext φ=>obtain ⟨_,⟨_,e⟩,_⟩:=x;exact Heap.lt_size e
theorem Paired.N5{α β:Type}{F G:α→β→Prop}:∀{l₁:List α}{l₂:List β},Paired F l₁ l₂→(∀a b,F a b→G a b)→Paired G l₁ l₂
 |_,_, .nil,_=> .nil
 |_,_, .cons r t,f=> .cons (f _ _ r) (Paired.N5 t f)
theorem cL.td(x:cL P w H h a o)(k:∀b u,(b=a∨H b=some (.own a))→h.get? b=some u→h'.get? b=some u)
  (ho:∀b,H b=some (.own a)→H' b=some (.own a)) (ht:∀b xs,H b=some (.tup xs)→H' b=some (.tup xs)):cL P w H' h' a o:=by
 induction o with
 |lst xs=>obtain ⟨z,its,n,r,e⟩:=x;exact ⟨z,its,n,r,k _ _ (.inl rfl) e⟩
 |tup xs=>obtain ⟨z,its,r,ob,e,c⟩:=x;exact ⟨z,its,r,ob,k _ _ (.inl rfl) e,c⟩
 |dK eD=>obtain ⟨z,y,vs,r,ob,es,ep,e,c⟩:=x;exact ⟨z,y,vs,r,ob,es,ep,k _ _ (.inl rfl) e,c⟩
 |dT eD=>
  obtain ⟨z,y,xs,r,ob,es,ep,e,c⟩:=x;exact ⟨z,y,xs,Paired.N5 r λp q z=>⟨z.1,ht _ _ z.2.1,z.2.2⟩,ob,es,ep,k _ _ (.inl rfl) e,c⟩
 |set S n=>obtain ⟨ob,es,ep,t,e,c⟩:=x;exact ⟨ob,es,ep,t,k _ _ (.inl rfl) e,c⟩
 |ins C dx fs=>
  obtain ⟨d,z,ne,e,mA,⟨od,es,ep,e2,c⟩,r⟩:=x;exact ⟨ho _ d,z,ne,k _ _ (.inl rfl) e,mA,⟨od,es,ep,k _ _ (.inr d) e2,c⟩,r⟩
 |own y=>obtain ⟨ob,e⟩:=x;exact ⟨ob,k _ _ (.inl rfl) e⟩
 |xd fs=>obtain ⟨mA,⟨od,es,ep,e,c⟩,r⟩:=x;exact ⟨mA,⟨od,es,ep,k _ _ (.inl rfl) e,c⟩,r⟩
 |rng lo hi=>obtain ⟨t,u,v,e⟩:=x;exact ⟨t,u,v,k _ _ (.inl rfl) e⟩
 |p9 ob u ih=>obtain ⟨e,q⟩:=x;exact ⟨k _ _ (.inl rfl) e,ih q⟩
 |DU ps=>
  have e:h.get? a=some {cls:= .none,data:= .fields ps}:=x;show h'.get? a=some {cls:= .none,data:= .fields ps};exact k a _ (.inl rfl) e
 |met f y=>
  have e:h.get? a=some (PySem.W.methodObj (.ref f) (.ref y)):=x;show h'.get? a=some (PySem.W.methodObj (.ref f) (.ref y));exact k a _ (.inl rfl) e
 |ext φ=>obtain ⟨p,⟨o,e⟩,st⟩:=x;exact ⟨st _ _ p λo q=>k _ _ (.inl rfl) q,⟨o,k _ _ (.inl rfl) e⟩,st⟩
theorem iL.lt(x:iL P w H h)(e:H a=some o):a<h.objs.size:=(x a o e).lt
theorem iL.fresh(x:iL P w H h)(e:h.objs.size≤a):H a=none:=by
 cases q:H a with
 |none=>rfl
 |some u=>exact absurd (gO (x.lt q) e) (m9 _)
theorem iL.kept(x:iL P w H h)(k:∀b u,h.get? b=some u→h'.get? b=some u):iL P w H h':=λa o e=>
 (x a o e).td (λb u _ q=>k b u q) (λ_ q=>q) λ_ _ q=>q
theorem iL.laid(x:iL P w H h)(k:∀b u,h.get? b=some u→h'.get? b=some u)(hp:h.objs.size≤a)(new:cL P w (upd H a o) h' a o):iL P w (upd H a o) h':=λb u e=>by
 have hn:=x.fresh hp
 by_cases hb:b=a
 ·subst hb;rw [aa] at e;cases e;exact new
 ·rw [ab hb] at e
  exact (x b u e).td (λc v _ q=>k c v q) (λc q=>by rw [ab (ah q hn)];exact q) λc xs q=>by rw [ab (ah q hn)];exact q
end
def Rd(H:Hp)(a:Addr)(u:HO):Prop:=H a=some u∨∃o,H a=some (.p9 o u)
theorem Rd.ok{P:Program}{w:World}{H:Hp}{h:Heap}{a:Addr}{u:HO}(r:Rd H a u)(x:iL P w H h):cL P w H h a u:=by
 rcases r with r| ⟨o,r⟩
 ·exact x a u r
 ·obtain ⟨_,q⟩:=x a _ r
  exact q
def KQ:Option HO→Prop
 |some (.lst _)=>True
 |some (.dK _)=>True
 |some (.dT _)=>True
 |some (.set _ _)=>True
 |some (.ins _ _ _)=>True
 |some (.ext _)=>True
 |_=>False
section
variable {P:Program} {w:World} {H:Hp} {h h':Heap} {x e:Addr} {o':HO}
theorem iL.write(ok:iL P w H h)(mu:KQ (H x))(he:e=x∨H e=some (.own x))(k:∀b u,b≠e→h.get? b=some u→h'.get? b=some u)(FT:∃u,h'.get? e=some u)
  (new:cL P w (upd H x o') h' x o'):iL P w (upd H x o') h':=λb u q=>by
 have Oh:∀c y,H c=some (.own y)→c≠x:=λc y r z=>by subst z;rw [r] at mu;exact mu
 have Wd:∀c xs,H c=some (.tup xs)→c≠x:=λc xs r z=>by subst z;rw [r] at mu;exact mu
 by_cases hb:b=x
 ·subst hb;rw [aa] at q;cases q;exact new
 ·rw [ab hb] at q
  by_cases Cu:b=e
  ·have q':H b=some (.own x):=by
    rcases he with z|z
    ·exact absurd (Cu.trans z) hb
    ·rw [Cu];exact z
   rw [q] at q';cases q';obtain ⟨v,hv⟩:=FT;exact ⟨v,by rw [Cu];exact hv⟩
  ·refine (ok b u q).td (λc v hc r=>k c v ?_ r) (λc r=>by rw [ab (Oh c b r)];exact r) λc xs r=>by rw [ab (Wd c xs r)];exact r
   rcases hc with rfl|hc
   ·exact Cu
   ·rintro rfl
    rcases he with z|z
    ·exact Oh c b hc z
    ·rw [hc] at z;cases z;exact hb rfl
end
structure Un (fs ex:List Addr) (H H':Hp) (h h':Heap):Prop where
 keep:∀b o,h.get? b=some o→H b=none→b∉fs→b∉ex→h'.get? b=some o
 slot:∀b o,h.get? b=some o→H b=none→b∈fs→b∉ex→∃sl,h'.get? b=some {o with slots:=sl}
 free:∀b o,h.get? b=some o→H b=none→b∉ex→H' b=none
 there:∀b o,h.get? b=some o→b∉ex→∃o',h'.get? b=some o'
 tups:∀b xs,H b=some (.tup xs)→H' b=some (.tup xs)
 frzs:∀b o u,H b=some (.p9 o u)→H' b=some (.p9 o u)
 tbls:∀b ps,H b=some (.DU ps)→∃more,H' b=some (.DU (ps++more))
section
variable {fs Py ex n5:List Addr} {H H1 H2:Hp} {h h1 h2 h':Heap} {a x e:Addr} {o:HO}
theorem Un.any(u:Un fs ex H H1 h h1){b:Addr}{ob:Obj}(q:h.get? b=some ob)(n:H b=none)(hx:b∉ex):∃sl,h1.get? b=some {ob with slots:=sl}:=by
 by_cases hb:b∈fs
 ·exact u.slot b ob q n hb hx
 ·exact ⟨ob.slots,u.keep b ob q n hb hx⟩
theorem Un.kept(k:∀b u,h.get? b=some u→h'.get? b=some u):Un fs ex H H h h':=
 ⟨λb ob q _ _ _=>k b ob q,λb ob q _ _ _=>⟨ob.slots,k b ob q⟩,λ_ _ _ n _=>n,λb ob q _=>⟨ob,k b ob q⟩,λ_ _ q=>q,λ_ _ _ q=>q,λ_ ps q=>⟨#[],by rw [q];simp⟩⟩
theorem Un.refl:Un fs ex H H h h:=Un.kept λ_ _ q=>q
theorem Un.laid(k:∀b u,h.get? b=some u→h'.get? b=some u)(hp:h.objs.size≤a)(hn:H a=none):Un fs ex H (upd H a o) h h' where
 keep:=λb u q _ _ _=>k b u q
 slot:=λb u q _ _ _=>⟨u.slots,k b u q⟩
 free:=λb u q n _=>by rw [ab (di (gO (Heap.lt_size q) hp))];exact n
 there:=λb u q _=>⟨u,k b u q⟩
 tups:=λb xs q=>by rw [ab (ah q hn)];exact q
 frzs:=λb u xs q=>by rw [ab (ah q hn)];exact q
 tbls:=λb ps q=>⟨#[],by rw [ab (ah q hn),q];simp⟩
theorem Un.write(mu:KQ (H x))(he:e=x∨H e=some (.own x))(k:∀b u,b≠e→h.get? b=some u→h'.get? b=some u)(FT:∃u,h'.get? e=some u):Un fs ex H (upd H x o) h h':=by
 have hx:∀b,H b=none→b≠x:=λb n z=>by subst z;rw [n] at mu;exact mu
 have hb:∀b,H b=none→b≠e:=λb n z=>by
  subst z
  rcases he with r|r
  ·exact hx b n r
  ·rw [n] at r;cases r
 have hm:∀b u,H b=some u→¬KQ (some u)→b≠x:=λb u q nm z=>by subst z;rw [q] at mu;exact nm mu
 refine ⟨λb u q n _ _=>k b u (hb b n) q,λb u q n _ _=>⟨u.slots,k b u (hb b n) q⟩,λb u q n _=>by rw [ab (hx b n)];exact n,λb u q _=>?_,
  λb xs q=>by rw [ab (hm b _ q λz=>z)];exact q,λb u xs q=>by rw [ab (hm b _ q λz=>z)];exact q,λb ps q=>⟨#[],by rw [ab (hm b _ q λz=>z),q];simp⟩⟩
 by_cases Cu:b=e
 ·subst Cu;exact FT
 ·exact ⟨u,k b u Cu q⟩
end
def MX(h:Heap)(H:Hp):List Addr:=(List.range h.objs.size).filter λa=>(H a).isSome
def qd(h:Heap)(H:Hp):Heap:=PySem.W.hideAll h (MX h H)
theorem CA(h:Heap)(H:Hp):(qd h H).objs.size=h.objs.size:=PySem.W.hideAll_size _ _
theorem FU{h:Heap}{H:Hp}{b:Addr}{o:Obj}(e:h.get? b=some o)(n:H b=none):(qd h H).get? b=some o:=
 PySem.W.hideAll_get _ e λhm=>by
  have q:(H b).isSome=true:=(wj.mp hm).2;rw [n] at q;simp at q
theorem JL{h:Heap}{H:Hp}{b:Addr}{o:Obj}(e:(qd h H).get? b=some o):h.get? b=some o∧H b=none:=by
 have e':h.get? b=some o:=PySem.W.of_hideAll (MX h H) e;refine ⟨e',?_⟩;cases q:H b with
 |none=>rfl
 |some x=>
  have hm:b∈MX h H:=wj.mpr ⟨gP.mpr (Heap.lt_size e'),by simp [q]⟩
  have z:(qd h H).get? b=none:=PySem.W.hideAll_none (MX h H) hm;rw [z] at e;cases e
structure Mod (K:PySem.W.Frag) (mg:Str→Option Value) (base:Heap):Prop where
 kin:K.In base
 glob:base.Ns mainGlobals mg
 blt:∃mb,base.Ns builtinsNs mb∧∀x:Str,x≠"__name__"→mb x=bootBuiltins x
 nolimit:base.NoLimit
structure Cx where
 prog:Program
 w:World
 K:PySem.W.Frag
 mg:Str→Option Value
 base:Heap
 A:Around
 N:List Str
 s₀:Shared
 H₀:Hp
 env:Env
 outer:List Env
 stack:List Env
 ex:List Addr
 fn:Str→Bool
 calm:Bool
 pn:List (Addr×Obj)
 xe:Value→Shared→Prop
def uL(l:List Env):List Addr:=l.filterMap (·.frame)
abbrev Cx.fs(X:Cx):List Addr:=uL X.outer
def rf(sc:Scope)(x:Str):Prop:=sc.names.lookup x=some .local∨sc.names.lookup x=some .cell∨sc.names.lookup x=some .free
def Loc(sc:Scope)(x:Str):Prop:=sc.names.lookup x=some .local∨sc.names.lookup x=some .cell
def Look(env:Env)(h:Heap)(m:Str→Option Value)(x:Str)(u:Value):Prop:=
 (env.kindOf x=some .local∧m x=some u)∨((env.kindOf x=some .cell∨env.kindOf x=some .free)∧∃c,env.cells.lookup x=some c∧h.IsCell c (some u))
structure Cx.Ok (X:Cx):Prop where
 mod:Mod X.K X.mg X.base
 kind:X.env.scope.kind= .function
 glob:X.env.globals=mainGlobals
 blt:X.env.builtins=builtinsNs
 above:X.s₀.heap.objs.size≤X.env.locals
 inj:∀x y c,X.env.cells.lookup x=some c→X.env.cells.lookup y=some c→x=y
 has:∀x,(X.env.kindOf x=some .cell∨X.env.kindOf x=some .free)→∃c,X.env.cells.lookup x=some c
 cab:∀x c,X.fn x=true→X.env.cells.lookup x=some c→X.s₀.heap.objs.size≤c
 hd:X.calm=true→X.A.handled=none
 frames:X.A.frames=some X.stack
 stk:X.stack=X.outer∨(X.stack=X.env::X.outer∧X.env.frame=some X.env.locals)
 exf:∀b∈X.ex,b≠X.env.locals∧∀x c,X.env.cells.lookup x=some c→c≠b
 bs:∀b o,X.base.get? b=some o→X.s₀.heap.get? b=some o∧X.H₀ b=none
 bsz:X.base.objs.size≤X.s₀.heap.objs.size
 noex:∀b o,X.base.get? b=some o→b∉X.ex
 exfs:∀b∈X.ex,b∉X.fs
 funs:X.s₀.heap.FunFrames X.base X.outer
 frf:∀b∈X.fs,X.H₀ b=none
structure Inv (X:Cx) (pins:List (Addr×Obj)) (σ:List (Option V)) (H:Hp) (s:Shared):Prop where
 ok:X.Ok
 os:s.os=X.s₀.os
 bare:AllBare s.gens
 base:Un X.fs X.ex X.H₀ H X.s₀.heap s.heap
 loc:∃m,s.heap.Ns X.env.locals m∧∀(i:Nat)(x:Str)(v:V),X.N[i]? =some x→σ[i]? =some (some v)→rf X.env.scope x→∃u,RelV v u∧Look X.env s.heap m x u
 cell:∀x c,X.env.cells.lookup x=some c→∃v,s.heap.IsCell c v
 free:H X.env.locals=none
 freeC:∀x c,X.env.cells.lookup x=some c→H c=none
 pin:∀p∈X.pn++pins,s.heap.get? p.1=some p.2∧H p.1=none∧p.1≠X.env.locals∧p.1∉X.fs∧∀v,p.2.data≠ .cell v
 hok:iL X.prog X.w H s.heap
 len:σ.length=X.N.length
section
variable {X:Cx} {pins:List (Addr×Obj)} {σ:List (Option V)} {H H':Hp} {s:Shared} {h':Heap}
theorem Cx.Ok.Wa(ok:X.Ok){b:Addr}{o:Obj}(e:X.base.get? b=some o):b∉X.fs:=λhb=>by
 have:=(ok.funs.mem hb).1
 rw [e] at this;cases this
theorem Inv.bs(I:Inv X pins σ H s):∀b o,X.base.get? b=some o→s.heap.get? b=some o∧H b=none:=λb o e=>
 ⟨I.base.keep b o (I.ok.bs b o e).1 (I.ok.bs b o e).2 (I.ok.Wa e) (I.ok.noex b o e),I.base.free b o (I.ok.bs b o e).1 (I.ok.bs b o e).2 (I.ok.noex b o e)⟩
theorem Inv.bk(I:Inv X pins σ H s):∀b o,X.base.get? b=some o→s.heap.get? b=some o:=λb o e=>(I.bs b o e).1
theorem Inv.mod(I:Inv X pins σ H s):Mod X.K X.mg X.base:=I.ok.mod
theorem Inv.iy(I:Inv X pins σ H s):X.K.In s.heap:=I.ok.mod.kin.keeps I.bk
theorem Inv.lt(I:Inv X pins σ H s):X.env.locals<s.heap.objs.size:=let ⟨_,hn,_⟩:=I.loc;hn.lt
theorem Inv.sz(I:Inv X pins σ H s):X.s₀.heap.objs.size≤s.heap.objs.size:=ku I.ok.above (Nat.le_of_lt I.lt)
theorem Inv.Og(I:Inv X pins σ H s){a:Addr}(h:s.heap.objs.size≤a):a∉X.fs:=λhb=>by
 obtain ⟨_,o,ho,_⟩:=I.ok.funs.mem hb;exact absurd (gO (Heap.lt_size ho) (ku I.sz h)) (m9 _)
theorem Inv.B8(I:Inv X pins σ H s):∀x c,X.env.cells.lookup x=some c→c≠X.env.locals:=λx c e z=>by
 obtain ⟨v,o,ho,hd⟩:=I.cell x c e;obtain ⟨m,⟨o',es,ep,lO,j4,_⟩,_⟩:=I.loc;rw [z,lO] at ho;cases ho;rw [j4] at hd;cases hd
theorem Inv.funs(I:Inv X pins σ H s):s.heap.FunFrames X.base X.outer:=by
 have all:∀(l:List Env),(∀b∈uL l,b∈X.fs)→X.s₀.heap.FunFrames X.base l→s.heap.FunFrames X.base l:=by
  intro l
  induction l with
  |nil=>intro _ _;trivial
  |cons env r ih=>
   intro hs hl;obtain ⟨hk,⟨L,o,hf,hn,ho,hd⟩,hr⟩:=hl;have hL:L∈X.fs:=hs L (by unfold uL;rw [List.filterMap_cons,hf];exact cC)
   obtain ⟨sl,e⟩:=I.base.slot L o ho (I.ok.frf L hL) hL λz=>I.ok.exfs L z hL;exact ⟨hk,⟨L,_,hf,hn,e,hd⟩,ih (λb hb=>hs b (by unfold uL;rw [List.filterMap_cons,hf];exact cA _ hb)) hr⟩
 exact all X.outer (λ_ hb=>hb) I.ok.funs
theorem Inv.stack(I:Inv X pins σ H s):s.heap.FunFrames X.base X.stack:=by
 rcases I.ok.stk with e| ⟨e,hf⟩
 ·rw [e];exact I.funs
 ·rw [e]
  obtain ⟨m,hn,_⟩:=I.loc;refine .cons (by rw [I.ok.kind];decide) hf hn ?_ I.funs
  exact Heap.get?_none_of_le (ku I.ok.bsz I.ok.above)
theorem Inv.zK(I:Inv X pins σ H s):∀b∈uL X.stack,b∈X.env.locals::X.fs:=λb hb=>by
 rcases I.ok.stk with e| ⟨e,hf⟩
 ·rw [e] at hb;exact cA _ hb
 ·rw [e] at hb
  unfold uL at hb;rw [List.filterMap_cons,hf] at hb;exact hb
theorem Inv.Bx(I:Inv X pins σ H s):∀b∈uL X.stack,H b=none:=λb hb=>by
 rcases bV.mp (I.zK b hb) with e|hb
 ·rw [e];exact I.free
 ·obtain ⟨_,o,ho,_⟩:=I.ok.funs.mem hb
  exact I.base.free b o ho (I.ok.frf b hb) λz=>I.ok.exfs b z hb
theorem Inv.step{g':Array GenState}{t':Nat}{d':Drawn}{ch:List Addr}(I:Inv X pins σ H s)
  (wQ:∀b∈ch,(b∈X.ex∨X.s₀.heap.objs.size≤b)∧b≠X.env.locals∧(∀x c,X.env.cells.lookup x=some c→c≠b)∧∀p∈X.pn++pins,p.1≠b)
  (keep:∀b o,b≠X.env.locals→b∉X.fs→b∉ch→s.heap.get? b=some o→H b=none→h'.get? b=some o)
  (slot:∀b o,b≠X.env.locals→b∈X.fs→b∉ch→s.heap.get? b=some o→H b=none→∃sl,h'.get? b=some {o with slots:=sl}) (free:∀b o,b∉ch→s.heap.get? b=some o→H b=none→H' b=none)
  (there:∀b o,b∉ch→s.heap.get? b=some o→∃o',h'.get? b=some o')
  (tups:∀b xs,H b=some (.tup xs)→H' b=some (.tup xs)) (frzs:∀b o u,H b=some (.p9 o u)→H' b=some (.p9 o u)) (tbls:∀b ps,H b=some (.DU ps)→∃more,H' b=some (.DU (ps++more)))
  (ns:∀m,s.heap.Ns X.env.locals m→h'.Ns X.env.locals m) (hok:iL X.prog X.w H' h') (hg:AllBare g'):
  Inv X pins σ H' {s with heap:=h',gens:=g',drawn:=d',toks:=t'}:=by
 have V5:∀b o,X.s₀.heap.get? b=some o→b≠X.env.locals:=λb o e=>di (gO (Heap.lt_size e) I.ok.above)
 have Gh:∀b o,X.s₀.heap.get? b=some o→b∉X.ex→b∉ch:=λb o e hx hb=>by
  rcases (wQ b hb).1 with z|z
  ·exact hx z
  ·exact absurd (gO (Heap.lt_size e) z) (m9 _)
 have cellK:∀x c,X.env.cells.lookup x=some c→∀v,s.heap.IsCell c v→h'.IsCell c v:=λx c e v ⟨o,ho,hd⟩=>by
  have JB:c∉ch:=λz=>(wQ c z).2.2.1 x c e rfl
  by_cases hc:c∈X.fs
  ·obtain ⟨sl,q⟩:=slot c o (I.B8 x c e) hc JB ho (I.freeC x c e)
   exact ⟨_,q,hd⟩
  ·exact ⟨o,keep c o (I.B8 x c e) hc JB ho (I.freeC x c e),hd⟩
 refine ⟨I.ok,I.os,hg,⟨λb o e n hb hx=>?_,λb o e n hb hx=>?_,λb o e n hx=>?_,λb o e hx=>?_,λb xs e=>tups b xs (I.base.tups b xs e),λb o xs e=>frzs b o xs (I.base.frzs b o xs e),λb ps e=>?_⟩,?_,λx c e=>?_,?_,λx c e=>?_,λp hp=>?_,hok,I.len⟩
 ·exact keep b o (V5 b o e) hb (Gh b o e hx) (I.base.keep b o e n hb hx) (I.base.free b o e n hx)
 ·obtain ⟨sl,e1⟩:=I.base.slot b o e n hb hx
  obtain ⟨sl',e2⟩:=slot b _ (V5 b o e) hb (Gh b o e hx) e1 (I.base.free b o e n hx);exact ⟨sl',e2⟩
 ·obtain ⟨o',e1⟩:=I.base.there b o e hx
  exact free b o' (Gh b o e hx) e1 (I.base.free b o e n hx)
 ·obtain ⟨o',e1⟩:=I.base.there b o e hx
  exact there b o' (Gh b o e hx) e1
 ·obtain ⟨m1,e1⟩:=I.base.tbls b ps e
  obtain ⟨m2,e2⟩:=tbls b _ e1;exact ⟨m1++m2,by rw [e2,Array.append_assoc]⟩
 ·obtain ⟨m,hn,hl⟩:=I.loc
  refine ⟨m,ns m hn,λi x v e1 e2 e3=>?_⟩;obtain ⟨u,r,l⟩:=hl i x v e1 e2 e3;refine ⟨u,r,?_⟩
  rcases l with l| ⟨k,c,e,z⟩
  ·exact .inl l
  ·exact .inr ⟨k,c,e,cellK x c e _ z⟩
 ·obtain ⟨v,z⟩:=I.cell x c e
  exact ⟨v,cellK x c e v z⟩
 ·obtain ⟨m,⟨o,_,_,ho,_⟩,_⟩:=I.loc
  exact free _ o (λz=>(wQ _ z).2.1 rfl) ho I.free
 ·obtain ⟨v,o,ho,hd⟩:=I.cell x c e
  exact free c o (λz=>(wQ c z).2.2.1 x c e rfl) ho (I.freeC x c e)
 ·obtain ⟨e,n,ne,nf,d⟩:=I.pin p hp
  have JB:p.1∉ch:=λz=>(wQ p.1 z).2.2.2 p hp rfl;exact ⟨keep p.1 p.2 ne nf JB e n,free p.1 p.2 JB e n,ne,nf,d⟩
theorem Inv.un{t':Nat}(I:Inv X pins σ H s)(u:Un X.fs [] H H' s.heap h')(hok:iL X.prog X.w H' h'):Inv X pins σ H' {s with heap:=h',toks:=t'}:=by
 obtain ⟨m,⟨o,es,ep,ho,r⟩,_⟩:=id I.loc;obtain ⟨sl,hL⟩:=u.any ho I.free (by simp)
 exact I.step (g':=s.gens) (d':=s.drawn) (ch:= []) (λ_ z=>nomatch z) (λb o _ hb _ e n=>u.keep b o e n hb (by simp)) (λb o _ hb _ e n=>u.slot b o e n hb (by simp)) (λb o _ e n=>u.free b o e n (by simp)) (λb o _ e=>u.there b o e (by simp)) u.tups u.frzs u.tbls (λm' hm=>by
  obtain ⟨o',lY,Ck,lO,r'⟩:=hm;rw [ho] at lO;cases lO;exact ⟨_,lY,Ck,hL,r'⟩) hok I.bare
theorem Inv.call{g':Array GenState}{t':Nat}{d':Drawn}{ch:List Addr}(I:Inv X pins σ H s)(u:Un (uL X.stack) ch H H' s.heap h')(hok:iL X.prog X.w H' h')(hg:AllBare g')
  (wQ:∀b∈ch,(b∈X.ex∨X.s₀.heap.objs.size≤b)∧b≠X.env.locals∧(∀x c,X.env.cells.lookup x=some c→c≠b)∧∀p∈X.pn++pins,p.1≠b):
  Inv X pins σ H' {s with heap:=h',gens:=g',drawn:=d',toks:=t'}:=by
 obtain ⟨m,⟨o,es,ep,ho,r⟩,_⟩:=id I.loc;obtain ⟨sl,hL⟩:=u.any ho I.free λz=>(wQ _ z).2.1 rfl
 exact I.step (ch:=ch) wQ (λb o hL hb hc e n=>u.keep b o e n (λz=>(bV.mp (I.zK b z)).elim hL hb) hc) (λb o _ _ hc e n=>u.any e n hc) (λb o hc e n=>u.free b o e n hc) (λb o hc e=>u.there b o e hc) u.tups u.frzs u.tbls (λm' hm=>by
  obtain ⟨o',lY,Ck,lO,r'⟩:=hm;rw [ho] at lO;cases lO;exact ⟨_,lY,Ck,hL,r'⟩) hok hg
theorem Inv.turned{t':Nat}{it:Addr}(I:Inv X pins σ H s)(k:∀b o,b≠it→s.heap.get? b=some o→h'.get? b=some o)(hn:H it=none)(hL:it≠X.env.locals)
  (h1:it∈X.ex∨X.s₀.heap.objs.size≤it) (h2:∀x c,X.env.cells.lookup x=some c→c≠it) (h3:∀p∈X.pn++pins,p.1≠it):Inv X pins σ H {s with heap:=h',toks:=t'}:=by
 have V6:∀b u,H b=some u→b≠it:=λb u e z=>by rw [z,hn] at e;cases e
 refine I.step (g':=s.gens) (d':=s.drawn) (ch:= [it]) (λb hb=>?_) (λb o _ _ hc e _=>k b o (λz=>hc (by simp [z])) e) (λb o _ _ hc e _=>⟨o.slots,k b o (λz=>hc (by simp [z])) e⟩) (λ_ _ _ _ n=>n)
  (λb o hc e=>⟨o,k b o (λz=>hc (by simp [z])) e⟩) (λ_ _ e=>e) (λ_ _ _ e=>e) (λb ps e=>⟨#[],by rw [e];simp⟩) (λm hm=>?_) (λb u e=>?_) I.bare
 ·have e:b=it:=by simpa using hb
  subst e;exact ⟨h1,hL,h2,h3⟩
 ·obtain ⟨o,es,ep,ho,r⟩:=hm
  exact ⟨o,es,ep,k _ o (Ne.symm hL) ho,r⟩
 ·refine (I.hok b u e).td (λc v hc q=>k c v ?_ q) (λ_ q=>q) λ_ _ q=>q
  rcases hc with z|z
  ·rw [z];exact V6 b u e
  ·exact V6 c _ z
theorem Inv.tok(I:Inv X pins σ H s)(t:Nat):Inv X pins σ H {s with toks:=t}:=I.un (h':=s.heap) (t':=t) Un.refl I.hok
theorem Inv.kept{t':Nat}(I:Inv X pins σ H s)(k:∀b u,s.heap.get? b=some u→h'.get? b=some u):Inv X pins σ H {s with heap:=h',toks:=t'}:=I.un (Un.kept k) (I.hok.kept k)
theorem Inv.laid{a:Addr}{o:HO}{t':Nat}(I:Inv X pins σ H s)(k:∀b u,s.heap.get? b=some u→h'.get? b=some u)(hp:s.heap.objs.size≤a)(new:cL X.prog X.w (upd H a o) h' a o):
  Inv X pins σ (upd H a o) {s with heap:=h',toks:=t'}:=I.un (Un.laid k hp (I.hok.fresh hp)) (I.hok.laid k hp new)
theorem Inv.write{x e:Addr}{o:HO}{t':Nat}(I:Inv X pins σ H s)(mu:KQ (H x))(he:e=x∨H e=some (.own x))(k:∀b u,b≠e→s.heap.get? b=some u→h'.get? b=some u)(FT:∃u,h'.get? e=some u)
  (new:cL X.prog X.w (upd H x o) h' x o):Inv X pins σ (upd H x o) {s with heap:=h',toks:=t'}:=I.un (Un.write mu he k FT) (I.hok.write mu he k FT new)
theorem Inv.qv{zA:List (Addr×Obj)}(I:Inv X pins σ H s)(h:∀p∈zA,s.heap.get? p.1=some p.2∧H p.1=none∧p.1≠X.env.locals∧p.1∉X.fs∧∀v,p.2.data≠ .cell v):Inv X zA σ H s:=
 ⟨I.ok,I.os,I.bare,I.base,I.loc,I.cell,I.free,I.freeC,λp hp=>(cw.mp hp).elim (λz=>I.pin p (gh _ z)) (h p),I.hok,I.len⟩
theorem x9{N:List Str}(hN:N.Nodup){i j:Nat}{x:Str}(a:N[i]? =some x)(b:N[j]? =some x):i=j:=by
 obtain ⟨h1,e1⟩:=cF.mp a;obtain ⟨h2,e2⟩:=cF.mp b;exact (List.getElem_inj hN).mp (e1.trans e2.symm)
theorem store_ok2{M:Model}{A:Around}{E:Value→Shared→Prop}{i:Nat}{x:Str}{v:V}{u:Value}{Q:Unit→Shared→Prop}(I:Inv X pins σ H s)(hN:X.N.Nodup)(hi:X.N[i]? =some x)(hx:Loc X.env.scope x)(r:RelV v u)
  (h:∀s',Inv X pins (σ.set i (some v)) H s'→(∃a,Heap.SameBut a s.heap s'.heap∧(a=X.env.locals∨X.env.cells.lookup x=some a))→Q () s') (hf:X.fn x=true∨X.env.scope.names.lookup x=some .local:=by first|exact .inl rfl|exact .inr rfl|assumption):wpAny M A (storeName X.env x u) Q E s:=by
 obtain ⟨m,hn,hl⟩:=id I.loc;have Ux:(X.env.scope.kind== .class|| (X.env.scope.kind== .module&&X.env.locals !=X.env.globals))=false:=by rw [I.ok.kind];rfl
 have NV:i<σ.length:=by rw [I.len];exact (cF.mp hi).1
 have B8:=I.B8
 have tracked:∀{a:Addr}{h':Heap},(∃o,s.heap.get? a=some o∧H a=none)→Heap.SameBut a s.heap h'→iL X.prog X.w H h':=λ {a h'} ha hs b ob e=>by
  obtain ⟨_,_,yS⟩:=ha;refine (I.hok b ob e).td (λc w' hc q=>(hs.2 c ?_).trans q) (λ_ q=>q) λ_ _ q=>q;rintro rfl
  rcases hc with rfl|hc
  ·rw [yS] at e;cases e
  ·rw [yS] at hc;cases hc
 rcases hx with hk|hk
 ·refine wpAny_storeName_local hk hn (λh' hn' hs=>?_) Ux
  obtain ⟨oL,_,_,Ly,_⟩:=id hn;refine h _ ⟨I.ok,I.os,I.bare,⟨λb o e n hb hx=>?_,λb o e n hb hx=>?_,I.base.free,λb o e hx=>?_,I.base.tups,I.base.frzs,I.base.tbls⟩,⟨_,hn',λj y v' e1 e2 e3=>?_⟩,λy c e=>?_,I.free,I.freeC,λp hp=>?_,tracked ⟨oL,Ly,I.free⟩ hs,by simpa using I.len⟩ ⟨_,hs, .inl rfl⟩
  ·exact (hs.2 b (di (gO (Heap.lt_size e) I.ok.above))).trans (I.base.keep b o e n hb hx)
  ·obtain ⟨sl,e1⟩:=I.base.slot b o e n hb hx
   exact ⟨sl,(hs.2 b (di (gO (Heap.lt_size e) I.ok.above))).trans e1⟩
  ·obtain ⟨o',e1⟩:=I.base.there b o e hx
   exact ⟨o',(hs.2 b (di (gO (Heap.lt_size e) I.ok.above))).trans e1⟩
  ·by_cases hj:j=i
   ·subst hj
    rw [hi] at e1;cases e1;rw [mY NV] at e2;cases e2;exact ⟨u,r, .inl ⟨hk,by simp⟩⟩
   ·rw [tx (Ne.symm hj)] at e2
    obtain ⟨u',r',q⟩:=hl j y v' e1 e2 e3;refine ⟨u',r',?_⟩
    rcases q with ⟨k,e⟩ | ⟨k,c,e,z⟩
    ·refine .inl ⟨k,?_⟩
     have:y≠x:=λe=>hj (x9 hN e1 (e▸hi))
     simp [this,e]
    ·exact .inr ⟨k,c,e,z.sameBut hs (B8 y c e)⟩
  ·obtain ⟨w',z⟩:=I.cell y c e
   exact ⟨w',z.sameBut hs (B8 y c e)⟩
  ·obtain ⟨e,n,ne,nf,d⟩:=I.pin p hp
   exact ⟨(hs.2 p.1 ne).trans e,n,ne,nf,d⟩
 ·have P0:X.fn x=true:=by
   rcases hf with z|z
   ·exact z
   ·rw [z] at hk;cases hk
  obtain ⟨c,hc⟩:=I.ok.has x (.inl hk);obtain ⟨w',z⟩:=I.cell x c hc;refine wpAny_storeName_cell I.ok.kind hk hc z (λh' qb hs=>?_);obtain ⟨oc,U0,U2⟩:=id z;refine h {s with heap:=h'} ⟨I.ok,I.os,I.bare,⟨λb o e n hb hx=>?_,λb o e n hb hx=>?_,I.base.free,λb o e hx=>?_,I.base.tups,I.base.frzs,I.base.tbls⟩,⟨m,hn.sameBut hs (Ne.symm (B8 x c hc)),λj y v' e1 e2 e3=>?_⟩,λy c' e=>?_,I.free,I.freeC,λp hp=>?_,tracked ⟨oc,U0,I.freeC x c hc⟩ hs,by simpa using I.len⟩ ⟨c,hs, .inr hc⟩
  ·exact (hs.2 b (di (gO (Heap.lt_size e) (I.ok.cab x c P0 hc)))).trans (I.base.keep b o e n hb hx)
  ·obtain ⟨sl,e1⟩:=I.base.slot b o e n hb hx
   exact ⟨sl,(hs.2 b (di (gO (Heap.lt_size e) (I.ok.cab x c P0 hc)))).trans e1⟩
  ·obtain ⟨o',e1⟩:=I.base.there b o e hx
   exact ⟨o',(hs.2 b (di (gO (Heap.lt_size e) (I.ok.cab x c P0 hc)))).trans e1⟩
  ·by_cases hj:j=i
   ·subst hj
    rw [hi] at e1;cases e1;rw [mY NV] at e2;cases e2;exact ⟨u,r, .inr ⟨.inl hk,c,hc,qb⟩⟩
   ·rw [tx (Ne.symm hj)] at e2
    obtain ⟨u',r',q⟩:=hl j y v' e1 e2 e3;refine ⟨u',r',?_⟩
    rcases q with q| ⟨k,c',e,z'⟩
    ·exact .inl q
    ·refine .inr ⟨k,c',e,z'.sameBut hs ?_⟩
     rintro rfl;exact hj (x9 hN e1 (I.ok.inj _ _ _ e hc▸hi))
  ·by_cases Uw:c'=c
   ·subst Uw;exact ⟨_,qb⟩
   ·obtain ⟨w2,z2⟩:=I.cell y c' e
    exact ⟨w2,z2.sameBut hs Uw⟩
  ·obtain ⟨e,n,ne,nf,d⟩:=I.pin p hp
   refine ⟨(hs.2 p.1 ?_).trans e,n,ne,nf,d⟩;intro q;rw [q,U0] at e;have q':oc=p.2:=Option.some.inj e;exact d w' (by rw [←q'];exact U2)
theorem kn{M:Model}{A:Around}{E:Value→Shared→Prop}{i:Nat}{x:Str}{v:V}{u:Value}{Q:Unit→Shared→Prop}(I:Inv X pins σ H s)(hN:X.N.Nodup)(hi:X.N[i]? =some x)(hx:Loc X.env.scope x)(r:RelV v u)
  (h:∀s',Inv X pins (σ.set i (some v)) H s'→Q () s') (hf:X.fn x=true∨X.env.scope.names.lookup x=some .local:=by first|exact .inl rfl|exact .inr rfl|assumption):wpAny M A (storeName X.env x u) Q E s:=
 store_ok2 I hN hi hx r (λs' I' _=>h s' I') hf
theorem Inv.OQ{s':Shared}{ch:List Addr}(I:Inv X pins σ H s)(ho:s'.os=s.os)(u:Un (uL X.stack) ch H H' s.heap s'.heap)(hok:iL X.prog X.w H' s'.heap)(hg:AllBare s'.gens)
  (wQ:∀b∈ch,(b∈X.ex∨X.s₀.heap.objs.size≤b)∧b≠X.env.locals∧(∀x c,X.env.cells.lookup x=some c→c≠b)∧∀p∈X.pn++pins,p.1≠b):Inv X pins σ H' s':=by
 obtain ⟨h',g',d',t',o'⟩:=s';have e:o'=s.os:=ho;subst e;exact I.call (g':=g') (t':=t') (d':=d') u hok hg wQ
end
abbrev XK:=Value→Option Addr→Hp→Prop
abbrev St:=List (Option V)
abbrev VK:=V→Hp→Prop
abbrev TE:=St→Hp→VK→Prop
abbrev TT:=St→Hp→(Bool→Hp→Prop)→Prop
abbrev TA:=St→Hp→(List V→Hp→Prop)→Prop
structure Ends where
 nx:St→Hp→Prop
 rt:VK
 bk:St→Hp→Prop:=λ_ _=>False
 ct:St→Hp→Prop:=λ_ _=>False
abbrev TS:=Ends→St→Hp→Prop
def EP(X:Cx)(pins:List (Addr×Obj))(σ:St)(Q:VK)(u:Value)(s':Shared):Prop:=∃v H',Inv X pins σ H' s'∧RelV v u∧Q v H'
def TP(X:Cx)(pins:List (Addr×Obj))(σ:St)(Q:Bool→Hp→Prop)(b:Bool)(s':Shared):Prop:=∃H',Inv X pins σ H' s'∧Q b H'
def AP(X:Cx)(pins:List (Addr×Obj))(σ:St)(Q:List V→Hp→Prop)(us:List Value)(s':Shared):Prop:=∃vs H',Inv X pins σ H' s'∧Vals vs us∧Q vs H'
def SP(X:Cx)(pins:List (Addr×Obj))(D:Ends)(f:Flow)(s':Shared):Prop:=
 match f with
 | .next=>∃ay H',Inv X pins ay H' s'∧D.nx ay H'
 | .brk=>∃ay H',Inv X pins ay H' s'∧D.bk ay H'
 | .cont=>∃ay H',Inv X pins ay H' s'∧D.ct ay H'
 | .ret u=>∃v ay H',Inv X pins ay H' s'∧RelV v u∧D.rt v H'
def PE(X:Cx)(e:Expr)(t:TE):Prop:=
 ∀(pins:List (Addr×Obj))(s:Shared)(σ:St)(H:Hp)(Q:VK),Inv X pins σ H s→t σ H Q→wpAny (model X.prog X.w) X.A (eval e X.env) (EP X pins σ Q) X.xe s
def PT(X:Cx)(e:Expr)(t:TT):Prop:=
 ∀(pins:List (Addr×Obj))(s:Shared)(σ:St)(H:Hp)(Q:Bool→Hp→Prop),Inv X pins σ H s→t σ H Q→wpAny (model X.prog X.w) X.A (isTrue e X.env (eval e X.env)) (TP X pins σ Q) X.xe s
def PW(X:Cx)(e:Expr)(t:TT):Prop:=
 ∀(whole:Sem Value)(pins:List (Addr×Obj))(s:Shared)(σ:St)(H:Hp)(Q:Bool→Hp→Prop),Inv X pins σ H s→t σ H Q→wpAny (model X.prog X.w) X.A (isTrue e X.env whole) (TP X pins σ Q) X.xe s
theorem PW.pt{X:Cx}{e:Expr}{t:TT}(h:PW X e t):PT X e t:=h _
def PA(X:Cx)(es:List Expr)(t:TA):Prop:=
 ∀(pos:Pos)(pins:List (Addr×Obj))(s:Shared)(σ:St)(H:Hp)(Q:List V→Hp→Prop),Inv X pins σ H s→t σ H Q→wpAny (model X.prog X.w) X.A (spliced (backTo pos (starEach es X.env))) (AP X pins σ Q) X.xe s
def PS(X:Cx)(st:Stmt)(t:TS):Prop:=
 ∀(pins:List (Addr×Obj))(s:Shared)(σ:St)(H:Hp)(D:Ends),Inv X pins σ H s→t D σ H→wpAny (model X.prog X.w) X.A (exec st X.env) (SP X pins D) X.xe s
def lJ(X:Cx)(st:List Stmt)(t:TS):Prop:=
 ∀(pins:List (Addr×Obj))(s:Shared)(σ:St)(H:Hp)(D:Ends),Inv X pins σ H s→t D σ H→wpAny (model X.prog X.w) X.A (execs st X.env) (SP X pins D) X.xe s
theorem thn{α:Type}{t:Sem α}{Q Q':α→Shared→Prop}{M:Model}{A:Around}{E:Value→Shared→Prop}{s:Shared}(h:wpAny M A t Q E s)(hQ:∀a s,Q a s→Q' a s):wpAny M A t Q' E s:=wpAny_mono h hQ λ_ _ x=>x
section
variable {X:Cx}
def tj(i:Nat):TE:=λσ H Q=>∃v,σ[i]? =some (some v)∧Q v H
def tC(v:V):TE:=λ_ H Q=>Q v H
theorem EF{i:Nat}{x:Str}{pos:Pos}(hN:X.N[i]? =some x)(hv:rf X.env.scope x)(hd:(x==("__debug__":Str))=false:=by decide)(fR:(x==("__classdict__":Str))=false:=by decide):PE X (.Name x pos) (tj i):=by
 intro pins s σ H Q I h;obtain ⟨v,e,h⟩:=h;obtain ⟨m,hn,hl⟩:=I.loc;obtain ⟨u,r,l⟩:=hl i x v hN e hv;have fin:EP X pins σ Q u s:=⟨v,H,I,r,h⟩
 rcases l with ⟨hk,hm⟩ | ⟨hk,c,hc,ID⟩
 ·exact wpAny_Name (wpAny_loadName_local I.ok.kind hk hn hm fin) hd
 ·rcases hk with hk|hk
  ·exact wpAny_Name (wpAny_loadName_cell I.ok.kind hk hc ID fin) hd
  ·exact wpAny_Name (wpAny_loadName_free I.ok.kind hk hc ID fin fR) hd
theorem aO{i j pos}:PE X (.Constant (.int i) j pos) (tC (.int i)):=λ_ _ _ H _ I h=>wpAny_Constant_int ⟨.int i,H,I.tok _,⟨_,rfl⟩,h⟩
theorem Q2{b j pos}:PE X (.Constant (.bool b) j pos) (tC (.bl b)):=λ_ _ _ H _ I h=>Constant_bool ⟨.bl b,H,I,rfl,h⟩
theorem Mj{j pos}:PE X (.Constant .none j pos) (tC .aM):=λ_ _ _ H _ I h=>Constant_none ⟨.aM,H,I,rfl,h⟩
theorem Mn{x j pos}:PE X (.Constant (.str x) j pos) (tC (.str x)):=λ_ _ _ H _ I h=>Calls.Constant_str ⟨.str x,H,I.tok _,⟨_,rfl⟩,h⟩
def Gl(X:Cx)(x:Str):Prop:=X.env.kindOf x=some .globalImplicit
theorem u5{E:Value→Shared→Prop}{pins:List (Addr×Obj)}{s:Shared}{σ:St}{H:Hp}{x:Str}{u:Value}{pos:Pos}{Q:Value→Shared→Prop}(I:Inv X pins σ H s)(hg:Gl X x)(hm:X.mg x=some u)(h:Q u s)
  (hd:(x==("__debug__":Str))=false:=by decide):wpAny (model X.prog X.w) X.A (eval (.Name x pos) X.env) Q E s:=
 Calls.Name_function_global I.ok.kind hg (Calls.loadGlobal_global (by rw [I.ok.glob];exact I.mod.glob.keeps I.bk) hm h) hd
theorem kM{E:Value→Shared→Prop}{pins:List (Addr×Obj)}{s:Shared}{σ:St}{H:Hp}{x:Str}{u:Value}{pos:Pos}{Q:Value→Shared→Prop}(I:Inv X pins σ H s)(hg:Gl X x)(hm:X.mg x=none)(hv:bootBuiltins x=some u)(h:Q u s)
  (hn:x≠"__name__":=by decide) (hd:(x==("__debug__":Str))=false:=by decide):wpAny (model X.prog X.w) X.A (eval (.Name x pos) X.env) Q E s:=by
 obtain ⟨mb,h1,h2⟩:=I.mod.blt;exact Calls.Name_function_global I.ok.kind hg (Calls.loadGlobal_builtin (by rw [I.ok.glob];exact I.mod.glob.keeps I.bk) hm (by rw [I.ok.blt];exact h1.keeps I.bk) ((h2 x hn).trans hv) h) hd
theorem vz{x:Str}{v:V}{u:Value}{pos:Pos}(hg:Gl X x)(hm:X.mg x=some u)(r:RelV v u)(hd:(x==("__debug__":Str))=false:=by decide):PE X (.Name x pos) (tC v):=
 λ_ _ _ H _ I h=>u5 I hg hm ⟨v,H,I,r,h⟩ hd
theorem A9{x:Str}{v:V}{u:Value}{pos:Pos}(hg:Gl X x)(hm:X.mg x=none)(hv:bootBuiltins x=some u)(r:RelV v u)(hn:x≠"__name__":=by decide)(hd:(x==("__debug__":Str))=false:=by decide):PE X (.Name x pos) (tC v):=
 λ_ _ _ H _ I h=>kM I hg hm hv ⟨v,H,I,r,h⟩ hn hd
variable {a b:Expr} {ta tb:TE} {pos:Pos}
def tB(t:TE):TT:=λσ H Q=>t σ H λx H1=>∃c,x= .bl c∧Q c H1
theorem Mr{e:Expr}{t:TE}(h:PE X e t)(he:∀whole,isTrue e X.env whole=(do let v ←whole;standAt e.pos;holding [v] (truthy v)):=by intro _;rfl):PT X e (tB t):=by
 intro pins s σ H Q I hw;refine isTrue_plain (thn (h pins s σ H _ I hw) λv s1 ⟨x,H1,I1,r1,q1⟩=>?_) (he _);obtain ⟨d,rfl,q⟩:=q1;cases r1;exact wpAny_truthy_bool ⟨H1,I1,q⟩
variable {tA DQ:TT} {rest:List Expr}
def XX(t u:TT):TT:=λσ H Q=>t σ H λc H1=>if c=true then u σ H1 Q else Q false H1
def tOr(t u:TT):TT:=λσ H Q=>t σ H λc H1=>if c=true then Q true H1 else u σ H1 Q
def X5(t:TT):TT:=λσ H Q=>t σ H λc H1=>Q (!c) H1
theorem Bh(ha:PT X a tA):PW X (.BoolOp .And [a] pos) tA:=by
 intro wh pins s σ H Q I h;refine isTrue_and (thn (ha pins s σ H Q I h) λc s1 e=>?_);cases c with
 |true=>exact isTrue_and_nil e
 |false=>exact e
theorem Ms(ha:PT X a tA):PW X (.BoolOp .Or [a] pos) tA:=by
 intro wh pins s σ H Q I h;refine isTrue_or (thn (ha pins s σ H Q I h) λc s1 e=>?_);cases c with
 |false=>exact isTrue_or_nil e
 |true=>exact e
theorem EJ(ha:PT X a tA)(hb:PW X (.BoolOp .And (b::rest) pos) DQ):PW X (.BoolOp .And (a::b::rest) pos) (XX tA DQ):=by
 intro wh pins s σ H Q I h;refine isTrue_and (thn (ha pins s σ H _ I h) λc s1 ⟨H1,I1,q1⟩=>?_);cases c with
 |true=>exact hb wh pins s1 σ H1 Q I1 q1
 |false=>exact ⟨H1,I1,q1⟩
theorem Q6(ha:PT X a tA)(hb:PW X (.BoolOp .Or (b::rest) pos) DQ):PW X (.BoolOp .Or (a::b::rest) pos) (tOr tA DQ):=by
 intro wh pins s σ H Q I h;refine isTrue_or (thn (ha pins s σ H _ I h) λc s1 ⟨H1,I1,q1⟩=>?_);cases c with
 |true=>exact ⟨H1,I1,q1⟩
 |false=>exact hb wh pins s1 σ H1 Q I1 q1
theorem EH(ha:PT X a tA):PT X (.UnaryOp .Not a pos) (X5 tA):=by
 intro pins s σ H Q I h;exact isTrue_not (ha pins s σ H (λc H1=>Q (!c) H1) I h)
def Rl(ta tb:TE):TE:=λσ H Q=>ta σ H λx H1=>∃c,x= .bl c∧if c=true then tb σ H1 Q else Q (.bl false) H1
def Rr(ta:TE):TE:=λσ H Q=>ta σ H λx H1=>∃c,x= .bl c∧Q (.bl (!c)) H1
theorem Mm{op}{t:TE}(h:PE X a t):PE X (.BoolOp op [a] pos) t:=λpins s σ H Q I hw=>BoolOp_one (h pins s σ H Q I hw)
theorem Me(ha:PE X a ta)(hb:PE X (.BoolOp .And (b::rest) pos) tb):PE X (.BoolOp .And (a::b::rest) pos) (Rl ta tb):=by
 intro pins s σ H Q I h;refine BoolOp_and (thn (ha pins s σ H _ I h) λv s1 ⟨x,H1,I1,r1,q1⟩=>?_);obtain ⟨c,rfl,q1⟩:=q1;cases r1;refine wpAny_truthy_bool ?_;cases c with
 |true=>exact hb pins s1 σ H1 Q I1 q1
 |false=>exact ⟨.bl false,H1,I1,rfl,q1⟩
theorem Ml(ha:PE X a ta):PE X (.UnaryOp .Not a pos) (Rr ta):=by
 intro pins s σ H Q I h;refine UnaryOp_ (thn (ha pins s σ H _ I h) λv s1 ⟨x,H1,I1,r1,q1⟩=>?_);obtain ⟨c,rfl,q1⟩:=q1;cases r1;exact not_of (wpAny_truthy_bool ⟨.bl (!c),H1,I1,rfl,q1⟩)
end
def aH(K:PySem.W.Frag)(H:Hp)(a:Addr)(xs:List V):Prop:=
 Rd H a (.lst xs)∨
  ∃(o:Obj)(its:Array Value)(n:Nat),K.lookup a=some o∧o.cls= .type "list"∧o.dict=none∧o.data= .seq its n∧its.size≤sizeLine∧Vals xs its.toList
def dX(K:PySem.W.Frag)(H:Hp)(a:Addr)(xs:List V):Prop:=
 Rd H a (.tup xs)∨
  ∃(o:Obj)(its:Array Value)(n:Nat),K.lookup a=some o∧o.cls= .type "tuple"∧o.data= .seq its n∧its.size≤sizeLine∧Vals xs its.toList
def RS:Value→Option V
 | .none=>some .aM
 | .bool b=>some (.bl b)
 | .int i _=>some (.int i)
 | .str x _=>some (.str x)
 | .bytes b _=>some (.tM b)
 | .float b _=>some (.Cn b)
 | .ref a=>some (.ref a)
 | .type n=>some (.ty n)
 |_=>none
theorem RelV.abs{x:V}{u:Value}(r:RelV x u):RS u=some x:=by
 cases x with
 |aM=>cases r;rfl
 |bl _=>cases r;rfl
 |int _=>obtain ⟨t,rfl⟩:=r;rfl
 |str _=>obtain ⟨t,rfl⟩:=r;rfl
 |tM _=>obtain ⟨t,rfl⟩:=r;rfl
 |Cn _=>obtain ⟨t,rfl⟩:=r;rfl
 |ref _=>cases r;rfl
 |ty _=>cases r;rfl
theorem RelV.inj{x y:V}{u:Value}(r:RelV x u)(q:RelV y u):x=y:=Option.some.inj (r.abs.symm.trans q.abs)
theorem Vals.inj:∀{xs ys:List V}{us:List Value},Vals xs us→Vals ys us→xs=ys
 |_,_,_, .nil, .nil=>rfl
 |_,_,_, .cons r t, .cons r' t'=>by rw [r.inj r',Vals.inj t t']
section
variable {X:Cx} {pins:List (Addr×Obj)} {σ:St} {H:Hp} {s:Shared} {a:Addr} {xs ys:List V}
theorem aH.of{K:PySem.W.Frag}(h:H a=some (.lst xs)):aH K H a xs:= .inl (.inl h)
theorem dX.of{K:PySem.W.Frag}(h:H a=some (.tup xs)):dX K H a xs:= .inl (.inl h)
theorem Inv.list(I:Inv X pins σ H s)(h:aH X.K H a xs):∃its:List Value,Vals xs its∧PlainL s.heap a its.toArray∧xs.length≤sizeLine:=by
 rcases h with h| ⟨o,its,n,hk,hc,hd,hs,hz,r⟩
 ·obtain ⟨z,its,n,r,e⟩:=h.ok I.hok
  exact ⟨its,r,⟨_,n,e,rfl,rfl,rfl⟩,z⟩
 ·refine ⟨its.toList,r,⟨o,n,I.iy a o hk,hc,hd,by simpa using hs⟩,?_⟩
  have e:=r.length;simp only [cu] at e;omega
theorem Inv.tuple(I:Inv X pins σ H s)(h:dX X.K H a xs):∃its:List Value,Vals xs its∧IsTup s.heap a its.toArray∧xs.length≤sizeLine:=by
 rcases h with h| ⟨o,its,n,hk,hc,hs,hz,r⟩
 ·obtain ⟨z,its,r,p⟩:=h.ok I.hok
  exact ⟨its,r,p,z⟩
 ·refine ⟨its.toList,r,⟨o,I.iy a o hk,hc,n,by simpa using hs⟩,?_⟩
  have e:=r.length;simp only [cu] at e;omega
theorem Inv.xY(I:Inv X pins σ H s)(h:aH X.K H a xs)(h':aH X.K H a ys):xs=ys:=by
 obtain ⟨its,r,⟨o,n,e,_,_,d⟩,_⟩:=I.list h;obtain ⟨its',r',⟨o',n',e',_,_,d'⟩,_⟩:=I.list h';rw [e] at e';cases e';rw [d] at d'
 injection d' with d1 _
 have:its=its':=by simpa using congrArg Array.toList d1
 subst this;exact r.inj r'
end
abbrev Cx.oH(X:Cx)(E:Value→Shared→Prop):Cx:={X with xe:=E}
abbrev Cx.jw(X:Cx):Cx:=X.oH λ_ _=>False
theorem Cx.Ok.oH{X:Cx}(ok:X.Ok)(E:Value→Shared→Prop):(X.oH E).Ok:=
 ⟨ok.mod,ok.kind,ok.glob,ok.blt,ok.above,ok.inj,ok.has,ok.cab,ok.hd,ok.frames,ok.stk,ok.exf,ok.bs,ok.bsz,ok.noex,ok.exfs,ok.funs,ok.frf⟩
theorem Cx.Ok.jI{X:Cx}{E:Value→Shared→Prop}(ok:(X.oH E).Ok):X.Ok:=
 ⟨ok.mod,ok.kind,ok.glob,ok.blt,ok.above,ok.inj,ok.has,ok.cab,ok.hd,ok.frames,ok.stk,ok.exf,ok.bs,ok.bsz,ok.noex,ok.exfs,ok.funs,ok.frf⟩
section
variable {X:Cx} {pins:List (Addr×Obj)} {σ:St} {H:Hp} {s:Shared} {E:Value→Shared→Prop}
theorem Inv.oH(I:Inv X pins σ H s)(E:Value→Shared→Prop):Inv (X.oH E) pins σ H s:=⟨I.ok.oH E,I.os,I.bare,I.base,I.loc,I.cell,I.free,I.freeC,I.pin,I.hok,I.len⟩
theorem Inv.jI(I:Inv (X.oH E) pins σ H s):Inv X pins σ H s:=⟨I.ok.jI,I.os,I.bare,I.base,I.loc,I.cell,I.free,I.freeC,I.pin,I.hok,I.len⟩
theorem SP.jI{D:Ends}{f:Flow}{s':Shared}(h:SP (X.oH E) pins D f s'):SP X pins D f s':=by
 cases f with
 |next=>obtain ⟨ay,H',I,q⟩:=h;exact ⟨ay,H',I.jI,q⟩
 |brk=>obtain ⟨ay,H',I,q⟩:=h;exact ⟨ay,H',I.jI,q⟩
 |cont=>obtain ⟨ay,H',I,q⟩:=h;exact ⟨ay,H',I.jI,q⟩
 |ret u=>obtain ⟨v,ay,H',I,r,q⟩:=h;exact ⟨v,ay,H',I.jI,r,q⟩
theorem lJ.jw{st:List Stmt}{t:TS}(h:lJ X.jw st t):lJ X st t:=λpins s σ H D I hw=>
 wpAny_mono (h pins s σ H D (I.oH _) hw) (λ_ _ q=>q.jI) λ_ _ z=>False.elim z
end
section
variable {X:Cx} {st:Stmt} {rest:List Stmt} {t u:TS} {e:Expr} {te:TE} {pos:Pos}
def Rq:TS:=λD σ H=>D.nx σ H
def KA(t u:TS):TS:=λD σ H=>t {D with nx:=u D} σ H
theorem mF:lJ X [] Rq:=λ_ _ σ H _ I h=>wpAny_execs_nil ⟨σ,H,I,h⟩
theorem az(h1:PS X st t)(h2:lJ X rest u):lJ X (st::rest) (KA t u):=by
 intro pins s σ H D I h;refine wpAny_execs_cons (thn (h1 pins s σ H {D with nx:=u D} I h) λf s1 q=>?_)
 cases f with
 |next=>
  obtain ⟨ay,H',I',q⟩:=q;exact h2 pins s1 ay H' D I' q
 |ret v=>exact q
 |brk=>exact q
 |cont=>exact q
theorem aX(h1:PS X st t):lJ X [st] t:=by
 intro pins s σ H D I h;refine wpAny_execs_cons (thn (h1 pins s σ H D I h) λf s1 q=>?_);cases f with
 |next=>exact wpAny_execs_nil q
 |ret v=>exact q
 |brk=>exact q
 |cont=>exact q
theorem Inv.quiet{pins:List (Addr×Obj)}{σ:St}{H:Hp}{s:Shared}(I:Inv X pins σ H s):interactive X.env=false:=by simp [interactive,I.ok.kind]
def Ro(te:TE):TS:=λD σ H=>te σ H λ_ H1=>D.nx σ H1
theorem cN(he:PE X e te)(hs:swapsWith e none pos.line X.env=pure false:=by rfl):PS X (.Expr e pos) (Ro te):=by
 intro pins s σ H D I h;exact wpAny_Expr_any (thn (he pins s σ H _ I h) λv s1 ⟨x,H1,I1,r1,q1⟩=>⟨σ,H1,I1,q1⟩) I.quiet hs
def OC(te:TE):TS:=λD σ H=>te σ H D.rt
theorem fm(he:PE X e te):PS X (.Return (some e) pos) (OC te):=by
 intro pins s σ H D I h;exact wpAny_Return_some (thn (he pins s σ H _ I h) λv s1 ⟨x,H1,I1,r1,q1⟩=>⟨x,σ,H1,I1,r1,q1⟩)
def X3(c:TT)(t u:TS):TS:=λD σ H=>c σ H λb H1=>if b=true then t D σ H1 else u D σ H1
theorem vC{c:Expr}{a b:List Stmt}{tc:TT}(hc:PT X c tc)(ha:lJ X a t)(hb:lJ X b u):PS X (.If c a b pos) (X3 tc t u):=by
 intro pins s σ H D I h;refine wpAny_If (thn (hc pins s σ H _ I h) λd s1 ⟨H1,I1,q1⟩=>?_);cases d with
 |true=>exact ha pins s1 σ H1 D I1 q1
 |false=>exact hb pins s1 σ H1 D I1 q1
def MW:TS:=λ_ _ _=>False
theorem Gy:PS X st MW:=λ_ _ _ _ _ _ h=>h.elim
end
abbrev TG:=V→St→Hp→(St→Hp→Prop)→Prop
abbrev wJ:=List V→St→Hp→(St→Hp→Prop)→Prop
def PG(X:Cx)(target:Expr)(t:TG):Prop:=
 ∀(pins:List (Addr×Obj))(s:Shared)(σ:St)(H:Hp)(v:V)(u:Value)(Q:St→Hp→Prop),Inv X pins σ H s→RelV v u→t v σ H Q→
  wpAny (model X.prog X.w) X.A (assign target X.env u) (λ_ s'=>∃ay H',Inv X pins ay H' s'∧Q ay H') X.xe s
def yB(X:Cx)(ts:List Expr)(t:wJ):Prop:=
 ∀(pins:List (Addr×Obj))(s:Shared)(σ:St)(H:Hp)(vs:List V)(us:List Value)(Q:St→Hp→Prop),Inv X pins σ H s→Vals vs us→t vs σ H Q→
  wpAny (model X.prog X.w) X.A (assignInOrder ((assignEach ts X.env).map (·.2)) us) (λ_ s'=>∃ay H',Inv X pins ay H' s'∧Q ay H') X.xe s
abbrev Hd:=V→V→V→Hp→(Hp→Prop)→Prop
def M9(X:Cx)(t:Hd):Prop:=
 ∀(pins:List (Addr×Obj))(s:Shared)(σ:St)(H:Hp)(o i v:V)(ov iv u:Value)(Q:Hp→Prop),Inv X pins σ H s→RelV o ov→RelV i iv→RelV v u→t o i v H Q→
  wpAny (model X.prog X.w) X.A (setItem ov iv u) (λ_ s'=>∃H',Inv X pins σ H' s'∧Q H') X.xe s
section
variable {X:Cx} {pos:Pos}
def uM(i:Nat):TG:=λv σ H Q=>Q (σ.set i (some v)) H
theorem bT{i:Nat}{x:Str}(hN:X.N.Nodup)(hi:X.N[i]? =some x)(hx:Loc X.env.scope x)(hf:X.fn x=true∨X.env.scope.names.lookup x=some .local:=by first|exact .inl rfl|exact .inr rfl|assumption):PG X (.Name x pos) (uM i):=by
 intro pins s σ H v u Q I r h;exact wpAny_assign_Name (kn I hN hi hx r (λs' I'=>⟨_,H,I',h⟩) hf)
def Ub:wJ:=λvs σ H Q=>vs= []∧Q σ H
def Pz(t:TG)(u:wJ):wJ:=λvs σ H Q=>∃v r,vs=v::r∧t v σ H λay H'=>u r ay H' Q
theorem kg:yB X [] Ub:=by
 intro pins s σ H vs us Q I r h;obtain ⟨e,h⟩:=h;subst e;cases r;exact assignInOrder_nil ⟨σ,H,I,h⟩
theorem eG{e:Expr}{es:List Expr}{t:TG}{u:wJ}(h1:PG X e t)(h2:yB X es u)
  (hs:(assignEach (e::es) X.env).map (·.2)=assign e X.env::(assignEach es X.env).map (·.2):=by rfl):yB X (e::es) (Pz t u):=by
 intro pins s σ H vs us Q I r h;obtain ⟨v,vr,e1,h⟩:=h;subst e1;cases r with
 |cons r rr=>
  rw [hs];refine assignInOrder_cons (thn (h1 pins s σ H _ _ _ I r h) λ_ s1 ⟨BQ,H1,I1,q1⟩=>?_);exact h2 pins s1 BQ H1 _ _ Q I1 rr q1
def Uc(K:PySem.W.Frag)(n:Nat)(t:wJ):TG:=λv σ H Q=>∃a xs,v= .ref a∧dX K H a xs∧xs.length=n∧t xs σ H Q
theorem nO{es:List Expr}{k:Nat}{t:wJ}{n:Nat}(hc:X.calm=true)(h:yB X es t)
  (hn:(assignEach es X.env).length=n:=by rfl) (y4:(assignEach es X.env).findIdx? (·.1)=none:=by rfl):PG X (.Tuple es k pos) (Uc X.K n t):=by
 intro pins s σ H v u Q I r hw;obtain ⟨a,xs,e1,hq,hl,hw⟩:=hw;subst e1;cases r;obtain ⟨its,rv,ht,hz⟩:=I.tuple hq;refine assign_Tuple_tuple (I.ok.hd hc) ht (by simp [hn,←hl,rv.length]) y4 λh' hx=>?_
 have I1:Inv X pins σ H {s with heap:=h'}:=I.kept (t':=s.toks) λb o e=>hx b o (di (Heap.lt_size e)) e
 exact h pins _ σ H xs _ Q I1 (by simpa using rv) hw
def NR(to ti:TE)(t:Hd):TG:=λv σ H Q=>to σ H λo H1=>ti σ H1 λi H2=>t o i v H2 λH3=>Q σ H3
theorem zy{o i:Expr}{to ti:TE}{t:Hd}(ho:PE X o to)(hi:PE X i ti)(hs:M9 X t)
  (ha:∀v,assign (.Subscript o i pos) X.env v=(do
   let ov ←holding [v] (eval o X.env)
   let iv ←holding [v,ov] (eval i X.env)
   standAt pos
   holding [v,ov,iv] (setItem ov iv v)
   release [v,ov,iv] []):=by intro _;rfl):PG X (.Subscript o i pos) (NR to ti t):=by
 intro pins s σ H v u Q I r h;rw [ha];refine wpAny_bind (wpAny_holding (thn (ho pins s σ H _ I h) λov s1 ⟨x,H1,I1,r1,q1⟩=>?_));refine wpAny_bind (wpAny_holding (thn (hi pins s1 σ H1 _ I1 q1) λiv s2 ⟨y,H2,I2,r2,q2⟩=>?_));refine wpAny_bind (wpAny_standAt (wpAny_bind (wpAny_holding (thn (hs pins s2 σ H2 x y v ov iv u _ I2 r1 r2 r q2) λ_ s3 ⟨H3,I3,q3⟩=>?_))));exact wpAny_release ⟨σ,H3,I3,q3⟩
def EZ(te:TE)(g:TG):TS:=λD σ H=>te σ H λx H1=>g x σ H1 D.nx
theorem nP{tg e:Expr}{te:TE}{g:TG}(he:PE X e te)(hg:PG X tg g)(hs:swapsWithSole [tg] e pos.line X.env=pure false:=by rfl)(hw:swappedStores [tg] e X.env=pure none:=by rfl)
  (h1:(assignEach [tg] X.env).map (·.2)= [assign tg X.env]:=by rfl):PS X (.Assign [tg] e pos) (EZ te g):=by
 intro pins s σ H D I h;refine wpAny_Assign_stores (thn (he pins s σ H _ I h) λv s1 ⟨x,H1,I1,r1,q1⟩=>?_) hs hw;rw [h1];exact thn (hg pins s1 σ H1 x v _ I1 r1 q1) λ_ s2 q=>q
theorem bP{i:Nat}{x:Str}{e:Expr}{te:TE}{pos':Pos}(hN:X.N.Nodup)(hi:X.N[i]? =some x)(hx:Loc X.env.scope x)(he:PE X e te)(hs:swapsWith e (some (.Name x pos')) pos.line X.env=pure false:=by rfl)(hf:X.fn x=true∨X.env.scope.names.lookup x=some .local:=by first|exact .inl rfl|exact .inr rfl|assumption):
  PS X (.Assign [.Name x pos'] e pos) (EZ te (uM i)):=by
 intro pins s σ H D I h;refine wpAny_Assign_Name (thn (he pins s σ H _ I h) λv s1 ⟨y,H1,I1,r1,q1⟩=>?_) hs;exact kn I1 hN hi hx r1 (λs2 I2=>⟨_,H1,I2,q1⟩) hf
def X7(i j:Nat)(ta:TA):TS:=λD σ H=>ta σ H λvs H1=>∃v w,vs= [v,w]∧D.nx ((σ.set i (some v)).set j (some w)) H1
theorem Mq{i j:Nat}{x y:Str}{a b:Expr}{ta:TA}{px py pt:Pos}{kt k2 Dk}(hc:X.calm=true)(hN:X.N.Nodup)(hi:X.N[i]? =some x)(hj:X.N[j]? =some y)(dm:i≠j)
  (hx:X.env.scope.names.lookup x=some .local) (hy:X.env.scope.names.lookup y=some .local) (ha:PA X [a,b] ta)
  (hw:swappedStores [.Tuple [.Name x px, .Name y py] kt pt] (.Tuple [a,b] k2 Dk) X.env=pure (some [x,y]))
  (hs:swapsWithSole [.Tuple [.Name x px, .Name y py] kt pt] (.Tuple [a,b] k2 Dk) pos.line X.env=pure false:=by rfl):
  PS X (.Assign [.Tuple [.Name x px, .Name y py] kt pt] (.Tuple [a,b] k2 Dk) pos) (X7 i j ta):=by
 intro pins s σ H D I h;rw [exec_Assign_arm];refine wpAny_bind (wpAny_standAt ?_);rw [hs];refine wpAny_bind (wpAny_pure ?_);rw [if_neg (by decide)]
 refine wpAny_bind (Tuple_ (thn (ha _ pins s σ H _ I h) λus s1 ⟨vs,H1,I1,r1,q1⟩=>?_));obtain ⟨v,w,e1,q1⟩:=q1;subst e1
 obtain ⟨u1,u2,rfl,rv,vG⟩:∃u1 u2,us= [u1,u2]∧RelV v u1∧RelV w u2:=by
  cases r1 with
  |cons p q=>
   cases q with
   |cons p' q'=>
    cases q';exact ⟨_,_,rfl,p,p'⟩
 refine wpAny_newObj_type ?_ (by show 2≤sizeLine;decide)
 have I2:Inv X pins σ H1 {s1 with heap:=s1.heap.push {cls:= .type "tuple",data:= .seq [u1,u2].toArray}}:=I1.kept (t':=s1.toks) λb o e=>Heap.get?_push_of_some _ e
 rw [hw];refine wpAny_bind (wpAny_pure ?_);show wpAny (model X.prog X.w) X.A (do rule "assign.swapped-stores";let items ←unpackItems (.ref s1.heap.objs.size) 2 none;assignInOrder [λv=>bindName X.env y v,λv=>bindName X.env x v] items.reverse;pure Flow.next) _ _ _
 refine wpAny_bind (wpAny_rule (wpAny_bind (unpackItems_tuple (items:= #[u1,u2]) (I.ok.hd hc) (IsTup.new s1.heap _) λh' wZ=>?_)));have I3:=I2.kept (h':=h') (t':=s1.toks) λb o e=>wZ b o (di (Heap.lt_size e)) e;show wpAny _ _ (assignInOrder [λv=>bindName X.env y v,λv=>bindName X.env x v] [u2,u1]>>=λ_=>pure Flow.next) _ _ _;refine wpAny_bind (assignInOrder_cons (wpAny_bindName (kn I3 hN hj (.inl hy) vG (λs2 I4=>?_) (.inr hy))));refine assignInOrder_cons (wpAny_bindName (kn I4 hN hi (.inl hx) rv (λs3 I5=>assignInOrder_nil (wpAny_pure ?_)) (.inr hx)));rw [List.set_comm _ _ (Ne.symm dm)] at I5;exact ⟨_,H1,I5,q1⟩
end
section
variable {X:Cx} {pos:Pos}
def E1(c:TT)(tb:TS):TS:=λD σ H=>∃W:Nat→St→Hp→Prop,(∃m,W m σ H)∧∀m σ H,W m σ H→
 c σ H λb H1=>if b=true then ∃N:St→Hp→Prop,(∀ay H',N ay H'→∃m',m'<m∧W m' ay H')∧tb {D with nx:=N,ct:=N,bk:=D.nx} σ H1 else D.nx σ H1
theorem yd{c:Expr}{body:List Stmt}{tc:TT}{tb:TS}(hp:PassesOwn (model X.prog X.w) X.A X.env X.xe)(hc:PT X c tc)(hb:lJ X body tb):PS X (.While c body [] pos) (E1 tc tb):=by
 intro pins s σ H D I h;obtain ⟨W,⟨m0,w0⟩,turn⟩:=h;refine wpAny_While (codeAny_whileLoop (λn s'=>∃ay H',Inv X pins ay H' s'∧W n ay H') ?_ m0 ⟨σ,H,I,w0⟩);rintro n s1 ⟨BQ,H1,I1,w1⟩;refine wpAny_passesOwn hp (thn (hc pins s1 BQ H1 _ I1 (turn n BQ H1 w1)) λb s2 ⟨H2,I2,q2⟩=>?_);cases b with
 |true=>
  obtain ⟨N,hN,q2⟩:=q2;rw [if_pos rfl];refine wpAny_passesOwn hp (thn (hb pins s2 BQ H2 _ I2 q2) λf s3 q3=>?_);cases f with
  |next=>
   obtain ⟨sg,H3,I3,n3⟩:=q3;obtain ⟨m',hm,w3⟩:=hN sg H3 n3;exact ⟨m',hm,sg,H3,I3,w3⟩
  |cont=>
   obtain ⟨sg,H3,I3,n3⟩:=q3;obtain ⟨m',hm,w3⟩:=hN sg H3 n3;exact ⟨m',hm,sg,H3,I3,w3⟩
  |brk=>exact q3
  |ret v=>exact q3
 |false=>
  rw [if_neg cZ];exact wpAny_execs_nil ⟨BQ,H2,I2,q2⟩
end
structure It where
 go:Nat→Hp→Prop
 yld:Nat→Hp→V→Hp→Prop
 stop:Nat→Hp→Prop
def fY(X:Cx)(pins:List (Addr×Obj))(H:Hp)(b:Addr):Prop:=
 H b=none∧b≠X.env.locals∧b∉X.fs∧(b∈X.ex∨X.s₀.heap.objs.size≤b)∧(∀x c,X.env.cells.lookup x=some c→c≠b)∧∀p∈X.pn++pins,p.1≠b
theorem Inv.Ii{X:Cx}{pins:List (Addr×Obj)}{σ:St}{H H':Hp}{s:Shared}{b:Addr}(I:Inv X pins σ H s)(hb:s.heap.objs.size≤b)(hn:H' b=none):fY X pins H' b:=by
 refine ⟨hn,Nat.ne_of_gt (gO I.lt hb),I.Og hb, .inr (ku I.sz hb),λx c e z=>?_,λp hp z=>?_⟩
 ·obtain ⟨v,q⟩:=I.cell x c e
  exact absurd (gO q.lt (by rw [z];exact hb)) (m9 _)
 ·exact absurd (gO (Heap.lt_size (I.pin p hp).1) (by rw [z];exact hb)) (m9 _)
structure Turn (P:Program) (w:World) (K:PySem.W.Frag) (tg:Expr) (J:It) (fp:List Addr) (it:Addr) (tn:Nat→Heap→Prop):Prop where
 mem:it∈fp
 obj:∀i h,tn i h→∀b∈fp,∃o,h.get? b=some o∧∀v,o.data≠ .cell v
 keep:∀i h h',tn i h→(∀b∈fp,∀o,h.get? b=some o→h'.get? b=some o)→tn i h'
 item:∀(X:Cx),X.prog=P→X.w=w→X.K=K→X.calm=true→∀(i:Nat)(pins:List (Addr×Obj))(s:Shared)(σ:St)(H:Hp)(E:Value→Shared→Prop),Inv X pins σ H s→(∀b∈fp,fY X pins H b)→tn i s.heap→J.go i H→
  wpAny (model P w) X.A (pyNext (.ref it)) (λr s1=>∃u,r=some u∧
   wpAny (model P w) X.A (letOwnedTupleGo tg (.ref it) u) (λ_ s2=>∃x H',Inv X pins σ H' s2∧RelV x u∧J.yld i H x H'∧tn (i+1) s2.heap∧∀b∈fp,H' b=none) E s1) E s
 done:∀(X:Cx),X.prog=P→X.w=w→X.K=K→X.calm=true→∀(i:Nat)(pins:List (Addr×Obj))(s:Shared)(σ:St)(H:Hp)(E:Value→Shared→Prop),Inv X pins σ H s→(∀b∈fp,fY X pins H b)→tn i s.heap→J.stop i H→
  wpAny (model P w) X.A (pyNext (.ref it)) (λr s1=>r=none∧Inv X pins σ H s1) E s
 self:∀(A:Around)(i:Nat)(s:Shared)(Q:Value→Shared→Prop)(E:Value→Shared→Prop),tn i s.heap→Q (.ref it) s→wpAny (model P w) A (pyIter (.ref it)) Q E s
abbrev TI:=St→Hp→(It→Hp→Prop)→Prop
def RO(X:Cx)(pins:List (Addr×Obj))(σ:St)(tg:Expr)(R:It→Hp→Prop)(F6:Value)(s2:Shared):Prop:=
 ∃(it:Addr)(fp:List Addr)(tn:Nat→Heap→Prop)(J:It)(H':Hp),F6= .ref it∧Inv X pins σ H' s2∧Turn X.prog X.w X.K tg J fp it tn∧tn 0 s2.heap∧(∀b∈fp,fY X pins H' b)∧R J H'
def PI(X:Cx)(tg iter:Expr)(wi:TI):Prop:=
 ∀(pins:List (Addr×Obj))(s:Shared)(σ:St)(H:Hp)(R:It→Hp→Prop),Inv X pins σ H s→wi σ H R→
  wpAny (model X.prog X.w) X.A (eval iter X.env) (λv s1=>wpAny (model X.prog X.w) X.A (pyIter v) (RO X pins σ tg R) X.xe s1) X.xe s
theorem Ip{M:Model}{A:Around}{E:Value→Shared→Prop}{s:Shared}{tg:Expr}{it:Addr}{u:Value}{o:Obj}{n:String}{vs:Array Value}{Q:Unit→Shared→Prop}(ho:s.heap.get? it=some o)(hc:o.cls= .type n)(hd:o.data= .fields vs)
  (hn: ["enumerate","zip","dict_itemiterator","dict_reverseitemiterator","odict_iterator","itertools.zip_longest","itertools.pairwise"].contains n=false) (hQ:Q () s):wpAny M A (letOwnedTupleGo tg (.ref it) u) Q E s:=by
 unfold letOwnedTupleGo
 cases tg<;>first
  |exact wpAny_pure hQ
  | (cases u<;>first
    |exact wpAny_pure hQ
    | (refine wpAny_bind (wpAny_load ho ?_)
       rw [hc,hd];show wpAny M A (if (["enumerate","zip","dict_itemiterator","dict_reverseitemiterator","odict_iterator","itertools.zip_longest","itertools.pairwise"].contains n&&vs[0]? ==some (rawInt _))=true then _ else _) Q E s;rw [if_neg (by intro h;rw [hn,Bool.false_and] at h;cases h)]
       exact wpAny_pure hQ))
def Fg(K:PySem.W.Frag)(a:Addr):It:=
 ⟨λi H=>∃xs x,aH K H a xs∧xs[i]? =some x,λi H x H'=>H'=H∧∀xs,aH K H a xs→xs[i]? =some x,λi H=>∃xs,aH K H a xs∧xs.length≤i⟩
def z0(lo:Int)(n:Nat):It:=⟨λi _=>i<n,λi H x H'=>H'=H∧x= .int (lo+i),λi _=>n≤i⟩
theorem DY{P:Program}{w:World}{K:PySem.W.Frag}{tg:Expr}(a it:Addr):Turn P w K tg (Fg K a) [it] it (λi h=>h.IsListIter it a i) where
 mem:=by simp
 obj:=λi h st b hb=>by
  have e:b=it:=by simpa using hb
  subst e;obtain ⟨o,e,c,d⟩:=st;exact ⟨o,e,λv z=>by rw [d] at z;cases z⟩
 keep:=λi h h' st k=>st.at λo e=>k it (by simp) o e
 item:=by
  intro X hP hw hK hc i pins s σ H E I hf st hg;subst hP hw hK;obtain ⟨xs,x,hq,hx⟩:=hg;obtain ⟨its,rv,p,hz⟩:=I.list hq;obtain ⟨u,hu,ru⟩:=rv.get hx;obtain ⟨f0,f1,f2,f3,f4,f5⟩:=hf it (by simp)
  refine wpAny_pyNext_list_item st p.isList (x:=u) (by simpa using hu) λh' ag sb=>?_
  have I1:Inv X pins σ H {s with heap:=h'}:=I.turned (t':=s.toks) (λb o hb e=>(sb.2 b hb).trans e) f0 f1 f3 f4 f5
  obtain ⟨o,e,c,d⟩:=id ag;exact ⟨u,rfl,Ip (s:={s with heap:=h'}) e c d (by decide) ⟨x,H,I1,ru,⟨rfl,λys hy=>by rw [I.xY hy hq];exact hx⟩,ag,λb hb=>(hf b hb).1⟩⟩
 done:=by
  intro X hP hw hK hc i pins s σ H E I hf st hg;subst hP hw hK;obtain ⟨xs,hq,hx⟩:=hg;obtain ⟨its,rv,p,hz⟩:=I.list hq;obtain ⟨f0,f1,f2,f3,f4,f5⟩:=hf it (by simp)
  have hl:=rv.length;exact wpAny_pyNext_list_end (I.ok.hd hc) st p.isList (by simp;omega) λh' eb=>⟨rfl,I.turned (t':=s.toks) (λb o hb e=>eb b o hb e) f0 f1 f3 f4 f5⟩
 self:=λ_ _ _ _ _ st h=>wpAny_pyIter_listiter st h
theorem BC{P:Program}{w:World}{K:PySem.W.Frag}{tg:Expr}(it:Addr)(lo:Int)(n:Nat):Turn P w K tg (z0 lo n) [it] it (λi h=>IsRangeIter h it (lo+(i:Nat)*1) ((n:Int)-(i:Nat)) 1) where
 mem:=by simp
 obj:=λi h st b hb=>by
  have e:b=it:=by simpa using hb
  subst e
  exact ⟨_,st,λv z=>by
   have z':Data.fields _=Data.cell v:=z;cases z'⟩
 keep:=λi h h' st k=>k it (by simp) _ st
 item:=by
  intro X hP hw hK hc i pins s σ H E I hf st hg;subst hP hw hK;obtain ⟨f0,f1,f2,f3,f4,f5⟩:=hf it (by simp)
  have W:=Walks.range (prog:=X.prog) (w:=X.w) (I.ok.hd hc) it lo 1 n;refine W.item i s _ _ hg st λv h' tk hv ag kk=>?_;obtain ⟨t,rfl⟩:=hv;have I1:Inv X pins σ H {s with heap:=h',toks:=tk}:=I.turned (λb o hb e=>kk b o (by simpa using hb) e) f0 f1 f3 f4 f5
  refine ⟨_,rfl,Ip (s:={s with heap:=h',toks:=tk}) (n:="range_iterator") ag rfl rfl (by decide) ⟨.int (lo+i),H,I1,⟨t,?_⟩,⟨rfl,rfl⟩,ag,λb hb=>(hf b hb).1⟩⟩
  rw [Int.mul_one]
 done:=by
  intro X hP hw hK hc i pins s σ H E I hf st hg;subst hP hw hK;obtain ⟨f0,f1,f2,f3,f4,f5⟩:=hf it (by simp)
  exact wpAny_pyNext_range_end (I.ok.hd hc) st (by have:n≤i:=hg;omega) λh' eb=>⟨rfl,I.turned (t':=s.toks) (λb o hb e=>eb b o hb e) f0 f1 f3 f4 f5⟩
 self:=λ_ _ _ _ _ st h=>wpAny_pyIter_rangeiter st h
section
variable {X:Cx} {tg:Expr}
def Qy(K:PySem.W.Frag)(tl:TE):TI:=λσ H R=>tl σ H λx H1=>∃a,x= .ref a∧(∃xs,aH K H1 a xs)∧R (Fg K a) H1
theorem kh{l:Expr}{tl:TE}(hl:PE X l tl):PI X tg l (Qy X.K tl):=by
 intro pins s σ H R I h;refine thn (hl pins s σ H _ I h) λv s1 ⟨x,H1,I1,r1,q1⟩=>?_;obtain ⟨a,e,⟨xs,hq⟩,q⟩:=q1;subst e;cases r1;obtain ⟨its,rv,p,hz⟩:=I1.list hq;refine wpAny_pyIter_list p.isList ?_;refine ⟨s1.heap.objs.size,[s1.heap.objs.size],_,_,H1,rfl,I1.kept (t':=s1.toks) λb o e=>Heap.get?_push_of_some _ e,DY a _,⟨_,Heap.get?_push_size _ rfl,rfl,rfl⟩,λb hb=>?_,q⟩;have e:b=s1.heap.objs.size:=by simpa using hb
 subst e;exact I1.Ii (aV _) (I1.hok.fresh (aV _))
theorem yf{pins:List (Addr×Obj)}{σ:St}{H:Hp}{s:Shared}{R:It→Hp→Prop}{E:Value→Shared→Prop}{lo hi:Int}{t u v:Tok}{tk:Nat}(I:Inv X pins σ H s)(h1: -(2^62)≤lo)(h2:lo<2^62)(h3: -(2^62)≤hi)(h4:hi<2^62)
  (q:R (z0 lo (hi-lo).toNat) H):wpAny (model X.prog X.w) X.A (pyIter (.ref s.heap.objs.size)) (RO X pins σ tg R) E {s with heap:=s.heap.push {cls:= .type "range",data:= .fields #[.int lo t, .int hi u, .int 1 v]},toks:=tk}:=by
 refine wpAny_pyIter_range (IsRange.new ..) (small_one h1 h2 h3 h4) ?_;have I1:Inv X pins σ H {s with heap:=s.heap.push {cls:= .type "range",data:= .fields #[.int lo t, .int hi u, .int 1 v]},toks:=tk}:=I.kept λb o e=>Heap.get?_push_of_some _ e
 refine ⟨(s.heap.push {cls:= .type "range",data:= .fields #[.int lo t, .int hi u, .int 1 v]}).objs.size,[(s.heap.push {cls:= .type "range",data:= .fields #[.int lo t, .int hi u, .int 1 v]}).objs.size],_,_,H,rfl,
  I1.kept (t':=tk) λb o e=>Heap.get?_push_of_some _ e,BC _ lo (hi-lo).toNat,?_,λb hb=>?_,q⟩
 ·have e1:lo+((0:Nat):Int)*1=lo:=by simp
  have e2:(((hi-lo).toNat:Nat):Int)-((0:Nat):Int)=Builtin.Range.rangeSize lo hi 1:=by rw [rangeSize_one];split<;>omega
  show IsRangeIter _ _ (lo+((0:Nat):Int)*1) ((((hi-lo).toNat:Nat):Int)-((0:Nat):Int)) 1;rw [e1,e2];exact Heap.get?_push_size _ rfl
 ·have e:b=(s.heap.push {cls:= .type "range",data:= .fields #[.int lo t, .int hi u, .int 1 v]}).objs.size:=by simpa using hb
  subst e;exact I1.Ii (aV _) (I1.hok.fresh (aV _))
def Qz(ta:TA):TI:=λσ H R=>ta σ H λvs H1=>∃j:Int,vs= [.int j]∧-(2^62)≤j∧j<2^62∧R (z0 0 j.toNat) H1
def QA(ta:TA):TI:=λσ H R=>ta σ H λvs H1=>∃i j:Int,vs= [.int i, .int j]∧(-(2^62)≤i∧i<2^62∧-(2^62)≤j∧j<2^62)∧R (z0 i (j-i).toNat) H1
theorem kT{a:Expr}{ta:TA}{p pos:Pos}(hg:Gl X "range")(hm:X.mg "range"=none)(ha:PA X [a] ta)(hs:starEach [a] X.env= [(false,eval a X.env)]:=by rfl):PI X tg (.Call (.Name "range" p) [a] [] pos) (Qz ta):=by
 intro pins s σ H R I h;refine Call_ (kM I hg hm boot_range (PyProof.Rows.callWith_type1 (thn (ha pos pins s σ H _ I h) λus s1 ⟨vs,H1,I1,r1,q1⟩=>?_) hs rfl));obtain ⟨j,e,q1,q2,q⟩:=q1;subst e;cases r1 with
 |cons r rr=>
  cases rr;obtain ⟨t,rfl⟩:=r;exact call_range_1 (yf I1 (by omega) (by omega) q1 q2 (by simpa using q))
theorem Dc{a b:Expr}{ta:TA}{p pos:Pos}(hg:Gl X "range")(hm:X.mg "range"=none)(ha:PA X [a,b] ta)(hs:starEach [a,b] X.env= [(false,eval a X.env),(false,eval b X.env)]:=by rfl)(mv:starEach [b] X.env= [(false,eval b X.env)]:=by rfl):
  PI X tg (.Call (.Name "range" p) [a,b] [] pos) (QA ta):=by
 intro pins s σ H R I h;refine Call_ (kM I hg hm boot_range (PyProof.Rows.callWith_type1 (thn (ha pos pins s σ H _ I h) λus s1 ⟨vs,H1,I1,r1,q1⟩=>?_) (by rw [hs,mv]) (by rw [mv];rfl)))
 obtain ⟨i,j,e,⟨q1,q2,q3,q4⟩,q⟩:=q1;subst e;cases r1 with
 |cons r rr=>
  cases rr with
  |cons r' rr=>
   cases rr;obtain ⟨t,rfl⟩:=r;obtain ⟨t',rfl⟩:=r';exact call_range_2 (yf I1 q1 q2 q3 q4 q)
def X2(wi:TI)(g:TG)(tb:TS):TS:=λD σ H=>wi σ H λJ H1=>∃W:Nat→Nat→St→Hp→Prop,(∃m,W 0 m σ H1)∧∀i m σ H,W i m σ H→
 (J.stop i H∧D.nx σ H)∨(J.go i H∧∃N:St→Hp→Prop,(∀ay H',N ay H'→∃m',m'<m∧W (i+1) m' ay H')∧∀x H',J.yld i H x H'→g x σ H' λcD H2=>tb {D with nx:=N,ct:=N,bk:=D.nx} cD H2)
def kU(fp:List Addr)(h:Heap):List (Addr×Obj):=fp.filterMap λb=>(h.get? b).map λo=>(b,o)
theorem dU{fp:List Addr}{h:Heap}{b:Addr}{o:Obj}(hb:b∈fp)(e:h.get? b=some o):(b,o)∈kU fp h:=List.mem_filterMap.mpr ⟨b,hb,by rw [e];rfl⟩
theorem C2{fp:List Addr}{h:Heap}{p:Addr×Obj}(hp:p∈kU fp h):p.1∈fp∧h.get? p.1=some p.2:=by
 obtain ⟨b,hb,e⟩:=List.mem_filterMap.mp hp;cases q:h.get? b with
 |none=>rw [q] at e;cases e
 |some o=>
  rw [q] at e;have e':(b,o)=p:=Option.some.inj e;subst e';exact ⟨hb,q⟩
theorem Inv.pinned{pins:List (Addr×Obj)}{σ:St}{H:Hp}{s:Shared}{fp:List Addr}(I:Inv X pins σ H s)(hf:∀b∈fp,fY X pins H b)(ho:∀b∈fp,∃o,s.heap.get? b=some o∧∀v,o.data≠ .cell v):Inv X (pins++kU fp s.heap) σ H s:=
 I.qv λp hp=>(cw.mp hp).elim (λz=>I.pin p (cY _ z)) λz=>by
  obtain ⟨hb,e⟩:=C2 z;obtain ⟨f0,f1,f2,_⟩:=hf p.1 hb;obtain ⟨o,e',d⟩:=ho p.1 hb;rw [e] at e';cases e';exact ⟨e,f0,f1,f2,d⟩
theorem Inv.i6{pins pl:List (Addr×Obj)}{σ:St}{H:Hp}{s:Shared}(I:Inv X (pins++pl) σ H s):Inv X pins σ H s:=I.qv λp hp=>I.pin p (cY _ (gh _ hp))
theorem iQ{iter:Expr}{body:List Stmt}{wi:TI}{g:TG}{tb:TS}{pos:Pos}(hp:PassesOwn (model X.prog X.w) X.A X.env X.xe)(hc:X.calm=true)(hi:PI X tg iter wi)(hg:PG X tg g)(hb:lJ X body tb)
  (hs:∀x,foldedSetIterable iter X.env x=pure x:=by intro _;rfl):PS X (.For tg iter body [] pos) (X2 wi g tb):=by
 intro pins s σ H D I h;refine wpAny_For (thn (hi pins s σ H _ I h) λv s1 h1=>thn h1 λF6 s2 h2=>?_) hs;obtain ⟨it,fp,tn,J,H2,e,I2,T,jU,f2,W,⟨m0,w0⟩,turn⟩:=h2;subst e;have stat:∀{H':Hp},(∀b∈fp,H' b=none)→∀b∈fp,fY X pins H' b:=λhn b hb=>⟨hn b hb,(f2 b hb).2⟩;refine codeAny_forLoop_any (λn s'=>∃i ay H',Inv X pins ay H' s'∧tn i s'.heap∧(∀b∈fp,H' b=none)∧W i n ay H') ?_ m0 ⟨0,σ,H2,I2,jU,λb hb=>(f2 b hb).1,w0⟩;rintro n s3 ⟨i,sg,H3,I3,tX,T9,w3⟩
 rcases turn i n sg H3 w3 with ⟨stop,qn⟩ | ⟨go,N,hN,step⟩
 ·refine wpAny_passesOwn hp (thn (T.done X rfl rfl rfl hc i pins s3 sg H3 X.xe I3 (stat T9) tX stop) λr s4 ⟨hr,I4⟩=>?_)
  subst hr;exact wpAny_execs_nil ⟨sg,H3,I4,qn⟩
 ·refine wpAny_passesOwn hp (thn (T.item X rfl rfl rfl hc i pins s3 sg H3 X.xe I3 (stat T9) tX go) λr s4 ⟨u,hr,h4⟩=>?_)
  subst hr;refine wpAny_passesOwn hp (thn h4 λ_ s5 ⟨x,H5,I5,r5,y5,tY,oV⟩=>?_);have OF:=I5.pinned (stat oV) (T.obj _ _ tY);refine wpAny_passesOwn hp (thn (hg _ s5 sg H5 x u _ OF r5 (step x H5 y5)) λ_ s6 ⟨σ6,H6,I6,q6⟩=>?_);refine wpAny_passesOwn hp (thn (hb _ s6 σ6 H6 _ I6 q6) λf s7 q7=>?_)
  have again:∀{qY:St}{H7:Hp},Inv X (pins++kU fp s5.heap) qY H7 s7→N qY H7→∃m,m<n∧∃i ay H',Inv X pins ay H' s7∧tn i s7.heap∧(∀b∈fp,H' b=none)∧W i m ay H':=λ {qY H7} I7 n7=>by
   obtain ⟨m',hm,w7⟩:=hN qY H7 n7;refine ⟨m',hm,i+1,qY,H7,I7.i6,T.keep _ _ _ tY λb hb o e=>(I7.pin (b,o) (cY _ (cY _ (dU hb e)))).1,λb hb=>?_,w7⟩;obtain ⟨o,e,d⟩:=T.obj _ _ tY b hb;exact (I7.pin (b,o) (cY _ (cY _ (dU hb e)))).2.1
  cases f with
  |next=>obtain ⟨qY,H7,I7,n7⟩:=q7;exact again I7 n7
  |cont=>obtain ⟨qY,H7,I7,n7⟩:=q7;exact again I7 n7
  |brk=>obtain ⟨qY,H7,I7,q7⟩:=q7;exact ⟨qY,H7,I7.i6,q7⟩
  |ret v=>obtain ⟨x7,qY,H7,I7,r7,q7⟩:=q7;exact ⟨x7,qY,H7,I7.i6,r7,q7⟩
end
theorem FD{K:PySem.W.Frag}{a:Addr}{xs:List V}{g:TG}{tb:TS}{D:Ends}{σ:St}{H:Hp}(Pv:Nat→St→Hp→Prop)(h0:Pv 0 σ H)(hl:∀i σ H,i≤xs.length→Pv i σ H→aH K H a xs)
  (hs:∀i x σ H,xs[i]? =some x→Pv i σ H→g x σ H λcD H2=>tb {D with nx:=Pv (i+1),ct:=Pv (i+1),bk:=D.nx} cD H2) (hd:∀σ H,Pv xs.length σ H→D.nx σ H):
  ∃W:Nat→Nat→St→Hp→Prop,(∃m,W 0 m σ H)∧∀i m σ H,W i m σ H→
   ((Fg K a).stop i H∧D.nx σ H)∨((Fg K a).go i H∧∃N:St→Hp→Prop,(∀ay H',N ay H'→∃m',m'<m∧W (i+1) m' ay H')∧∀x H',(Fg K a).yld i H x H'→g x σ H' λcD H2=>tb {D with nx:=N,ct:=N,bk:=D.nx} cD H2):=by
 refine ⟨λi m σ H=>m=xs.length-i∧i≤xs.length∧Pv i σ H,⟨xs.length,by simp,cS _,h0⟩,?_⟩
 rintro i m σ H ⟨rfl,hi,p⟩;have q:=hl i σ H hi p
 by_cases bG:i<xs.length
 ·refine .inr ⟨⟨xs,xs[i],q,by simp [bG]⟩,Pv (i+1),λay H' p'=>⟨xs.length-(i+1),by omega,rfl,bG,p'⟩,λx H' y=>?_⟩
  obtain ⟨e,y⟩:=y;subst e;exact hs i x σ _ (y xs q) p
 ·have e:i=xs.length:=by omega
  subst e;exact .inl ⟨⟨xs,q,aV _⟩,hd σ H p⟩
theorem kG{lo:Int}{n:Nat}{g:TG}{tb:TS}{D:Ends}{σ:St}{H:Hp}(Pv:Nat→St→Hp→Prop)(h0:Pv 0 σ H)
  (hs:∀i σ H,i<n→Pv i σ H→g (.int (lo+i)) σ H λcD H2=>tb {D with nx:=Pv (i+1),ct:=Pv (i+1),bk:=D.nx} cD H2) (hd:∀σ H,Pv n σ H→D.nx σ H):
  ∃W:Nat→Nat→St→Hp→Prop,(∃m,W 0 m σ H)∧∀i m σ H,W i m σ H→
   ((z0 lo n).stop i H∧D.nx σ H)∨((z0 lo n).go i H∧∃N:St→Hp→Prop,(∀ay H',N ay H'→∃m',m'<m∧W (i+1) m' ay H')∧∀x H',(z0 lo n).yld i H x H'→g x σ H' λcD H2=>tb {D with nx:=N,ct:=N,bk:=D.nx} cD H2):=by
 refine ⟨λi m σ H=>m=n-i∧i≤n∧Pv i σ H,⟨n,by simp,cS _,h0⟩,?_⟩
 rintro i m σ H ⟨rfl,hi,p⟩
 by_cases bG:i<n
 ·refine .inr ⟨bG,Pv (i+1),λay H' p'=>⟨n-(i+1),by omega,rfl,bG,p'⟩,λx H' y=>?_⟩
  obtain ⟨e,y⟩:=y;subst e y;exact hs i σ _ bG p
 ·have e:i=n:=by omega
  subst e;exact .inl ⟨aV _,hd σ H p⟩
theorem GR{c:TT}{tb:TS}{D:Ends}{σ:St}{H:Hp}(Pv:St→Hp→Prop)(μ:St→Hp→Nat)(h0:Pv σ H)
  (hs:∀σ H,Pv σ H→c σ H λb H1=>if b=true then tb {D with nx:=λay H'=>Pv ay H'∧μ ay H'<μ σ H,ct:=λay H'=>Pv ay H'∧μ ay H'<μ σ H,bk:=D.nx} σ H1 else D.nx σ H1)
  (mono:∀σ H Q Q',(∀b H1,Q b H1→Q' b H1)→c σ H Q→c σ H Q'):E1 c tb D σ H:=by
 refine ⟨λm σ H=>m=μ σ H∧Pv σ H,⟨_,rfl,h0⟩,?_⟩;rintro m σ H ⟨rfl,p⟩;refine mono σ H _ _ (λb H1 q=>?_) (hs σ H p);cases b with
 |true=>exact ⟨_,λay H' ⟨p',l⟩=>⟨_,l,rfl,p'⟩,q⟩
 |false=>exact q
abbrev R2:=V→V→Hp→VK→Prop
def OpR(X:Cx)(f:Value→Value→Sem Value)(r:R2):Prop:=
 ∀(pins:List (Addr×Obj))(s:Shared)(σ:St)(H:Hp)(x y:V)(v u:Value)(Q:VK),Inv X pins σ H s→RelV x v→RelV y u→r x y H Q→
  wpAny (model X.prog X.w) X.A (f v u) (EP X pins σ Q) X.xe s
def UnR(X:Cx)(f:Value→Sem Value)(r:V→Hp→VK→Prop):Prop:=
 ∀(pins:List (Addr×Obj))(s:Shared)(σ:St)(H:Hp)(x:V)(v:Value)(Q:VK),Inv X pins σ H s→RelV x v→r x H Q→
  wpAny (model X.prog X.w) X.A (f v) (EP X pins σ Q) X.xe s
def bZ(X:Cx)(f:Value)(r:List V→Hp→VK→Prop):Prop:=
 ∀(pins:List (Addr×Obj))(s:Shared)(σ:St)(H:Hp)(xs:List V)(us:List Value)(Q:VK),Inv X pins σ H s→Vals xs us→r xs H Q→
  wpAny (model X.prog X.w) X.A (call f us) (EP X pins σ Q) X.xe s
def RP(X:Cx)(r:V→Hp→(Bool→Hp→Prop)→Prop):Prop:=
 ∀(pins:List (Addr×Obj))(s:Shared)(σ:St)(H:Hp)(x:V)(v:Value)(Q:Bool→Hp→Prop),Inv X pins σ H s→RelV x v→r x H Q→
  wpAny (model X.prog X.w) X.A (truthy v) (TP X pins σ Q) X.xe s
def zM(r:R2)(ta tb:TE):TE:=λσ H Q=>ta σ H λx H1=>tb σ H1 λy H2=>r x y H2 Q
def tUn(r:V→Hp→VK→Prop)(ta:TE):TE:=λσ H Q=>ta σ H λx H1=>r x H1 Q
def rI(C:Int→Int→Prop)(g:Int→Int→V):R2:=λx y H Q=>∃i j,x= .int i∧y= .int j∧C i j∧Q (g i j) H
def Dq(g:Int→Int→V):R2:=λx y H Q=>∃i j,x= .int i∧y= .int j∧Q (g i j) H
def rU(g:Int→V):V→Hp→VK→Prop:=λx H Q=>∃i,x= .int i∧Q (g i) H
section
variable {X:Cx} {a b c:Expr} {ta tb tc:TE} {pos:Pos}
theorem Hl(ha:PE X a ta)(hb:PE X b tb){pins:List (Addr×Obj)}{s:Shared}{σ:St}{H:Hp}{R:V→V→Hp→Prop}(I:Inv X pins σ H s)
  (h:ta σ H λx H1=>tb σ H1 λy H2=>R x y H2) {Q:Value→Shared→Prop} {f:Value→Value→Sem Value}
  (hf:∀v u s2 x y H2,Inv X pins σ H2 s2→RelV x v→RelV y u→R x y H2→wpAny (model X.prog X.w) X.A (f v u) Q X.xe s2):
  wpAny (model X.prog X.w) X.A (eval a X.env) (λv s₁=>wpAny (model X.prog X.w) X.A (eval b X.env) (λu EY=>wpAny (model X.prog X.w) X.A (f v u) Q X.xe EY) X.xe s₁) X.xe s:=by
 refine thn (ha pins s σ H _ I h) λv s1 ⟨x,H1,I1,r1,q1⟩=>?_;refine thn (hb pins s1 σ H1 _ I1 q1) λu s2 ⟨y,H2,I2,r2,q2⟩=>?_;exact hf v u s2 x y H2 I2 r1 r2 q2
theorem cm{op:Operator}{r:R2}(ho:OpR X (binaryOp op) r)(ha:PE X a ta)(hb:PE X b tb):PE X (.BinOp a op b pos) (zM r ta tb):=by
 intro pins s σ H Q I h;exact wpAny_BinOp (Hl ha hb I h λv u s2 x y H2 I2 rx ry q=>ho pins s2 σ H2 x y v u Q I2 rx ry q)
theorem Q3{op:UnaryOp}{r:V→Hp→VK→Prop}(ho:UnR X (unaryOp op) r)(ha:PE X a ta):PE X (.UnaryOp op a pos) (tUn r ta):=by
 intro pins s σ H Q I h;exact UnaryOp_ (thn (ha pins s σ H _ I h) λv s1 ⟨x,H1,I1,r1,q1⟩=>ho pins s1 σ H1 x v Q I1 r1 q1)
theorem Ma{f:Value→Value→Sem Value}{C:Int→Int→Prop}{g:Int→Int→Int}
  (rule:∀(i j:Int)(t u:Tok)(s:Shared)(Q:Value→Shared→Prop)(E:Value→Shared→Prop),C i j→Q (.int (g i j) s.toks) {s with toks:=s.toks+1}→wpAny (model X.prog X.w) X.A (f (.int i t) (.int j u)) Q E s):
  OpR X f (rI C λi j=> .int (g i j)):=by
 intro pins s σ H x y v u Q I rx ry h;obtain ⟨i,j,rfl,rfl,hc,q⟩:=h;obtain ⟨t,rfl⟩:=rx;obtain ⟨t',rfl⟩:=ry;exact rule i j t t' s _ _ hc ⟨.int (g i j),H,I.tok _,⟨_,rfl⟩,q⟩
theorem WQ{f:Value→Value→Sem Value}{g:Int→Int→Int}
  (rule:∀(i j:Int)(t u:Tok)(s:Shared)(Q:Value→Shared→Prop)(E:Value→Shared→Prop),Q (.int (g i j) s.toks) {s with toks:=s.toks+1}→wpAny (model X.prog X.w) X.A (f (.int i t) (.int j u)) Q E s):
  OpR X f (Dq λi j=> .int (g i j)):=by
 intro pins s σ H x y v u Q I rx ry h;obtain ⟨i,j,rfl,rfl,q⟩:=h;obtain ⟨t,rfl⟩:=rx;obtain ⟨t',rfl⟩:=ry;exact rule i j t t' s _ _ ⟨.int (g i j),H,I.tok _,⟨_,rfl⟩,q⟩
theorem JU{f:Value→Value→Sem Value}{g:Int→Int→Bool}
  (rule:∀(i j:Int)(t u:Tok)(s:Shared)(Q:Value→Shared→Prop)(E:Value→Shared→Prop),Q (.bool (g i j)) s→wpAny (model X.prog X.w) X.A (f (.int i t) (.int j u)) Q E s):
  OpR X f (Dq λi j=> .bl (g i j)):=by
 intro pins s σ H x y v u Q I rx ry h;obtain ⟨i,j,rfl,rfl,q⟩:=h;obtain ⟨t,rfl⟩:=rx;obtain ⟨t',rfl⟩:=ry;exact rule i j t t' s _ _ ⟨.bl (g i j),H,I,rfl,q⟩
def M8(i j:Int):Prop:=0<j∧j<1073741824
def RE(i j:Int):Prop:=0≤j∧j≤1000000∧i.natAbs<2^64
def GW(i j:Int):Prop:=(-(2^64)<i∧i<2^64)∨(-(2^64)<j∧j<2^64)
theorem GW.ok{i j:Int}(h:GW i j):IntMulOk i j:=by
 rcases h with ⟨h1,h2⟩ | ⟨h1,h2⟩
 ·exact .of_left (intBits_le_64 h1 h2)
 ·exact .of_right (intBits_le_64 h1 h2)
theorem gF:OpR X (binaryOp .Add) (Dq λi j=> .int (i+j)):=WQ λ_ _ _ _ _ _ _ q=>add_int q
theorem nM:OpR X (binaryOp .Mult) (rI GW λi j=> .int (i*j)):=Ma λ_ _ _ _ _ _ _ hc q=>mul_int q hc.ok
theorem JW:OpR X (binaryOp .FloorDiv) (rI M8 λi j=> .int (i / j)):=Ma λi j _ _ _ _ _ hc q=>by
 have h1:(0:Int)<j:=hc.1;have h2:j<1073741824:=hc.2;exact floordiv_int (by omega) (by rw [Int.fdiv_eq_ediv_of_nonneg i (by omega)];exact q) (.inl (PyProof.noPylong_small (by omega)))
theorem nK:OpR X (binaryOp .Mod) (rI (λ_ j=>0<j) λi j=> .int (i%j)):=Ma λi j _ _ _ _ _ hc q=>by
 have h1:(0:Int)<j:=hc;exact mod_int' (by omega) (by rw [Int.fmod_eq_emod_of_nonneg i (by omega)];exact q)
theorem Md:OpR X (binaryOp .Pow) (rI RE λi j=> .int (i^j.toNat)):=Ma λ_ _ _ _ _ _ _ hc q=>pow_int_small hc.1 hc.2.1 hc.2.2 q
theorem unI{f:Value→Sem Value}{g:Int→Int}
  (rule:∀(i:Int)(t:Tok)(s:Shared)(Q:Value→Shared→Prop)(E:Value→Shared→Prop),Q (.int (g i) s.toks) {s with toks:=s.toks+1}→wpAny (model X.prog X.w) X.A (f (.int i t)) Q E s):
  UnR X f (rU λi=> .int (g i)):=by
 intro pins s σ H x v Q I rx h;obtain ⟨i,rfl,q⟩:=h;obtain ⟨t,rfl⟩:=rx;exact rule i t s _ _ ⟨.int (g i),H,I.tok _,⟨_,rfl⟩,q⟩
theorem M0:UnR X (unaryOp .USub) (rU λi=> .int (-i)):=unI λ_ _ _ _ _ q=>neg_int q
end
def Xr:V→V→Bool
 | .aM, .aM=>true| .aM, .int _=>true| .int _, .aM=>true| .aM, .bl _=>true| .bl _, .aM=>true| .aM, .str _=>true| .str _, .aM=>true
 | .int _, .int _=>true| .bl _, .bl _=>true| .str _, .str _=>true| .tM _, .tM _=>true
 | .int _, .str _=>true| .str _, .int _=>true| .bl _, .str _=>true| .str _, .bl _=>true
 |_,_=>false
def rNe:R2:=λx y H Q=>Xr x y=true∧Q (.bl (!decide (x=y))) H
theorem HK{i j:Int}:decide (V.int i=V.int j)=(i==j):=by
 rw [Bool.eq_iff_iff];simp
theorem Le{i j:Bool}:decide (V.bl i=V.bl j)=(i==j):=by
 rw [Bool.eq_iff_iff];simp
theorem HL{i j:Str}:decide (V.str i=V.str j)=(i==j):=by
 rw [Bool.eq_iff_iff];simp
theorem HJ{i j:Array UInt8}:decide (V.tM i=V.tM j)=(i.toList==j.toList):=by
 rw [Bool.eq_iff_iff];cases i;cases j;simp
section
variable {X:Cx} {a b c:Expr} {ta tb tc:TE} {pos:Pos}
theorem cP{pins:List (Addr×Obj)}{σ:St}{H:Hp}{s:Shared}{Q:VK}{k k':Bool}(I:Inv X pins σ H s)(q:Q (.bl k) H)(e:k=k'):EP X pins σ Q (.bool k') s:=by
 subst e;exact ⟨.bl k,H,I,rfl,q⟩
theorem QY:OpR X (compareOp .NotEq) rNe:=by
 intro pins s σ H x y v u Q I rx ry h;obtain ⟨hs,q⟩:=h;cases x with
 |aM=>
  cases rx;cases y with
  |aM=>cases ry;exact PySem.EqNone.ne_none_none (cP I q (by simp))
  |bl j=>cases ry;exact PySem.EqNone.ne_none_bool (cP I q (by simp))
  |int j=>obtain ⟨t',rfl⟩:=ry;exact PySem.EqNone.ne_none_int (cP I q (by simp))
  |str j=>obtain ⟨t',rfl⟩:=ry;exact PySem.EqNone.ne_none_str (cP I q (by simp))
  |_=>exact absurd (show false=true from hs) cZ
 |bl i=>
  cases rx;cases y with
  |aM=>cases ry;exact PySem.EqNone.ne_bool_none (cP I q (by simp))
  |bl j=>cases ry;exact ne_bool (cP I q (congrArg not Le))
  |str j=>obtain ⟨t',rfl⟩:=ry;exact PySem.EqMixed.ne_bool_str (cP I q (by simp))
  |_=>exact absurd (show false=true from hs) cZ
 |int i=>
  obtain ⟨t,rfl⟩:=rx;cases y with
  |aM=>cases ry;exact PySem.EqNone.ne_int_none (cP I q (by simp))
  |int j=>obtain ⟨t',rfl⟩:=ry;exact ne_int (cP I q (congrArg not HK))
  |str j=>obtain ⟨t',rfl⟩:=ry;exact PySem.EqMixed.ne_int_str (cP I q (by simp))
  |_=>exact absurd (show false=true from hs) cZ
 |str i=>
  obtain ⟨t,rfl⟩:=rx;cases y with
  |aM=>cases ry;exact PySem.EqNone.ne_str_none (cP I q (by simp))
  |bl j=>cases ry;exact PySem.EqMixed.ne_str_bool (cP I q (by simp))
  |int j=>obtain ⟨t',rfl⟩:=ry;exact PySem.EqMixed.ne_str_int (cP I q (by simp))
  |str j=>obtain ⟨t',rfl⟩:=ry;exact ne_str (cP I q (congrArg not HL))
  |_=>exact absurd (show false=true from hs) cZ
 |tM i=>
  obtain ⟨t,rfl⟩:=rx;cases y with
  |tM j=>obtain ⟨t',rfl⟩:=ry;exact PySem.W.ne_bytes (cP I q (congrArg not HJ))
  |_=>exact absurd (show false=true from hs) cZ
 |_=>cases y<;>exact absurd (show false=true from hs) cZ
theorem C5:OpR X (compareOp .Lt) (Dq λi j=> .bl (decide (i<j))):=JU λ_ _ _ _ _ _ _ q=>lt_int q
theorem QX:OpR X (compareOp .LtE) (Dq λi j=> .bl (decide (i≤j))):=JU λ_ _ _ _ _ _ _ q=>le_int q
theorem JX:OpR X (compareOp .Gt) (Dq λi j=> .bl (decide (j<i))):=JU λ_ _ _ _ _ _ _ q=>gt_int q
theorem Mc:OpR X (compareOp .Is) (λx y H Q=>y= .aM∧Q (.bl (decide (x= .aM))) H):=by
 intro pins s σ H x y v u Q I rx ry h;obtain ⟨rfl,q⟩:=h;cases ry;refine is_none_gen (cP I q ?_)
 cases x<;>first
  | (cases rx;rfl)
  | (obtain ⟨t,rfl⟩:=rx;rfl)
theorem JY:OpR X (compareOp .IsNot) (λx y H Q=>y= .aM∧Q (.bl (!decide (x= .aM))) H):=by
 intro pins s σ H x y v u Q I rx ry h;obtain ⟨rfl,q⟩:=h;cases ry;refine isnot_none_gen (cP I q ?_)
 cases x<;>first
  | (cases rx;rfl)
  | (obtain ⟨t,rfl⟩:=rx;rfl)
theorem xf:OpR X (compareOp .NotIn) (λx y H Q=>∃i j,x= .str i∧y= .str j∧Q (.bl (!(!(Builtin.Str.occurrences j i 0 j.length 1).isEmpty))) H):=by
 intro pins s σ H x y v u Q I rx ry h;obtain ⟨i,j,rfl,rfl,q⟩:=h;obtain ⟨t,rfl⟩:=rx;obtain ⟨t',rfl⟩:=ry;exact notIn_str (cP I q rfl)
theorem OpR.or{f:Value→Value→Sem Value}{r r':R2}(h:OpR X f r)(h':OpR X f r'):OpR X f (λx y H Q=>r x y H Q∨r' x y H Q):=by
 intro pins s σ H x y v u Q I rx ry q
 rcases q with q|q
 ·exact h pins s σ H x y v u Q I rx ry q
 ·exact h' pins s σ H x y v u Q I rx ry q
theorem br(b:Expr){op:CmpOp}(h:op≠ .In:=by decide)(h2:op≠ .NotIn:=by decide):behindInMarks op b=false:=by
 have e1:(op==CmpOp.In)=false:=by cases op<;>first|rfl|exact absurd rfl h
 have e2:(op==CmpOp.NotIn)=false:=by cases op<;>first|rfl|exact absurd rfl h2
 cases b<;>simp [behindInMarks,e1,e2]
theorem Ba{op:CmpOp}{r:R2}(ho:OpR X (compareOp op) r)(ha:PE X a ta)(hb:PE X b tb)(hm:behindInMarks op b=false):PE X (.Compare a [op] [b] pos) (zM r ta tb):=by
 intro pins s σ H Q I h;exact wpAny_Compare1 (Hl ha hb I h λv u s2 x y H2 I2 rx ry q=>ho pins s2 σ H2 x y v u Q I2 rx ry q) hm
def DS(t:TE):TT:=λσ H Q=>t σ H λx H'=>∃k,x= .bl k∧Q k H'
theorem ic{op:CmpOp}{r:R2}(ho:OpR X (compareOp op) r)(ha:PE X a ta)(hb:PE X b tb)(hm:behindInMarks op b=false):PT X (.Compare a [op] [b] pos) (DS (zM r ta tb)):=by
 intro pins s σ H Q I h
 refine wpAny_isTrue_Compare1 (thn (ha pins s σ H _ I h) λv s1 ⟨x,H1,I1,r1,q1⟩=>thn (hb pins s1 σ H1 _ I1 q1) λu s2 ⟨y,H2,I2,r2,q2⟩=>
  thn (ho pins s2 σ H2 x y v u _ I2 r1 r2 q2) λc s3 ⟨z,H3,I3,r3,k,e,q3⟩=>?_) hm
 subst e;cases r3;exact wpAny_truthy_bool ⟨H3,I3,q3⟩
def zL(r r':R2)(ta tb tc:TE):TE:=λσ H Q=>ta σ H λx H1=>tb σ H1 λy H2=>r x y H2 λz H3=>∃k,z= .bl k∧
 (if k=true then tc σ H3 λw' H4=>r' y w' H4 Q else Q (.bl false) H3)
theorem Gq{op pA:CmpOp}{r r':R2}(ho:OpR X (compareOp op) r)(lO:OpR X (compareOp pA) r')(ha:PE X a ta)(hb:PE X b tb)(hc:PE X c tc)
  (hm:lastMarks [op,pA] [b,c]=false:=by with_unfolding_all rfl):PE X (.Compare a [op,pA] [b,c] pos) (zL r r' ta tb tc):=by
 intro pins s σ H Q I h
 refine Compare_chain (thn (ha pins s σ H _ I h) λv s1 ⟨x,H1,I1,r1,q1⟩=>chain_link (thn (hb pins s1 σ H1 _ I1 q1) λu s2 ⟨y,H2,I2,r2,q2⟩=>
  thn (ho pins s2 σ H2 x y v u _ I2 r1 r2 q2) λd s3 ⟨z,H3,I3,r3,k,e,q3⟩=>?_)) hm
 subst e;cases r3;refine wpAny_truthy_bool ?_;cases k with
 |false=>exact ite_ff ⟨.bl false,H3,I3,rfl,q3⟩
 |true=>exact ite_tt (chain_last (thn (hc pins s3 σ H3 _ I3 q3) λw' s4 ⟨z',H4,I4,r4,q4⟩=>lO pins s4 σ H4 y z' u w' Q I4 r2 r4 q4))
theorem Gz{op pA:CmpOp}{r r':R2}(ho:OpR X (compareOp op) r)(lO:OpR X (compareOp pA) r')(ha:PE X a ta)(hb:PE X b tb)(hc:PE X c tc)
  (hm:lastMarks [op,pA] [b,c]=false:=by with_unfolding_all rfl):PT X (.Compare a [op,pA] [b,c] pos) (DS (zL r r' ta tb tc)):=by
 intro pins s σ H Q I h
 refine isTrue_chain (thn (ha pins s σ H _ I h) λv s1 ⟨x,H1,I1,r1,q1⟩=>test_link (thn (hb pins s1 σ H1 _ I1 q1) λu s2 ⟨y,H2,I2,r2,q2⟩=>
  thn (ho pins s2 σ H2 x y v u _ I2 r1 r2 q2) λd s3 ⟨z,H3,I3,r3,k,e,q3⟩=>?_)) hm
 subst e;cases r3;refine wpAny_truthy_bool ?_;cases k with
 |false=>
  obtain ⟨k',e',q'⟩:=q3;cases e';exact ite_ff ⟨H3,I3,q'⟩
 |true=>
  refine ite_tt (test_last (thn (hc pins s3 σ H3 _ I3 q3) λw' s4 ⟨z',H4,I4,r4,q4⟩=>thn (lO pins s4 σ H4 y z' u w' _ I4 r2 r4 q4) λd' s5 ⟨z2,H5,I5,r5,k2,e2,q5⟩=>?_));subst e2;cases r5;exact wpAny_truthy_bool ⟨H5,I5,q5⟩
def Nb(K:PySem.W.Frag)(x:V)(H:Hp)(k:Bool):Prop:=
 match x with
 | .aM=>k=false
 | .bl b=>k=b
 | .int i=>k=(i !=0)
 | .str y=>y.length≤sizeLine∧k=((y.length:Int) !=0)
 | .tM y=>y.size≤sizeLine∧k=((y.size:Int) !=0)
 | .ref p=>(∃xs,aH K H p xs∧k= !xs.isEmpty)∨(∃xs,dX K H p xs∧k= !xs.isEmpty)∨∃eD,H p=some (.dK eD)∧k= !eD.isEmpty
 |_=>False
theorem AN{κ:Type}{eD:List (κ×V)}{vs:List (κ×Value)}(r:KV eD vs):(!vs.isEmpty)= !eD.isEmpty:=by
 cases r<;>rfl
theorem sM{xs:List V}{its:List Value}(r:Vals xs its):(!its.toArray.isEmpty)= !xs.isEmpty:=by
 cases r<;>simp
theorem iO:(sizeLine:Nat)<2^63:=by rw [sizeLine_eq];decide
theorem MY:RP X (λx H Q=>∃k,Nb X.K x H k∧Q k H):=by
 intro pins s σ H x v Q I rx h;obtain ⟨k,e,q⟩:=h;have hl:=iO;have hs:sizeLine=16777216:=sizeLine_eq;cases x with
 |aM=>
  cases rx;have e':k=false:=e;subst e';exact truthy_none ⟨H,I,q⟩
 |bl b=>
  cases rx;have e':k=b:=e;subst e';exact wpAny_truthy_bool ⟨H,I,q⟩
 |int i=>
  obtain ⟨t,rfl⟩:=rx;have e':k=(i !=0):=e;subst e';exact PySem.P.truthy_int ⟨H,I,q⟩
 |str y=>
  obtain ⟨t,rfl⟩:=rx;obtain ⟨hy,e'⟩:y.length≤sizeLine∧k=((y.length:Int) !=0):=e;subst e';exact PySem.P.truthy_str (by omega) ⟨H,I.tok _,q⟩
 |tM y=>
  obtain ⟨t,rfl⟩:=rx;obtain ⟨hy,e'⟩:y.size≤sizeLine∧k=((y.size:Int) !=0):=e;subst e';exact PySem.W.truthy_bytes (by omega) ⟨H,I.tok _,q⟩
 |ref p=>
  cases rx;have e':(∃xs,aH X.K H p xs∧k= !xs.isEmpty)∨(∃xs,dX X.K H p xs∧k= !xs.isEmpty)∨∃eD,H p=some (.dK eD)∧k= !eD.isEmpty:=e
  rcases e' with ⟨xs,hx,e'⟩ | ⟨xs,hx,e'⟩ | ⟨eD,hx,e'⟩
  ·subst e'
   obtain ⟨its,r,pl,hz⟩:=I.list hx;have hlen:=r.length;exact wpAny_truthy_list pl.isList (by simp only [cn];omega) ⟨H,I.tok _,by rw [sM r];exact q⟩
  ·subst e'
   obtain ⟨its,r,pl,hz⟩:=I.tuple hx;have hlen:=r.length;exact truthy_tuple pl (by simp only [cn];omega) ⟨H,I.tok _,by rw [sM r];exact q⟩
  ·subst e'
   obtain ⟨hz,hS,vs,r,m⟩:eD.length≤sizeLine∧(p==sysModules)=false∧∃vs,KV eD vs∧s.heap.DictOf (vi X.prog X.w) p vs:=I.hok p _ hx;have hlen:eD.length=vs.length:=Paired.length r;exact wpAny_truthy_dict hS m (by omega) ⟨H,I.tok _,by rw [AN r];exact q⟩
 |_=>exact (show False from e).elim
theorem GA(ha:PE X a ta)(he:∀whole,isTrue a X.env whole=(do let v ←whole;standAt a.pos;holding [v] (truthy v))):
  PT X a (λσ H Q=>ta σ H λx H'=>∃k,Nb X.K x H' k∧Q k H'):=by
 intro pins s σ H Q I h;exact isTrue_plain (thn (ha pins s σ H _ I h) λv s1 ⟨x,H1,I1,r1,q1⟩=>MY pins s1 σ H1 x v Q I1 r1 q1) (he _)
theorem vals1{x:V}{us:List Value}(r:Vals [x] us):∃u,us= [u]∧RelV x u:=by
 cases r with
 |cons r1 r2=>cases r2;exact ⟨_,rfl,r1⟩
theorem vals2{x y:V}{us:List Value}(r:Vals [x,y] us):∃u w',us= [u,w']∧RelV x u∧RelV y w':=by
 cases r with
 |cons r1 r2=>
  cases r2 with
  |cons r3 r4=>cases r4;exact ⟨_,_,rfl,r1,r3⟩
theorem B5(hc:X.calm=true):bZ X (.builtin "max") (λxs H Q=>∃i j,xs= [.int i, .int j]∧Q (.int (if j>i then j else i)) H):=by
 intro pins s σ H xs us Q I r h;obtain ⟨i,j,rfl,q⟩:=h;obtain ⟨u,w',rfl,⟨t,rfl⟩,⟨t',rfl⟩⟩:=vals2 r;refine max_two_ints (I.ok.hd hc) λh' tk k=>⟨_,H,I.kept k,?_,q⟩
 by_cases hj:j>i
 ·rw [if_pos hj,if_pos hj];exact ⟨_,rfl⟩
 ·rw [if_neg hj,if_neg hj];exact ⟨_,rfl⟩
theorem B6(hc:X.calm=true):bZ X (.builtin "min") (λxs H Q=>∃i j,xs= [.int i, .int j]∧Q (.int (if j<i then j else i)) H):=by
 intro pins s σ H xs us Q I r h;obtain ⟨i,j,rfl,q⟩:=h;obtain ⟨u,w',rfl,⟨t,rfl⟩,⟨t',rfl⟩⟩:=vals2 r;refine min_two_ints (I.ok.hd hc) λh' tk k=>⟨_,H,I.kept k,?_,q⟩
 by_cases hj:j<i
 ·rw [if_pos hj,if_pos hj];exact ⟨_,rfl⟩
 ·rw [if_neg hj,if_neg hj];exact ⟨_,rfl⟩
theorem B4:bZ X (.type "int") (λxs H Q=>(∃i,xs= [.int i]∧Q (.int i) H)∨∃k,xs= [.bl k]∧Q (.int (if k then 1 else 0)) H):=by
 intro pins s σ H xs us Q I r h
 rcases h with ⟨i,rfl,q⟩ | ⟨k,rfl,q⟩
 ·obtain ⟨u,rfl,t,rfl⟩:=vals1 r
  exact call_int_int ⟨.int i,H,I,⟨_,rfl⟩,q⟩
 ·obtain ⟨u,rfl,r1⟩:=vals1 r
  cases r1;exact call_int_bool ⟨.int (if k then 1 else 0),H,I.tok _,⟨_,rfl⟩,q⟩
end
structure uj (h:Heap) (x dx C:Addr) (mA:Str→Option Value):Prop where
 obj:h.get? x=some (PySem.W.instObj C dx)
 ns:h.Ns1 dx mA
 ne:dx≠x
theorem CU{h:Heap}{dx:Addr}{mA:Str→Option Value}(n:h.Ns1 dx mA):∃od,h.get? dx=some od∧∀name,PySem.W.lookIn name od=some (mA name):=by
 obtain ⟨o,es,ep,ho,hd,hk,_,hm⟩:=n;refine ⟨o,ho,λname=>?_⟩;have e:=hm name;unfold nsFind findBy at e;rw [←Array.find?_toList] at e;unfold PySem.W.lookIn;rw [hd];dsimp only
 split
 ·rename_i y q
  rw [q] at e;exact congrArg some e
 ·rename_i q
  rw [q] at e
  have a:es.toList.any (·.refKey)=false:=by
   rw [List.any_eq_false];intro y hy;obtain ⟨z,t,UO⟩:=hk y (Array.mem_toList_iff.mp hy);simp [DictEntry.refKey,UO]
  have a':¬es.toList.any (·.refKey)=true:=by rw [a];exact cZ
  rw [if_neg a'];exact congrArg some e
theorem uj.look{h:Heap}{x dx C:Addr}{mA:Str→Option Value}(I:uj h x dx C mA):∃od,PySem.W.InstAt h x (PySem.W.instObj C dx) C (some od)∧∀name,PySem.W.lookIn name od=some (mA name):=
 let ⟨od,ho,hl⟩:=CU I.ns
 ⟨od,⟨I.obj,rfl,rfl,ho⟩,hl⟩
section
variable {prog:Program} {w:World} {A:Around} {E:Value→Shared→Prop} {s:Shared} {K:PySem.W.Frag} {x dx C f:Addr} {mA:Str→Option Value} {name:Str} {v:Value}
theorem get_map{expr:Bool}{Q:Value→Shared→Prop}(X:K.In s.heap)(I:uj s.heap x dx C mA)(hg:PySem.W.plainGet K C name=true)(hh:PySem.W.hasDictIn K C=true)
  (ha:PySem.W.findIn K (.ref C) name=some none) (hv:mA name=some v) (Qt:PySem.W.handedIn v=true) (h:Q v {s with toks:=s.toks+1}):
  wpAny (model prog w) A (getAttr (.ref x) name expr) Q E s:=by
 obtain ⟨od,J,hl⟩:=I.look;exact PySem.W.get_value X J (PySem.W.plainGet_of hg).1 (PySem.W.findObj_own hh ha rfl (by rw [hl,hv])) Qt h
theorem FF{pl:Sem Bool}{Q:Value×List Value→Shared→Prop}(X:K.In s.heap)(I:uj s.heap x dx C mA)(hg:PySem.W.plainGet K C name=true)
  (hf:PySem.W.findIn K (.ref C) name=some (some (.ref f))) (ht:PySem.W.isFn K (.ref f)=true) (hv:mA name=none) (h:Q (.ref f,[.ref x]) s):
  wpAny (model prog w) A (getMethod (.ref x) name pl) Q E s:=by
 obtain ⟨od,J,hl⟩:=I.look;exact PySem.W.method_fn X J (PySem.W.plainGet_of hg).1 (PySem.W.plainGet_of hg).2 hf (beq_iff_eq.mp ht) (by show (PySem.W.lookIn name od).map (·.isSome)=some false;rw [hl,hv];rfl) h
theorem Km{ns:List Str}{Q:Unit→Shared→Prop}(X:K.In s.heap)(I:uj s.heap x dx C mA)
  (hs:PySem.W.findIn K (.ref C) "__setattr__"=some (some (.builtin "object.__setattr__"))) (hp:PySem.W.plainOver K C=true) (ht:PySem.W.takerIn K C name=some none) (hh:PySem.W.hasDictIn K C=true)
  (hw:PySem.Within mA ns) (fS:ns.length≤sizeLine)
  (h:∀h',uj h' x dx C (λy=>if y=name then some v else mA y)→Heap.SameBut dx s.heap h'→Q () {s with heap:=h',toks:=s.toks+2}):
  wpAny (model prog w) A (setAttr (.ref x) name v) Q E s:=by
 obtain ⟨od,J,hl⟩:=I.look;refine PySem.W.set_plain X J hs (PySem.W.osa_open (s:={s with toks:=s.toks+1}) (r:=none) X J hp ht λb=>?_)
 obtain ⟨cd,hc,j4⟩:=PySem.W.any_some hh;have hx:s.heap.get? x=some ⟨.ref C,some dx, .plain, #[]⟩:=I.obj;refine wpAny_bind (wpAny_pure (wpAny_bind (wpAny_bind (wpAny_loadPart hx (wpAny_bind (PySem.W.Looks.here (s:={s with toks:=s.toks+1}) (PySem.W.looks_clsIn X hc) ?_))))))
 rw [j4];refine wpAny_pure (a:=some dx) (wpAny_bind (wpAny_pure (wpAny_bind ?_)));refine wpAny_nsSet1 (s:={s with toks:=s.toks+1}) I.ns λh' wV mv=>?_
 obtain ⟨oD,esD,epD,hoD,hdD,hcD⟩:=wV.count (PySem.Within.cons name v hw);refine wpAny_bind (wpAny_lookBehind hoD (by rw [hdD];exact pastItsLine_dict (ku hcD (by rw [cp];omega))) ?_)
 exact wpAny_pure (h _ ⟨(mv.2 _ (Ne.symm I.ne)).trans I.obj,wV,I.ne⟩ mv)
theorem Gd{R:Result→Shared→Prop}{vs:List Value}{kw:List (Str×Value)}(X:K.In s.heap)(hm:PySem.W.makesIn K C=true)
  (hi:PySem.W.findIn K (.ref C) "__init__"=some (some (.ref f))) (hf:PySem.W.typeIn K (.ref f)=some (.type "function"))
  (h:codeAny (model prog w) (A.under (.builtin "type.__call__" ⟨.ref C::vs,kw⟩)) (.call (.ref f) ⟨.ref (s.heap.objs.size+1)::vs,kw⟩) (PySem.W.InitBack (s.heap.objs.size+1) R)
   {s with heap:=(s.heap.push PySem.W.emptyDict).push (PySem.W.instObj C s.heap.objs.size)}):
  codeAny (model prog w) A (.call (.ref C) ⟨vs,kw⟩) R s:=by
 obtain ⟨hh,g,d,t,os⟩:=s;exact PySem.W.make_core (PySem.W.makes_of X hm) (PySem.W.looks_findIn X hi) (λself=>PySem.W.bind_fn X self hf) (.inl rfl) h
end
def iF(f:Str)(v:V):List (Str×V)→List (Str×V)
 | []=> [(f,v)]
 | (g,x)::r=>if g=f then (g,v)::r else (g,x)::iF f v r
theorem ql(f g:Str)(v:V):∀fs:List (Str×V),(iF f v fs).lookup g=if g=f then some v else fs.lookup g
 | []=>by
  show List.lookup g [(f,v)]=_
  by_cases h:g=f
  ·have hb:(g==f)=true:=beq_iff_eq.mpr h
   simp only [List.lookup,hb,if_pos h]
  ·have hb:(g==f)=false:=beq_eq_false_iff_ne.mpr h
   simp only [List.lookup,hb,if_neg h]
 | (k,x)::r=>by
  have ih:=ql f g v r;rw [show iF f v ((k,x)::r)=(if k=f then (k,v)::r else (k,x)::iF f v r) from rfl]
  by_cases hk:k=f
  ·rw [if_pos hk]
   by_cases h:g=k
   ·have hb:(g==k)=true:=beq_iff_eq.mpr h
    simp only [List.lookup,hb,if_pos (h.trans hk)]
   ·have hb:(g==k)=false:=beq_eq_false_iff_ne.mpr h
    simp only [List.lookup,hb,if_neg (λe:g=f=>h (e.trans hk.symm))]
  ·rw [if_neg hk]
   by_cases h:g=k
   ·have hb:(g==k)=true:=beq_iff_eq.mpr h
    simp only [List.lookup,hb,if_neg (λe:g=f=>hk (h.symm.trans e))]
   ·have hb:(g==k)=false:=beq_eq_false_iff_ne.mpr h
    simp only [List.lookup,hb];exact ih
theorem pb(f:Str)(v:V):∀fs:List (Str×V),f∈(iF f v fs).map (·.1)∧∀g,g∈fs.map (·.1)→g∈(iF f v fs).map (·.1)
 | []=>⟨by simp [iF],λg h=>by simp at h⟩
 | (k,x)::r=>by
  obtain ⟨i1,i2⟩:=pb f v r;rw [show iF f v ((k,x)::r)=(if k=f then (k,v)::r else (k,x)::iF f v r) from rfl]
  by_cases hk:k=f
  ·rw [if_pos hk]
   subst hk;exact ⟨by simp,λg h=>by simpa using h⟩
  ·rw [if_neg hk]
   refine ⟨?_,λg h=>?_⟩
   ·rw [gI]
    exact cA _ i1
   ·rw [gI] at h ⊢
    rcases bV.mp h with e|e
    ·exact bV.mpr (.inl e)
    ·exact cA _ (i2 g e)
theorem qh(f:Str)(v:V):∀fs:List (Str×V),(iF f v fs).length≤fs.length+1
 | []=>by simp [iF]
 | (k,x)::r=>by
  have ih:=qh f v r;rw [show iF f v ((k,x)::r)=(if k=f then (k,v)::r else (k,x)::iF f v r) from rfl]
  by_cases hk:k=f
  ·rw [if_pos hk,cp,cp];omega
  ·rw [if_neg hk,cp,cp];omega
theorem oe.some_of{v:V}{o:Option Value}(r:oe (some v) o):∃u,o=some u∧RelV v u:=by
 cases o with
 |none=>exact (show False from r).elim
 |some u=>exact ⟨u,rfl,r⟩
theorem oe.none_of{o:Option Value}(r:oe none o):o=none:=by
 cases o with
 |none=>rfl
 |some u=>exact (show False from r).elim
theorem Cs{v:V}{u:Value}(r:RelV v u):PySem.W.handedIn u=true:=by
 cases v with
 |aM=>cases (show u=Value.none from r);rfl
 |bl b=>cases (show u=Value.bool b from r);rfl
 |int i=>obtain ⟨t,e⟩:=(show ∃t,u=Value.int i t from r);cases e;rfl
 |str x=>obtain ⟨t,e⟩:=(show ∃t,u=Value.str x t from r);cases e;rfl
 |tM b=>obtain ⟨t,e⟩:=(show ∃t,u=Value.bytes b t from r);cases e;rfl
 |Cn b=>obtain ⟨t,e⟩:=(show ∃t,u=Value.float b t from r);cases e;rfl
 |ref a=>cases (show u=Value.ref a from r);rfl
 |ty n=>cases (show u=Value.type n from r);rfl
section
variable {P:Program} {w:World} {H H':Hp} {h h':Heap} {a C dx:Addr} {fs Py:List (Str×V)}
theorem qf(hok:iL P w H h)(e:H a=some (.ins C dx fs)):∃mA,uj h a dx C mA∧(∀f,oe (fs.lookup f) (mA f))∧PySem.Within mA (fs.map (·.1))∧fs.length≤1000∧H dx=some (.own a):=by
 obtain ⟨d,z,ne,ob,mA,n,r,q⟩:=(show cL P w H h a (.ins C dx fs) from hok a _ e);exact ⟨mA,⟨ob,n,ne⟩,r,q,z,d⟩
end
structure ue (K:PySem.W.Frag) (C:Addr):Prop where
 pg:PySem.W.plainGet K C Str.empty=true
 hd:PySem.W.hasDictIn K C=true
 po:PySem.W.plainOver K C=true
 sa:PySem.W.findIn K (.ref C) "__setattr__"=some (some (.builtin "object.__setattr__"))
theorem ue.get{K:PySem.W.Frag}{C:Addr}(c:ue K C)(f:Str):PySem.W.plainGet K C f=true:=c.pg
def kz(K:PySem.W.Frag)(C:Addr)(f:Str):Prop:=PySem.W.findIn K (.ref C) f=some none
theorem kz.Rv{K:PySem.W.Frag}{C:Addr}{f:Str}(n:kz K C f):PySem.W.takerIn K C f=some none:=by
 unfold PySem.W.takerIn;rw [show PySem.W.findIn K (.ref C) f=some none from n];rfl
structure Meth (K:PySem.W.Frag) (C:Addr) (m:Str) (f:Addr):Prop where
 at_:PySem.W.findIn K (.ref C) m=some (some (.ref f))
 fn:PySem.W.isFn K (.ref f)=true
 kp:PySem.W.keepIn K (.ref f)=true
section
variable {X:Cx} {pins:List (Addr×Obj)} {σ:St} {H:Hp} {s:Shared} {a C dx:Addr} {fs:List (Str×V)} {f:Str} {v:V} {A:Around} {E:Value→Shared→Prop}
theorem AB{b:Bool}{Q:Value→Shared→Prop}(I:Inv X pins σ H s)(e:H a=some (.ins C dx fs))(c:ue X.K C)(n:kz X.K C f)(l:fs.lookup f=some v)
  (h:∀u s',Inv X pins σ H s'→RelV v u→Q u s'):wpAny (model X.prog X.w) A (getAttr (.ref a) f b) Q E s:=by
 obtain ⟨mA,O,r,_,_,_⟩:=qf I.hok e;obtain ⟨u,hu,ru⟩:=oe.some_of (v:=v) (o:=mA f) (by rw [←l];exact r f)
 exact get_map I.iy O (c.get f) c.hd n hu (Cs ru) (h u _ (I.tok _) ru)
theorem sH{m:Str}{g:Addr}{pl:Sem Bool}{Q:Value×List Value→Shared→Prop}(I:Inv X pins σ H s)(e:H a=some (.ins C dx fs))(c:ue X.K C)(k:Meth X.K C m g)(l:fs.lookup m=none)
  (h:Q (.ref g,[.ref a]) s):wpAny (model X.prog X.w) A (getMethod (.ref a) m pl) Q E s:=by
 obtain ⟨mA,O,r,_,_,_⟩:=qf I.hok e;have hn:mA m=none:=oe.none_of (by rw [←l];exact r m)
 exact FF I.iy O (c.get m) k.at_ k.fn hn h
theorem Bp{y:V}{u:Value}{Q:Unit→Shared→Prop}(I:Inv X pins σ H s)(e:H a=some (.ins C dx fs))(c:ue X.K C)(n:kz X.K C f)(hl:fs.length<1000)(ry:RelV y u)
  (h:∀s',Inv X pins σ (upd H a (.ins C dx (iF f y fs))) s'→Q () s'):wpAny (model X.prog X.w) A (setAttr (.ref a) f u) Q E s:=by
 obtain ⟨mA,O,r,wi,_,ho⟩:=qf I.hok e;have hz:(fs.map (·.1)).length≤sizeLine:=by rw [aN,sizeLine_eq];omega
 refine Km I.iy O c.sa c.po n.Rv c.hd wi hz λh' O' sb=>h _ ?_;have hd:∃o,h'.get? dx=some o:=let ⟨o,_,_,e',_⟩:=O'.ns;⟨o,e'⟩;refine I.write (x:=a) (e:=dx) (by rw [e];exact True.intro) (.inr ho) (λb q hb z=>(sb.2 b hb).trans z) hd ?_
 refine ⟨by rw [ab O.ne];exact ho,?_,O.ne,O'.obj,_,O'.ns,λg=>?_,λg hg=>?_⟩
 ·have:=qh f y fs;omega
 ·show oe ((iF f y fs).lookup g) (if g=f then some u else mA g)
  rw [ql]
  by_cases q:g=f
  ·rw [if_pos q,if_pos q];exact ry
  ·rw [if_neg q,if_neg q];exact r g
 ·by_cases q:g=f
  ·rw [q];exact (pb f y fs).1
  ·refine (pb f y fs).2 g (wi g λz=>hg ?_)
   show (if g=f then some u else mA g)=none;rw [if_neg q];exact z
theorem Inv.made(I:Inv X pins σ H s):Inv X pins σ (upd (upd H s.heap.objs.size (.own (s.heap.objs.size+1))) (s.heap.objs.size+1) (.ins C s.heap.objs.size []))
  {s with heap:=(s.heap.push PySem.W.emptyDict).push (PySem.W.instObj C s.heap.objs.size)}:=by
 have e1:(s.heap.push PySem.W.emptyDict).get? s.heap.objs.size=some PySem.W.emptyDict:=Heap.get?_push_size s.heap rfl
 have e2:((s.heap.push PySem.W.emptyDict).push (PySem.W.instObj C s.heap.objs.size)).get? (s.heap.objs.size+1)=some (PySem.W.instObj C s.heap.objs.size):=by
  have:=Heap.get?_push_size (s.heap.push PySem.W.emptyDict) (o:=PySem.W.instObj C s.heap.objs.size) rfl
  rwa [Heap.size_push] at this
 have e3:(s.heap.push PySem.W.emptyDict).Ns s.heap.objs.size (λ_=>none):=⟨PySem.W.emptyDict, #[],_,e1,rfl,(λe he=>absurd he (by simp)),λ_=>rfl⟩
 have I1:=I.laid (a:=s.heap.objs.size) (o:= .own (s.heap.objs.size+1)) (h':=s.heap.push PySem.W.emptyDict) (t':=s.toks) (λb u q=>Heap.get?_push_of_some _ q) (aV _) ⟨_,e1⟩;refine I1.laid (a:=s.heap.objs.size+1) (o:= .ins C s.heap.objs.size []) (t':=s.toks) (λb u q=>Heap.get?_push_of_some _ q) (Nat.le_of_eq (Heap.size_push _ _)) ?_;have ne:s.heap.objs.size≠s.heap.objs.size+1:=di (Nat.lt_succ_self _);refine ⟨by rw [ab ne,aa],cS _,ne,e2,λ_=>none,(Heap.Ns1.of_empty e3).at λo q=>Heap.get?_push_of_some _ q,λ_=>True.intro,λy hy=>absurd rfl hy⟩
theorem Hg{prog:Program}{w:World}{env:Env}{e:Expr}{f:Str}{pos:Pos}{s:Shared}{Q:Value→Shared→Prop}(hb:attributeBase e f env (eval e env)=eval e env)
  (h:wpAny (model prog w) A (eval e env) (λo s₁=>wpAny (model prog w) A (getAttr o f true) Q E s₁) E s):wpAny (model prog w) A (eval (.Attribute e f pos) env) Q E s:=
 Attribute_any_ h (by rw [arm_eval_Attribute,hb])
end
def X1(K:PySem.W.Frag)(ta:TE)(f:Str):TE:=λσ H Q=>ta σ H λx H1=>∃a C dx fs v,x= .ref a∧H1 a=some (.ins C dx fs)∧ue K C∧kz K C f∧fs.lookup f=some v∧Q v H1
def Xp(K:PySem.W.Frag)(ta tv:TE)(f:Str):TS:=λD σ H=>tv σ H λy H1=>ta σ H1 λx H2=>∃a C dx fs,x= .ref a∧H2 a=some (.ins C dx fs)∧ue K C∧kz K C f∧fs.length<1000∧
 D.nx σ (upd H2 a (.ins C dx (iF f y fs)))
section
variable {X:Cx} {o e value:Expr} {f:Str} {pos pos' aao:Pos} {ta tv:TE}
theorem Mg(he:PE X e ta)(hb:attributeBase e f X.env (eval e X.env)=eval e X.env):PE X (.Attribute e f pos) (X1 X.K ta f):=by
 intro pins s σ H Q I h;refine Hg hb (thn (he pins s σ H _ I h) λu s1 ⟨x,H1,I1,rx,a,C,dx,fs,v,ex,ea,c,n,l,q⟩=>?_);subst ex;obtain rfl:u=Value.ref a:=rx;exact AB I1 ea c n l λu' s2 I2 ru=>⟨v,H1,I2,ru,q⟩
theorem EG(ha:PE X o ta)(hv:PE X value tv)(hs:swapsWith value (some (.Attribute o f pos')) pos.line X.env=pure false):PS X (.Assign [.Attribute o f pos'] value pos) (Xp X.K ta tv f):=by
 intro pins s σ H D I h;refine plainObj_wpAny_Assign_Attribute (thn (hv pins s σ H _ I h) λu s1 ⟨y,H1,I1,ry,q⟩=>thn (ha pins s1 σ H1 _ I1 q) λov s2 ⟨x,H2,I2,rx,a,C,dx,fs,ex,ea,c,n,l,q2⟩=>?_) hs;subst ex;obtain rfl:ov=Value.ref a:=rx;exact Bp I2 ea c n l ry λs3 I3=>⟨σ,_,I3,q2⟩
end
section
variable {X:Cx} {pins:List (Addr×Obj)} {σ:St} {H:Hp} {s:Shared} {A:Around} {E:Value→Shared→Prop} {Q:Value→Shared→Prop} {c:Value} {b:Bool}
inductive jb (K:PySem.W.Frag) (H:Hp):V→Value→Prop where
 |aM:jb K H .aM (.type "NoneType")
 |bl (x:Bool):jb K H (.bl x) (.type "bool")
 |int (i:Int):jb K H (.int i) (.type "int")
 |str (x:Str):jb K H (.str x) (.type "str")
 |Cn (x:UInt64):jb K H (.Cn x) (.type "float")
 |lst {a:Addr} {xs:List V} (e:H a=some (.lst xs)):jb K H (.ref a) (.type "list")
 |p9 {a:Addr} {o:Obj} {xs:List V} (e:H a=some (.p9 o (.lst xs))):jb K H (.ref a) (.type "list")
 |tup {a:Addr} {xs:List V} (e:H a=some (.tup xs)):jb K H (.ref a) (.type "tuple")
 |dK {a:Addr} {eD:List (Key×V)} (e:H a=some (.dK eD)):jb K H (.ref a) (.type "dict")
 |dT {a:Addr} {eD:List (List Key×V)} (e:H a=some (.dT eD)):jb K H (.ref a) (.type "dict")
 |ins {a C dx:Addr} {fs:List (Str×V)} (e:H a=some (.ins C dx fs)) (cl:ue K C) (ha:PySem.W.findIn K (.ref C) "__class__"=some (some (.builtin "object.__class__")))
   (hn:PySem.W.specialIn K (.builtin "object.__class__") "__get__"=some (some (.builtin "getset_descriptor.__get__"))) (htk:PySem.W.takesIn K (.builtin "object.__class__")=some true)
   (hm:PySem.W.mroIn K C (.type "object")=some true):jb K H (.ref a) (.ref C)
theorem uY{x:V}{u t:Value}(I:Inv X pins σ H s)(rx:RelV x u)(ty:jb X.K H x t)(e:PySem.W.kitOne X.K t c=some b)(h:∀tk,Q (.bool b) {s with toks:=tk}):
  wpAny (model X.prog X.w) A (call (.builtin "isinstance") [u,c]) Q E s:=by
 cases ty with
 |aM=>cases (show u=Value.none from rx);exact PySem.W.kia_one PySem.W.kitx_none I.iy True.intro e (λz=>nomatch z) h
 |bl y=>cases (show u=Value.bool y from rx);exact PySem.W.kia_one PySem.W.kitx_bool I.iy True.intro e (λz=>nomatch z) h
 |int i=>obtain ⟨t,q⟩:=(show ∃t,u=Value.int i t from rx);cases q;exact PySem.W.kia_one PySem.W.kitx_int I.iy True.intro e (λz=>nomatch z) h
 |str y=>obtain ⟨t,q⟩:=(show ∃t,u=Value.str y t from rx);cases q;exact PySem.W.kia_one PySem.W.kitx_str I.iy True.intro e (λz=>nomatch z) h
 |Cn y=>obtain ⟨t,q⟩:=(show ∃t,u=Value.float y t from rx);cases q;exact PySem.W.kia_one PySem.W.kitx_float I.iy True.intro e (λz=>nomatch z) h
 | @lst a xs ea=>
  cases (show u=Value.ref a from rx);obtain ⟨_,_,n,_,h1⟩:=(show cL X.prog X.w H s.heap a (.lst xs) from I.hok a _ ea);exact PySem.W.kia_one PySem.W.kitx_list I.iy ⟨_,h1,rfl⟩ e (λz=>nomatch z) h
 | @p9 a ob xs ea=>
  cases (show u=Value.ref a from rx);obtain ⟨_,_,_,n,_,h1⟩:=(show cL X.prog X.w H s.heap a (.p9 ob (.lst xs)) from I.hok a _ ea);exact PySem.W.kia_one PySem.W.kitx_list I.iy ⟨_,h1,rfl⟩ e (λz=>nomatch z) h
 | @tup a xs ea=>
  cases (show u=Value.ref a from rx);obtain ⟨_,_,_,p⟩:=(show cL X.prog X.w H s.heap a (.tup xs) from I.hok a _ ea);obtain ⟨o,h1,h2,_⟩:=p;exact PySem.W.kia_one PySem.W.kitx_tuple I.iy ⟨o,h1,h2⟩ e (λz=>nomatch z) h
 | @dK a eD ea=>
  cases (show u=Value.ref a from rx);obtain ⟨_,_,vs,_,p⟩:=(show cL X.prog X.w H s.heap a (.dK eD) from I.hok a _ ea);obtain ⟨o,es,ep,h1,h2,_⟩:=p;exact PySem.W.kia_one PySem.W.kitx_dict I.iy ⟨o,h1,h2.1⟩ e (λz=>nomatch z) h
 | @dT a eD ea=>
  cases (show u=Value.ref a from rx);obtain ⟨_,_,xs,_,o,es,ep,h1,h2,_⟩:=(show cL X.prog X.w H s.heap a (.dT eD) from I.hok a _ ea);exact PySem.W.kia_one PySem.W.kitx_dict I.iy ⟨o,h1,h2.1⟩ e (λz=>nomatch z) h
 | @ins a C dx fs ea cl ha hn htk hm=>
  cases (show u=Value.ref a from rx);obtain ⟨mA,O,_⟩:=qf I.hok ea;obtain ⟨od,J,_⟩:=O.look;exact PySem.W.kia_one (PySem.W.kitx_own (cl.get _) cl.hd ha hn htk hm) I.iy J e (λz=>nomatch z) h
end
structure cH (k:Nat) (A:Around):Prop where
 hd:A.handled=none
 dp:A.depth+3*k+5<recursionLimit
 un:A.units+16*k+200<cLine
theorem cH.mono{j k:Nat}{A:Around}(r:cH k A)(h:j≤k):cH j A:=⟨r.hd,by have:=r.dp;omega,by have:=r.un;omega⟩
theorem cH.deeper{k:Nat}{A:Around}(r:cH (k+1) A)(env:Env):cH k (A.deeper env):=
 ⟨r.hd,by have:=r.dp;show A.depth+1+3*k+5<_;omega,by have:=r.un;show A.units+3+16*k+200<_;omega⟩
theorem AZ{A:Around}{C:Addr}{us:List Value}{kw:List (Str×Value)}:(A.under (.builtin "type.__call__" ⟨.ref C::us,kw⟩)).depth=A.depth+1:=by
 first|rfl|simp [Around.under,Code.weight,Code.isCreation,Code.isGuard,Code.isCaller,Code.frames,Code.isFrame,guardIds]
theorem A0{A:Around}{C:Addr}{us:List Value}{kw:List (Str×Value)}:(A.under (.builtin "type.__call__" ⟨.ref C::us,kw⟩)).units=A.units+1:=by
 first|rfl|simp [Around.under,Code.cUnits,Code.frames,Code.isFrame]
theorem cH.make{k:Nat}{A:Around}(r:cH (k+1) A)(C:Addr)(us:List Value)(kw:List (Str×Value)):cH k (A.under (.builtin "type.__call__" ⟨.ref C::us,kw⟩)):=
 ⟨r.hd,by have:=r.dp;rw [AZ];omega,by have:=r.un;rw [A0];omega⟩
theorem cH.depth{k:Nat}{A:Around}(r:cH k A):A.depth<recursionLimit:=by have:=r.dp;omega
theorem cH.units{k:Nat}{A:Around}(r:cH k A):A.units+64<cLine:=by have:=r.un;omega
def OB:TA:=λ_ H Q=>Q [] H
def Rn(ta:TE)(tr:TA):TA:=λσ H Q=>ta σ H λx H1=>tr σ H1 λxs H2=>Q (x::xs) H2
section
variable {X:Cx} {e:Expr} {es:List Expr} {te:TE} {t:TA} {pos:Pos}
theorem aq:PA X [] OB:=λ_ _ _ _ H Q I h=>Calls.spliced_nil ⟨[],H,I, .nil,h⟩
theorem ae(ha:PE X e te)(hr:PA X es t)(hs:starEach (e::es) X.env=(false,eval e X.env)::starEach es X.env:=by rfl):PA X (e::es) (Rn te t):=by
 intro pos pins s σ H Q I h;rw [hs];show wpAny _ _ (spliced ((false,eval e X.env)::backTo pos (starEach es X.env))) _ _ s;refine Calls.spliced_cons (thn (ha pins s σ H _ I h) λu s1 ⟨x,H1,I1,r1,q1⟩=>?_);exact thn (hr pos pins s1 σ H1 _ I1 q1) λus s2 ⟨xs,H2,I2,r2,q2⟩=>⟨x::xs,H2,I2, .cons r1 r2,q2⟩
def X8(t:TA):TE:=λσ H Q=>t σ H λxs H1=>xs.length≤sizeLine∧∀p,H1 p=none→Q (.ref p) (upd H1 p (.tup xs))
def X4(t:TA):TE:=λσ H Q=>t σ H λxs H1=>xs.length≤sizeLine∧∀p,H1 p=none→Q (.ref p) (upd H1 p (.lst xs))
theorem t9{x1}(h:PA X es t):PE X (.Tuple es x1 pos) (X8 t):=by
 intro pins s σ H Q I hq;refine wpAny_Tuple_spliced (thn (h pos pins s σ H _ I hq) λus s1 ⟨xs,H1,I1,r,z,q⟩=>⟨by rw [←r.length];exact z,?_⟩)
 have hf:H1 s1.heap.objs.size=none:=I1.hok.fresh (aV _);refine ⟨.ref s1.heap.objs.size,upd H1 s1.heap.objs.size (.tup xs),I1.laid (t':=s1.toks) (λb u e=>Heap.get?_push_of_some _ e) (aV _) ?_,rfl,q _ hf⟩;exact ⟨z,us,r,⟨_,Heap.get?_push_size _ rfl,rfl,_,rfl⟩⟩
theorem dF(h:PA X es t):PE X (.List es pos) (X4 t):=by
 intro pins s σ H Q I hq;refine wpAny_List_spliced (thn (h pos pins s σ H _ I hq) λus s1 ⟨xs,H1,I1,r,z,q⟩=>⟨by rw [←r.length];exact z,?_⟩)
 have hf:H1 s1.heap.objs.size=none:=I1.hok.fresh (aV _);refine ⟨.ref s1.heap.objs.size,upd H1 s1.heap.objs.size (.lst xs),I1.laid (t':=s1.toks) (λb u e=>Heap.get?_push_of_some _ e) (aV _) ?_,rfl,q _ hf⟩;exact ⟨z,us,0,r,Heap.get?_push_size _ rfl⟩
end
abbrev Sp:=List V→Hp→VK→XK→Prop
abbrev qZ:=List Env→Hp→Shared→XK→Value→Shared→Prop
structure Env0 (P:Program) (w:World) (K:PySem.W.Frag) (mg:Str→Option Value) (base:Heap) (A:Around) (outer:List Env) (s:Shared) (H:Hp):Prop where
 frames:A.frames=some outer
 mod:Mod K mg base
 bs:∀b o,base.get? b=some o→s.heap.get? b=some o∧H b=none
 bsz:base.objs.size≤s.heap.objs.size
 funs:s.heap.FunFrames base outer
 frf:∀b∈uL outer,H b=none
 hok:iL P w H s.heap
 bare:AllBare s.gens
def CE(outer:List Env)(P:Program)(w:World)(H:Hp)(s:Shared)(Q:VK)(u:Value)(s':Shared):Prop:=
 ∃v H',s'.os=s.os∧AllBare s'.gens∧Un (uL outer) [] H H' s.heap s'.heap∧iL P w H' s'.heap∧RelV v u∧Q v H'
def CR(CX:qZ)(outer:List Env)(P:Program)(w:World)(H:Hp)(s:Shared)(Q:VK)(E:XK)(r:Result)(s':Shared):Prop:=
 match r with
 | .ok (.ret u)=>CE outer P w H s Q u s'
 | .ok _=>False
 | .error e=>CX outer H s E e s'
structure FnOk (P:Program) (w:World) (K:PySem.W.Frag) (mg:Str→Option Value) (base:Heap) (CX:qZ) (k:Nat) (f:Addr) (fd:FuncData) (ps:List Str) (sp:Sp):Prop where
 len:∀vs H Q E,sp vs H Q E→vs.length=ps.length
 run:∀(A:Around)(outer:List Env)(s:Shared)(H:Hp)(args:Args)(us:List Value)(vs:List V)(Q:VK)(E:XK),cH k A→Env0 P w K mg base A outer s H→BindsTo s fd args (ps.zip us)→Vals vs us→sp vs H Q E→
  codeAny (model P w) A (.call (.ref f) args) (CR CX outer P w H s Q E) s
theorem FnOk.mono{P:Program}{w:World}{K:PySem.W.Frag}{mg:Str→Option Value}{base:Heap}{CX:qZ}{j k:Nat}{f:Addr}{fd:FuncData}{ps:List Str}{sp:Sp}(F:FnOk P w K mg base CX j f fd ps sp)(h:j≤k):
  FnOk P w K mg base CX k f fd ps sp:=⟨F.len,λA outer s H args us vs Q E hr=>F.run A outer s H args us vs Q E (hr.mono h)⟩
theorem FnOk.imp{P:Program}{w:World}{K:PySem.W.Frag}{mg:Str→Option Value}{base:Heap}{CX:qZ}{k:Nat}{f:Addr}{fd:FuncData}{ps:List Str}{sp XO:Sp}(F:FnOk P w K mg base CX k f fd ps sp)
  (h:∀vs H Q E,XO vs H Q E→sp vs H Q E):FnOk P w K mg base CX k f fd ps XO:=
 ⟨λvs H Q E q=>F.len vs H Q E (h _ _ _ _ q),λA outer s H args us vs Q E hr he hb hv hs=>F.run A outer s H args us vs Q E hr he hb hv (h _ _ _ _ hs)⟩
theorem Env0.make{P:Program}{w:World}{K:PySem.W.Frag}{mg:Str→Option Value}{base:Heap}{A:Around}{outer:List Env}{s:Shared}{H:Hp}(e:Env0 P w K mg base A outer s H)(C:Addr)(us:List Value)(kw:List (Str×Value)):
  Env0 P w K mg base (A.under (.builtin "type.__call__" ⟨.ref C::us,kw⟩)) outer s H:=⟨by first|exact e.frames| (simpa [Around.under,Code.envs,Code.isFrame,pushEnvs] using e.frames),e.mod,e.bs,e.bsz,e.funs,e.frf,e.hok,e.bare⟩
section
variable {X:Cx} {pins:List (Addr×Obj)} {σ:St} {H:Hp} {s s':Shared}
theorem Inv.NM(I:Inv X pins σ H s):Env0 X.prog X.w X.K X.mg X.base X.A X.stack s H:=
 ⟨I.ok.frames,I.ok.mod,I.bs,ku I.ok.bsz I.sz,I.stack,I.Bx,I.hok,I.bare⟩
theorem Inv.after{Q:VK}{u:Value}(I:Inv X pins σ H s)(h:CE X.stack X.prog X.w H s Q u s'):EP X pins σ Q u s':=by
 obtain ⟨v,H',os,bare,un,hok,r,q⟩:=h;obtain ⟨hh,g,d,t,os'⟩:=s';obtain rfl:os'=s.os:=os;exact ⟨v,H',I.call (h':=hh) (g':=g) (d':=d) (t':=t) (ch:= []) un hok bare (λb z=>absurd z (by simp)),r,q⟩
end
def Rm(sp:Sp)(ba:List V)(E:XK)(t:TA):TE:=λσ H Q=>t σ H λvs H1=>sp (vs++ba) H1 Q E
def DR(C:Addr)(m:Str)(sp:Sp)(ba:List V)(E:XK)(ta:TE)(t:TA):TE:=λσ H Q=>ta σ H λx H1=>∃a dx fs,x= .ref a∧H1 a=some (.ins C dx fs)∧fs.lookup m=none∧
 t σ H1 λvs H2=>sp (x::(vs++ba)) H2 Q E
def Rp(C:Addr)(sp:Sp)(ba:List V)(E:XK)(t:TA):TE:=λσ H Q=>t σ H λvs H1=>∀x dx,H1 x=none→H1 dx=none→dx≠x→
 sp (.ref x::(vs++ba)) (upd (upd H1 dx (.own x)) x (.ins C dx [])) (λv H2=>v= .aM∧Q (.ref x) H2) E
def Binds(K:PySem.W.Frag)(fd:FuncData)(ps:List Str)(ds:List Value):Prop:=
 ∀(s:Shared)(us:List Value),K.In s.heap→(us++ds).length=ps.length→BindsTo s fd ⟨us,[]⟩ (ps.zip (us++ds))
theorem Binds.all{K:PySem.W.Frag}{fd:FuncData}{ps:List Str}(h:∀us:List Value,us.length=ps.length→bindArgs fd ⟨us,[]⟩=pure (ps.zip us)):Binds K fd ps []:=λs us _ hl=>by
 rw [iK] at hl ⊢;exact .of_eq (h us hl)
def Passes(CX:qZ)(X:Cx)(E:XK):Prop:=∀(pins:List (Addr×Obj))(σ:St)(H:Hp)(s:Shared)(e:Value)(s':Shared),Inv X pins σ H s→CX X.stack H s E e s'→X.xe e s'
section
variable {X:Cx} {CX:qZ} {k:Nat} {f C:Addr} {fd:FuncData} {ps:List Str} {sp:Sp} {ba:List V} {ds:List Value} {E:XK} {x m:Str} {p pos apos:Pos} {e o:Expr} {es:List Expr} {ta:TE} {t:TA}
theorem zD{pins:List (Addr×Obj)}{σ:St}{H:Hp}{s:Shared}{Q:VK}{us:List Value}{vs:List V}(F:FnOk X.prog X.w X.K X.mg X.base CX k f fd ps sp)(hr:cH k X.A)(hb:Binds X.K fd ps ds)(hd:Vals ba ds)(hx:Passes CX X E)
  (I:Inv X pins σ H s) (r:Vals vs us) (h:sp (vs++ba) H Q E):wpAny (model X.prog X.w) X.A (call (.ref f) us) (EP X pins σ Q) X.xe s:=by
 have r2:Vals (vs++ba) (us++ds):=r.append hd;have hl:(us++ds).length=ps.length:=by rw [←r2.length];exact F.len _ _ _ _ h
 refine wpAny_call (codeAny_mono (F.run X.A X.stack s H ⟨us,[]⟩ (us++ds) (vs++ba) Q E hr I.NM (hb s us I.iy hl) r2 h) λr s' hq=>?_);cases r with
 |error e=>exact hx pins σ H s e s' I hq
 |ok fl=>
  cases fl with
  |ret u=>exact I.after hq
  |next=>exact False.elim hq
  |brk=>exact False.elim hq
  |cont=>exact False.elim hq
theorem bh(F:FnOk X.prog X.w X.K X.mg X.base CX k f fd ps sp)(hr:cH k X.A)(hg:Gl X x)(hm:X.mg x=some (.ref f))(hk:PySem.W.keepIn X.K (.ref f)=true)(hb:Binds X.K fd ps ds)(hd:Vals ba ds)(hx:Passes CX X E)
  (ha:PA X (e::es) t) (jM:(x==("__debug__":Str))=false:=by decide) (he:starEach (e::es) X.env=(false,eval e X.env)::starEach es X.env:=by rfl) (dR:(backTo pos (starEach es X.env)).any (·.1)=false:=by rfl):
  PE X (.Call (.Name x p) (e::es) [] pos) (Rm sp ba E t):=by
 intro pins s σ H Q I h;refine wpAny_Call_Name_kw (u5 I hg hm ?_ jM);refine PySem.W.callWith_K (h₀:=X.base) I.ok.mod.kin hk (thn (ha pos pins s σ H _ I h) λus s1 ⟨vs,H1,I1,r,q⟩=>⟨I1.iy,?_⟩) he dR;exact zD F hr hb hd hx I1 r q
theorem J0{pl:Sem Bool}(he:PE X o ta)(c:ue X.K C)(hm:Meth X.K C m f)(F:FnOk X.prog X.w X.K X.mg X.base CX k f fd ps sp)(hr:cH k X.A)(hb:Binds X.K fd ps ds)(hd:Vals ba ds)(hx:Passes CX X E)(ha:PA X (e::es) t)
  (y4:starEach (e::es) X.env=(false,eval e X.env)::starEach es X.env:=by rfl) (dR:(backTo pos (starEach es X.env)).any (·.1)=false:=by rfl)
  (ht:eval (.Call (.Attribute o m apos) (e::es) [] pos) X.env=(do
   let ov ←eval o X.env
   standAt apos.atName
   let (f,first) ←holding [ov] (getMethod ov m pl)
   callWith pos f first (backTo pos (starEach (e::es) X.env)) (backToKw pos (keywordEach [] X.env))):=by rfl):
  PE X (.Call (.Attribute o m apos) (e::es) [] pos) (DR C m sp ba E ta t):=by
 intro pins s σ H Q I h;refine PySem.W.methodCall_KW (pl:=pl) (thn (he pins s σ H _ I h) λu s1 ⟨x,H1,I1,rx,a,dx,fs,ex,ea,l,q⟩=>?_) ht;subst ex;obtain rfl:u=Value.ref a:=rx;refine sH I1 ea c hm l ?_;refine PySem.W.callWith_K (first:= [.ref a]) (h₀:=X.base) I.ok.mod.kin hm.kp (thn (ha pos pins s1 σ H1 _ I1 q) λus s2 ⟨vs,H2,I2,r,q2⟩=>⟨I2.iy,?_⟩) y4 dR;exact zD (us:= .ref a::us) (vs:= .ref a::vs) F hr hb hd hx I2 (.cons rfl r) q2
theorem Gr{pl:Sem Bool}(he:PE X o ta)(c:ue X.K C)(hm:Meth X.K C m f)(F:FnOk X.prog X.w X.K X.mg X.base CX k f fd ps sp)(hr:cH k X.A)(hb:Binds X.K fd ps ds)(hd:Vals ba ds)(hx:Passes CX X E)
  (ht:eval (.Call (.Attribute o m apos) [] [] pos) X.env=(do
   let ov ←eval o X.env
   standAt apos.atName
   let (f,first) ←holding [ov] (getMethod ov m pl)
   callWith pos f first (backTo pos (starEach [] X.env)) (backToKw pos (keywordEach [] X.env))):=by rfl):
  PE X (.Call (.Attribute o m apos) [] [] pos) (DR C m sp ba E ta OB):=by
 intro pins s σ H Q I h;refine PySem.W.methodCall_KW (pl:=pl) (thn (he pins s σ H _ I h) λu s1 ⟨x,H1,I1,rx,a,dx,fs,ex,ea,l,q⟩=>?_) ht;subst ex;obtain rfl:u=Value.ref a:=rx;refine sH I1 ea c hm l ?_;exact PySem.W.callWith_K0 (first:= [.ref a]) I1.iy hm.kp (zD (us:= [.ref a]) (vs:= [.ref a]) F hr hb hd hx I1 (.cons rfl .nil) q)
structure Mk (K:PySem.W.Frag) (C f:Addr):Prop where
 makes:PySem.W.makesIn K C=true
 init:PySem.W.findIn K (.ref C) "__init__"=some (some (.ref f))
 fn:PySem.W.isFn K (.ref f)=true
 kp:PySem.W.keepIn K (.ref C)=true
theorem GI{pins:List (Addr×Obj)}{σ:St}{H:Hp}{s:Shared}{Q:VK}{us:List Value}{vs:List V}(M:Mk X.K C f)(F:FnOk X.prog X.w X.K X.mg X.base CX k f fd ps sp)(hr:cH (k+1) X.A)(hb:Binds X.K fd ps ds)(hd:Vals ba ds)
  (hx:Passes CX X E) (I:Inv X pins σ H s) (r:Vals vs us)
  (h:∀x dx,H x=none→H dx=none→dx≠x→sp (.ref x::(vs++ba)) (upd (upd H dx (.own x)) x (.ins C dx [])) (λv H2=>v= .aM∧Q (.ref x) H2) E):
  wpAny (model X.prog X.w) X.A (call (.ref C) us) (EP X pins σ Q) X.xe s:=by
 have hq:=h (s.heap.objs.size+1) s.heap.objs.size (I.hok.fresh (kv _)) (I.hok.fresh (aV _)) (di (Nat.lt_succ_self _));have I2:=Inv.made (C:=C) I;have r2:Vals (V.ref (s.heap.objs.size+1)::(vs++ba)) (Value.ref (s.heap.objs.size+1)::(us++ds)):= .cons rfl (r.append hd)
 have hl:(Value.ref (s.heap.objs.size+1)::us++ds).length=ps.length:=by
  have e:=r2.length;rw [F.len _ _ _ _ hq] at e;exact e.symm
 refine wpAny_call (Gd (f:=f) I.iy M.makes M.init (beq_iff_eq.mp M.fn) (codeAny_mono (F.run _ X.stack _ _ ⟨Value.ref (s.heap.objs.size+1)::us,[]⟩ (Value.ref (s.heap.objs.size+1)::(us++ds)) _ _ E (hr.make C us [])
  (I2.NM.make C us []) (hb _ (Value.ref (s.heap.objs.size+1)::us) I2.iy hl) r2 hq) λr s' IZ=>?_))
 cases r with
 |error e=>exact hx pins σ _ _ e s' I2 IZ
 |ok fl=>
  cases fl with
  |ret u=>
   obtain ⟨v,H',I3,rv,ev,q3⟩:=I2.after IZ;subst ev;exact ⟨rv,⟨V.ref (s.heap.objs.size+1),H',I3,rfl,q3⟩⟩
  |next=>exact False.elim IZ
  |brk=>exact False.elim IZ
  |cont=>exact False.elim IZ
theorem Bb(M:Mk X.K C f)(F:FnOk X.prog X.w X.K X.mg X.base CX k f fd ps sp)(hr:cH (k+1) X.A)(hg:Gl X x)(hm:X.mg x=some (.ref C))(hb:Binds X.K fd ps ds)(hd:Vals ba ds)(hx:Passes CX X E)
  (ha:PA X (e::es) t) (jM:(x==("__debug__":Str))=false:=by decide) (he:starEach (e::es) X.env=(false,eval e X.env)::starEach es X.env:=by rfl) (dR:(backTo pos (starEach es X.env)).any (·.1)=false:=by rfl):
  PE X (.Call (.Name x p) (e::es) [] pos) (Rp C sp ba E t):=by
 intro pins s σ H Q I h;refine wpAny_Call_Name_kw (u5 I hg hm ?_ jM);refine PySem.W.callWith_K (h₀:=X.base) I.ok.mod.kin M.kp (thn (ha pos pins s σ H _ I h) λus s1 ⟨vs,H1,I1,r,q⟩=>⟨I1.iy,?_⟩) he dR;exact GI M F hr hb hd hx I1 r q
end
section
variable {X:Cx} {CX:qZ} {k:Nat} {f C:Addr} {fd:FuncData} {ps ks:List Str} {sp:Sp} {E:XK} {x m:Str} {p pos apos aak:Pos} {e o:Expr} {es:List Expr} {kws:List Keyword} {te ta:TE} {t tk:TA} {nm:Option Str}
variable {g:List Value→List Value→List Value} {gV:List V→List V→List V}
end
structure aL (N P:List Str) (sc:Scope):Prop where
 kind:sc.kind= .function
 co:sc.isCoroutine=false
 gen:sc.isGenerator=false
 nd:N.Nodup
 pre:N.take P.length=P
 par:∀x∈P,sc.names.lookup x=some .local∨sc.names.lookup x=some .cell
 nofree:∀y∈sc.names,y.2≠ .free
theorem uv{kindOf:Str→Option NameKind}{x:Str}:∀{binds:List (Str×Value)}{m:Str→Option Value},(∀v,(x,v)∉binds)→bindL kindOf binds m x=m x
 | [],_,_=>rfl
 | (n,v)::r,m,h=>by
  unfold bindL;rw [uv λw hw=>h w (cA _ hw)]
  split
  ·have:x≠n:=by rintro rfl;exact h v cC
   simp [this]
  ·rfl
theorem ur{kindOf:Str→Option NameKind}{x:Str}:∀{binds:List (Str×Value)}{m:Str→Option Value},(∀v,(x,v)∉binds)→bindC kindOf binds m x=m x
 | [],_,_=>rfl
 | (n,v)::r,m,h=>by
  unfold bindC;rw [ur λw hw=>h w (cA _ hw)]
  split
  ·rfl
  ·have:x≠n:=by rintro rfl;exact h v cC
   simp [this]
theorem uu{kindOf:Str→Option NameKind}{x:Str}{v:Value}:∀{P:List Str}{vs:List Value}{i:Nat}{m:Str→Option Value},P.Nodup→P[i]? =some x→vs[i]? =some v→kindOf x=some .local→
  bindL kindOf (P.zip vs) m x=some v
 | [],_,_,_,_,h,_,_=>by simp at h
 |_::_,[],_,_,_,_,h,_=>by simp at h
 |p::P,w::vs,0,m,nd,h1,h2,hk=>by
  simp at h1 h2;subst h1;subst h2;show bindL kindOf ((p,w)::P.zip vs) m p=_;unfold bindL;rw [uv λv hv=>(fz.mp nd).1 (List.of_mem_zip hv).1,if_pos hk];simp
 |p::P,w::vs,i+1,m,nd,h1,h2,hk=>by
  show bindL kindOf ((p,w)::P.zip vs) m x=_;unfold bindL;exact uu (i:=i) (fz.mp nd).2 (by simpa using h1) (by simpa using h2) hk
theorem uq{kindOf:Str→Option NameKind}{x:Str}{v:Value}:∀{P:List Str}{vs:List Value}{i:Nat}{m:Str→Option Value},P.Nodup→P[i]? =some x→vs[i]? =some v→kindOf x≠some .local→
  bindC kindOf (P.zip vs) m x=some v
 | [],_,_,_,_,h,_,_=>by simp at h
 |_::_,[],_,_,_,_,h,_=>by simp at h
 |p::P,w::vs,0,m,nd,h1,h2,hk=>by
  simp at h1 h2;subst h1;subst h2;show bindC kindOf ((p,w)::P.zip vs) m p=_;unfold bindC;rw [ur λv hv=>(fz.mp nd).1 (List.of_mem_zip hv).1,if_neg hk];simp
 |p::P,w::vs,i+1,m,nd,h1,h2,hk=>by
  show bindC kindOf ((p,w)::P.zip vs) m x=_;unfold bindC;exact uq (i:=i) (fz.mp nd).2 (by simpa using h1) (by simpa using h2) hk
def start(N:List Str)(vs:List V):St:=vs.map some++List.replicate (N.length-vs.length) none
def pT(CX:qZ)(P:Program)(w:World)(K:PySem.W.Frag)(mg:Str→Option Value)(base:Heap)(N:List Str)(qual:Str)(scope:Scope)(f:Addr)(cd:Value)(A:Around)(outer:List Env)(s:Shared)(H:Hp)(E:XK):Cx where
 prog:=P
 w:=w
 K:=K
 mg:=mg
 base:=base
 A:=A.deeper (envOfC qual scope s.heap.objs.size f cd)
 N:=N
 s₀:=s
 H₀:=H
 env:=envOfC qual scope s.heap.objs.size f cd
 outer:=outer
 stack:=envOfC qual scope s.heap.objs.size f cd::outer
 ex:= []
 calm:=true
 fn:=λ_=>true
 pn:= []
 xe:=λe s'=>wpAny (model P w) (A.deeper (envOfC qual scope s.heap.objs.size f cd)) (leaving (envOfC qual scope s.heap.objs.size f cd) e) (λ_ Rf=>CX outer H s E e Rf) (λe' Rf=>CX outer H s E e' Rf) s'
theorem xq{sc:Scope}{n:Nat}{x:Str}(h:sc.names.lookup x=some .cell):∃c,(cellsFrom n sc.names []).lookup x=some c:=by
 have q:=PySem.W.cellsFrom_some sc.names n [] (.inl h);exact Option.isSome_iff_exists.mp q
theorem CK{CX:qZ}{P:Program}{w:World}{K:PySem.W.Frag}{mg:Str→Option Value}{base:Heap}{N ps:List Str}{qual:Str}{scope:Scope}{f:Addr}{cd:Value}{A:Around}{outer:List Env}{s s1:Shared}{H:Hp}{E:XK}{us:List Value}{vs:List V}
  (S:aL N ps scope) (hd:A.handled=none) (e0:Env0 P w K mg base A outer s H) (hl:vs.length=ps.length) (r:Vals vs us)
  (x:InCallC s s.heap.objs.size (bindL (envOfC qual scope s.heap.objs.size f cd).kindOf (ps.zip us) λ_=>none) (cellsFrom (s.heap.objs.size+1) scope.names []) (bindC (envOfC qual scope s.heap.objs.size f cd).kindOf (ps.zip us) λ_=>none) s1):
  Inv (pT CX P w K mg base N qual scope f cd A outer s H E) [] (start N vs) H s1:=by
 have dR:ps.length≤N.length:=by have:=congrArg List.length S.pre;rw [iI] at this;omega
 obtain ⟨h1,tk,rfl,hk⟩:=x.done;have JE:∀b:Addr,b∉(pT CX P w K mg base N qual scope f cd A outer s H E).ex:=λb z=>absurd (show b∈([]:List Addr) from z) (by simp)
 refine ⟨⟨e0.mod,S.kind,rfl,rfl,aV _,λy z c h1 h2=>?_,λy hy=>?_,λy c _ h=>?_,λ_=>hd,Around.frames_deeper e0.frames, .inr ⟨rfl,rfl⟩,λb z=>absurd z (JE b),e0.bs,e0.bsz,λb _ _=>JE b,λb z=>absurd z (JE b),e0.funs,e0.frf⟩,
  rfl,e0.bare,Un.kept hk,⟨_,x.toInCall.ns,λi y v h1 h2 h3=>?_⟩,λy c h=>⟨_,x.cell y c h⟩,e0.hok.fresh (aV _),λy c h=>?_,λp hp=>absurd (show p∈([]:List (Addr×Obj)) from hp) (by simp),e0.hok.kept hk,?_⟩
 ·exact name_of_addr x.apart (PySem.mem_of_lookup h1) (PySem.mem_of_lookup h2)
 ·have hy:scope.names.lookup y=some .cell∨scope.names.lookup y=some .free:=hy
  rcases hy with hy|hy
  ·exact xq hy
  ·exact absurd rfl (S.nofree _ (PySem.mem_of_lookup hy))
 ·exact Nat.le_of_lt (x.above y c (PySem.mem_of_lookup h))
 ·have hi:i<vs.length:=by
   unfold start at h2
   by_cases hi:i<vs.length
   ·exact hi
   ·rw [jt (by simpa using hi)] at h2
    rw [BL] at h2
    split at h2<;>cases h2
  have ha:vs[i]? =some v:=by
   unfold start at h2;rw [jK (by simpa using hi),bW] at h2
   cases e:vs[i]? with
   |none=>rw [e] at h2;cases h2
   |some a=>rw [e] at h2;cases h2;rfl
  obtain ⟨u,hu,rv⟩:=r.get ha
  have hp:ps[i]? =some y:=by
   rw [←S.pre,BJ (by omega)];exact h1
  have V2:ps.Nodup:=by rw [←S.pre];exact S.nd.sublist (List.take_sublist _ _)
  refine ⟨u,rv,?_⟩
  rcases S.par y (dD hp) with k|k
  ·exact .inl ⟨k,uu V2 hp hu k⟩
  ·obtain ⟨c,e⟩:=xq (n:=s.heap.objs.size+1) k
   refine .inr ⟨.inl k,c,e,?_⟩;have q:=x.cell y c e;rw [uq V2 hp hu (by show scope.names.lookup y≠_;rw [k];decide)] at q
   exact q
 ·exact e0.hok.fresh (Nat.le_of_lt (x.above y c (PySem.mem_of_lookup h)))
 ·unfold start
  show _=N.length;rw [dS,aN,tw];omega
theorem Px{CX:qZ}{P:Program}{w:World}{K:PySem.W.Frag}{mg:Str→Option Value}{base:Heap}{k:Nat}{f:Addr}{name qual:Str}{params:Arguments}{body:List Stmt}{scope:Scope}{dV kV doc pm bu ct oc:Value}{an od:Option Addr}
  {A8:Array (Option Value)} {N ps:List Str} {sp:Sp} (lk:K.lookup f=some ⟨oc,od, .func (PySem.W.fnOf name qual params body scope dV kV doc pm an bu ct),A8⟩) (fR:PySem.W.codeIn K bu qual=true) (S:aL N ps scope)
  (len:∀vs H Q E,sp vs H Q E→vs.length=ps.length)
  (oZ:∀(A:Around)(outer:List Env)(s:Shared)(H:Hp)(vs:List V)(Q:VK)(E:XK),cH k (A.deeper (envOfC qual scope s.heap.objs.size f bu))→sp vs H Q E→
   ∃t,lJ (pT CX P w K mg base N qual scope f bu A outer s H E) body t∧t {nx:=λ_ H'=>Q .aM H',rt:=Q} (start N vs) H):
  FnOk P w K mg base CX (k+1) f (PySem.W.fnOf name qual params body scope dV kV doc pm an bu ct) ps sp:=by
 refine ⟨len,λA outer s H args us vs Q E hr e0 hb r AK=>?_⟩;have hl:=len _ _ _ _ AK;have KX:K.In s.heap:=e0.mod.kin.keeps λb o e=>(e0.bs b o e).1;have lim:s.heap.NoLimit:=e0.mod.nolimit.keeps λb o e=>(e0.bs b o e).1
 have P7:∀y∈ps.zip us,scope.names.lookup y.1=some .local∨(scope.names.lookup y.1=some .cell∧((cellsFrom (s.heap.objs.size+1) scope.names []).lookup y.1).isSome=true):=λ⟨n,v⟩ hy=>by
  rcases S.par n (List.of_mem_zip hy).1 with q|q
  ·exact .inl q
  ·exact .inr ⟨q,PySem.W.cellsFrom_some _ _ _ (.inl q)⟩
 refine codeAny_call_function hr.depth (KX _ _ lk) rfl S.co S.gen rfl (PySem.W.codeRec_of KX fR) (hb _ _ _ _ ?_);refine wpAny_newFunctionEnv_cells S.kind P7 λenv he s1 x=>?_;subst he;refine ⟨lim.keeps x.toInCall.keep,codeAny_func ?_⟩;obtain ⟨t,ht,hq⟩:=oZ A outer s H vs Q E (hr.deeper _) AK;have I:Inv (pT CX P w K mg base N qual scope f bu A outer s H E) [] (start N vs) H s1:=CK S hr.hd e0 hl r x;refine wpAny_mono (ht [] s1 (start N vs) H _ I hq) (λfl s' hs=>?_) λe s' hs=>hs
 have fin:∀{ay:St}{H':Hp}{v:V}{u:Value},Inv (pT CX P w K mg base N qual scope f bu A outer s H E) [] ay H' s'→RelV v u→Q v H'→CE outer P w H s Q u s':=
  λ {ay H' v u} J rv q=>⟨v,H',J.os,J.bare,J.base,J.hok,rv,q⟩
 cases fl with
 |ret u=>
  obtain ⟨v,ay,H',J,rv,q⟩:=hs;exact fin J rv q
 |next=>
  obtain ⟨ay,H',J,q⟩:=hs;exact fin (v:=V.aM) (u:=Value.none) J rfl q
 |brk=>
  obtain ⟨_,_,_,q⟩:=hs;exact False.elim q
 |cont=>
  obtain ⟨_,_,_,q⟩:=hs;exact False.elim q
section
variable {X:Cx} {x:Str} {p pos:Pos} {e:Expr} {es:List Expr} {t:TA} {id T:String} {r:List V→Hp→VK→Prop}
def X0(r:List V→Hp→VK→Prop)(t:TA):TE:=λσ H Q=>t σ H λvs H1=>r vs H1 Q
theorem b8(hc:bZ X (.builtin id) r)(hg:Gl X x)(hm:X.mg x=none)(hv:bootBuiltins x=some (.builtin id))(ha:PA X (e::es) t)(hn:x≠"__name__":=by decide)(jM:(x==("__debug__":Str))=false:=by decide)
  (he:starEach (e::es) X.env=(false,eval e X.env)::starEach es X.env:=by rfl) (dR:(backTo pos (starEach es X.env)).any (·.1)=false:=by rfl):PE X (.Call (.Name x p) (e::es) [] pos) (X0 r t):=by
 intro pins s σ H Q I h;refine wpAny_Call_Name_kw (kM I hg hm hv ?_ hn jM);exact PyProof.Rows.callWith_builtin1 (thn (ha pos pins s σ H _ I h) λus s1 ⟨vs,H1,I1,r1,q1⟩=>hc pins s1 σ H1 vs us Q I1 r1 q1) he dR
theorem pB(hc:bZ X (.type T) r)(hg:Gl X x)(hm:X.mg x=none)(hv:bootBuiltins x=some (.type T))(ha:PA X (e::es) t)(hn:x≠"__name__":=by decide)(jM:(x==("__debug__":Str))=false:=by decide)
  (he:starEach (e::es) X.env=(false,eval e X.env)::starEach es X.env:=by rfl) (dR:(backTo pos (starEach es X.env)).any (·.1)=false:=by rfl):PE X (.Call (.Name x p) (e::es) [] pos) (X0 r t):=by
 intro pins s σ H Q I h;refine wpAny_Call_Name_kw (kM I hg hm hv ?_ hn jM);exact PyProof.Rows.callWith_type1 (thn (ha pos pins s σ H _ I h) λus s1 ⟨vs,H1,I1,r1,q1⟩=>hc pins s1 σ H1 vs us Q I1 r1 q1) he dR
end
end L2
namespace HT
open PySem PyProof.Rows
def lexLt:List Int→List Int→Bool
 | [],[]=>false
 | [],_::_=>true
 |_::_,[]=>false
 |x::xs,y::ys=>if x=y then lexLt xs ys else decide (x<y)
theorem jF(x y:Int)(xs ys:List Int):lexLt (x::xs) (y::ys)=if x=y then lexLt xs ys else decide (x<y):=rfl
theorem vc:lexLt [] []=false:=rfl
theorem tS(y:Int)(ys:List Int):lexLt [] (y::ys)=true:=rfl
theorem tR(x:Int)(xs:List Int):lexLt (x::xs) []=false:=rfl
theorem Fy(A:Around)(s:Shared)(a:Int)(t:Tok)(c:Int)(u:Tok):∃e,SeqAt.EqAt A s (.int a t) (.int c u) e∧(e=true↔a=c):=
 ⟨(a==c),SeqAt.EqAt.int_int a t c u,by simp⟩
theorem GD(A:Around)(s:Shared)(a:Int)(t:Tok)(c:Int)(u:Tok)(prog:Program)(w:World)(E:Value→Shared→Prop)(Q:Value→Shared→Prop)(h:Q (.bool (decide (a<c))) s):
  wpAny (model prog w) A (richCompare .Lt (.int a t) (.int c u)) Q E s:=
 (PyProof.Rows.lt_int h:wpAny (model prog w) A (compareOp .Lt (.int a t) (.int c u)) Q E s)
section
open PySem.SeqAt
open PySem.AutoSeq1 (wpAny_loadPart')
open PySem.MeetsSeq PySem.MeetsSeq2 PySem.MeetsSeq3
end
section
variable {prog:Program} {w:World} {A:Around} {E:Value→Shared→Prop} {s:Shared}
theorem Ho{t b:Addr}{vs ws:List Value}{Q:Value→Shared→Prop}(ht:IsTup s.heap t vs.toArray)(hb:IsTup s.heap b ws.toArray)(hv:vs≠ [])
  (h1:ws= []→Q (.ref t) s) (h2:ws≠ []→Q (.ref s.heap.objs.size) {s with heap:=s.heap.push {cls:= .type "tuple",data:= .seq (vs++ws).toArray}})
  (fS:vs.length+ws.length≤sizeLine):wpAny (model prog w) A (binaryOp .Add (.ref t) (.ref b)) Q E s:=by
 obtain ⟨⟨cls,dd,data,sl⟩,ho,hc,n,hd⟩:=id ht;obtain ⟨⟨Sx,yG,data2,vL⟩,AI,Cv,n2,hd2⟩:=id hb;simp only at hc hd Cv hd2;subst hc hd Cv hd2;have e:vs.toArray++ws.toArray=(vs++ws).toArray:=by simp
 by_cases hw:ws= []
 ·exact concat_meets ⟨_,ho,rfl⟩ ⟨_,AI,rfl⟩ noFill_tuple_add seq_tuple_add PySem.F.slot_tuple_add PySem.F.entry_tuple_add (PySem.F.args_tuple_add_2 _ _)
   (tuple_addW1 t b vs.toArray ws.toArray n n2 dd yG sl vL (by simpa using hv) (by simp [hw])) ⟨ho,AI,h1 hw⟩
 ·refine concat_meets ⟨_,ho,rfl⟩ ⟨_,AI,rfl⟩ noFill_tuple_add seq_tuple_add PySem.F.slot_tuple_add PySem.F.entry_tuple_add (PySem.F.args_tuple_add_2 _ _)
   (tuple_addW2 t b vs.toArray ws.toArray n n2 dd yG sl vL (by simpa using hv) (by simpa using hw) (by rw [cn,cn];exact fS)) ⟨ho,AI,?_⟩
  rw [e];exact h2 hw
def bK(n d:Nat):Option Int→Nat
 |none=>d
 |some v=>if v<0 then (v+(n:Int)).toNat else min v.toNat n
theorem ym(n d:Nat):bK n d none=d:=rfl
theorem Bl(n d k:Nat):bK n d (some (k:Int))=min k n:=by
 show (if (k:Int)<0 then ((k:Int)+(n:Int)).toNat else min (k:Int).toNat n)=min k n;rw [if_neg (by omega),jL]
theorem MA(n d:Nat)(hd:d≤n)(o:Option Int):bK n d o≤n:=by
 cases o with
 |none=>exact hd
 |some v=>
  show (if v<0 then (v+(n:Int)).toNat else min v.toNat n)≤n
  by_cases hv:v<0
  ·rw [if_pos hv];omega
  ·rw [if_neg hv];exact Nat.min_le_right _ _
theorem Ac(v:Int)(n d:Nat):(if v<0 then max (v+(n:Int)) 0 else min v (n:Int))=((bK n d (some v):Nat):Int):=by
 show (if v<0 then max (v+(n:Int)) 0 else min v (n:Int))=(((if v<0 then (v+(n:Int)).toNat else min v.toNat n):Nat):Int)
 by_cases hv:v<0
 ·simp only [if_pos hv];omega
 ·simp only [if_neg hv];omega
theorem z5(lo hi:Option Int)(n:Nat):Builtin.Slice.sliceAdjust lo hi 1 (n:Int)=(((bK n 0 lo:Nat):Int),((bK n n hi:Nat):Int)):=by
 have h1:¬((1:Int)<0):=by omega
 unfold Builtin.Slice.sliceAdjust;simp only [h1,if_false];refine Prod.ext ?_ ?_
 ·cases lo with
  |none=>rfl
  |some v=>exact Ac v n 0
 ·cases hi with
  |none=>rfl
  |some v=>exact Ac v n n
theorem Bc(i j:Nat):Builtin.Slice.slicePlaces (i:Int) (j:Int) 1=j-i:=by
 unfold Builtin.Slice.slicePlaces;have h1:(1:Int)>0:=by omega
 simp only [h1,if_true,Int.ediv_one]
 split<;>omega
theorem sX{v:Value}{o:Option Int}{Q:Option Int→Shared→Prop}(p:IsPart v o)(h:Q o s):wpAny (model prog w) A (Builtin.Slice.slicePartIndex v) Q E s:=by
 cases p with
 |none=>exact slicePart_none h
 |int i t=>exact slicePart_int h
theorem qJ{sl:Addr}{vl vu:Value}{lo hi:Option Int}{n:Nat}{Q:Int×Int×Nat→Shared→Prop}(hs:s.heap.IsSliceOf sl vl vu .none)(pl:IsPart vl lo)(pu:IsPart vu hi)
  (h:Q (((bK n 0 lo:Nat):Int),1,bK n n hi-bK n 0 lo) s):wpAny (model prog w) A (Builtin.Slice.sliceApplied (.ref sl) (pure (n:Int))) Q E s:=by
 obtain ⟨os,IU,UA,FR⟩:=id hs;unfold Builtin.Slice.sliceApplied Builtin.Slice.sliceFields;refine wpAny_bind (wpAny_bind (wpAny_field IU FR (x:=vl) rfl (wpAny_bind (wpAny_field IU FR (x:=vu) rfl (wpAny_bind (wpAny_field IU FR (x:= .none) rfl (wpAny_pure ?_)))))));refine wpAny_bind (slicePart_none ?_);show wpAny _ _ (if ((1:Int)==0)=true then _ else _) _ _ s;rw [if_neg (by decide)]
 refine wpAny_bind (sX pl (wpAny_bind (sX pu (wpAny_bind (wpAny_pure ?_)))));show wpAny _ _ (match Builtin.Slice.sliceAdjust lo hi 1 (n:Int) with| (lo,hi)=>pure (lo,(1:Int),Builtin.Slice.slicePlaces lo hi 1)) _ _ s
 rw [z5 lo hi n];show wpAny _ _ (pure (((bK n 0 lo:Nat):Int),(1:Int),Builtin.Slice.slicePlaces ((bK n 0 lo:Nat):Int) ((bK n n hi:Nat):Int) 1)) _ _ s;rw [Bc];exact wpAny_pure h
theorem Gv(xs:Array Value)(i k:Nat):((List.range k).filterMap λ(m:Nat)=>xs[((i:Int)+(m:Int)*1).toNat]?).toArray=((xs.toList.drop i).take k).toArray:=by
 have e:(λ(m:Nat)=>xs[((i:Int)+(m:Int)*1).toNat]?)=λm=>xs[i+m]? :=by
  funext m
  have:((i:Int)+(m:Int)*1).toNat=i+m:=by omega
  rw [this]
 rw [e]
 have:=pick_run xs i k
 rw [List.filterMap_map] at this;have e2:((λx=>xs[x]?)∘λx=>i+x)=λm=>xs[i+m]? :=rfl;rw [e2] at this;rw [this]
theorem oW{t sl:Addr}{items:Array Value}{vl vu:Value}{lo hi:Option Int}{Q:Value→Shared→Prop}(ht:IsTup s.heap t items)(hs:s.heap.IsSliceOf sl vl vu .none)(pl:IsPart vl lo)(pu:IsPart vu hi)
  (hw:¬(bK items.size 0 lo=0∧bK items.size items.size hi=items.size))
  (h:Q (.ref s.heap.objs.size) {s with heap:=s.heap.push {cls:= .type "tuple",data:= .seq ((items.toList.drop (bK items.size 0 lo)).take (bK items.size items.size hi-bK items.size 0 lo)).toArray}})
  (fS:items.size≤sizeLine):wpAny (model prog w) A (getItem (.ref t) (.ref sl)) Q E s:=by
 have y6:sizeOk (.seq ((items.toList.drop (bK items.size 0 lo)).take (bK items.size items.size hi-bK items.size 0 lo)).toArray):=by
  show ((items.toList.drop (bK items.size 0 lo)).take (bK items.size items.size hi-bK items.size 0 lo)).toArray.size≤sizeLine;rw [cn,iI,iJ,cu];omega
 have hj:bK items.size items.size hi≤items.size:=MA _ _ (aV _) hi;obtain ⟨os,IU,UA,FR⟩:=id hs;have hTs:s.TypeIs (.ref sl) "slice":=⟨os,IU,UA⟩;unfold getItem
 try with_reducible refine wpAny_holding ?_
 first|refine wpAny_bind (wpAny_pure ?_) |skip
 refine wpAny_bind (wpAny_sequenceKey ht.typeIs (by decide) ?_)
 refine wpAny_bind (wpAny_callSpecial?_slot (name:=Str.ofString "__getitem__") ht.typeIs PyProof.Rows.slot_tuple_getitem
  (wpAny_call_entry PyProof.Rows.slot_tuple_getitem ht.typeIs entry_tuple_getitem ?_ (args_tuple_getitem _ _)))
 show wpAny _ _ (Builtin.Tuple.tupleItemsOf (.ref t)>>=_) _ _ s;refine wpAny_bind (tupleItemsOf_ ht ?_);refine wpAny_bind (wpAny_typeOf hTs ?_);rw [if_pos (by decide)]
 refine wpAny_bind (qJ hs pl pu ?_)
 have yY:¬((((bK items.size 0 lo:Nat):Int)==0&&(1:Int)==1&&(bK items.size items.size hi-bK items.size 0 lo)==items.size)=true):=by
  intro q;rw [yz,yz] at q;have q1:((bK items.size 0 lo:Nat):Int)=0:=eq_of_beq q.1.1;have q2:bK items.size items.size hi-bK items.size 0 lo=items.size:=eq_of_beq q.2;exact hw ⟨by omega,by omega⟩
 show wpAny _ _ (if (((bK items.size 0 lo:Nat):Int)==0&&(1:Int)==1&&(bK items.size items.size hi-bK items.size 0 lo)==items.size)=true then _ else _) _ _ s;rw [if_neg yY,Gv]
 first
  |exact wpAny_bind (m:=Builtin.Tuple.tupleExact _) (wpAny_newObj_type (wpAny_pure ⟨_,rfl,wpAny_pure h⟩) y6)
  |exact wpAny_bind (m:=Builtin.Tuple.tupleExact _) (wpAny_newObj_type (wpAny_bind (wpAny_pure (wpAny_pure ⟨_,rfl,wpAny_pure h⟩))) y6)
  |exact wpAny_bind (wpAny_bind (m:=Builtin.Tuple.tupleExact _) (wpAny_newObj_type (wpAny_pure (wpAny_pure ⟨_,rfl,wpAny_pure h⟩)) y6))
  |exact wpAny_bind (wpAny_bind (m:=Builtin.Tuple.tupleExact _) (wpAny_newObj_type (wpAny_pure ⟨_,rfl,wpAny_pure h⟩) y6))
end
end HT
namespace L2
open PySem PySem.Spec PyProof.Rows
abbrev TO:=St→Hp→(Option Int→Hp→Prop)→Prop
def PO(X:Cx)(e:Option Expr)(t:TO):Prop:=
 ∀(pins:List (Addr×Obj))(s:Shared)(σ:St)(H:Hp)(Q:Option Int→Hp→Prop),Inv X pins σ H s→t σ H Q→
  wpAny (model X.prog X.w) X.A (evalPart e X.env) (λu s'=>∃o H',Inv X pins σ H' s'∧IsPart u o∧Q o H') X.xe s
def Kz:TO:=λ_ H Q=>Q none H
def Rt(t:TE):TO:=λσ H Q=>t σ H λx H1=>∃i,x= .int i∧Q (some i) H1
theorem intsAre_of{ns:List Int}:∀{us:List Value},Vals (ns.map V.int) us→IntsAre us ns:=by
 induction ns with
 |nil=>intro us r;rw [List.map_nil] at r;cases r;exact .nil
 |cons n ns ih=>
  intro us r;rw [gI] at r;cases r with
  |cons r1 r2=>
   obtain ⟨t,e⟩:=r1;subst e;exact .cons n t (ih r2)
section
variable {X:Cx} {e:Expr} {te:TE} {lo hi:Option Expr} {tl th:TO} {pos p2:Pos}
theorem vB:PO X none Kz:=by
 intro pins s σ H Q I h;rw [evalPart_none];exact wpAny_pure ⟨none,H,I, .none,h⟩
theorem mE(h:PE X e te):PO X (some e) (Rt te):=by
 intro pins s σ H Q I hw;rw [evalPart_some];refine thn (h pins s σ H _ I hw) λu s1 ⟨x,H1,I1,r1,q1⟩=>?_;obtain ⟨i,rfl,q⟩:=q1;obtain ⟨t,rfl⟩:=r1;exact ⟨some i,H1,I1, .int i t,q⟩
def BY(X:Cx)(r:V→Option Int→Option Int→Hp→VK→Prop):Prop:=
 ∀(pins:List (Addr×Obj))(s:Shared)(σ:St)(H:Hp)(x:V)(v vl vu:Value)(lo hi:Option Int)(sl:Addr)(Q:VK),Inv X pins σ H s→RelV x v→s.heap.IsSliceOf sl vl vu .none→IsPart vl lo→IsPart vu hi→r x lo hi H Q→
  ∃T id,typeLookup (.type T) "__getitem__"=pure (some (.builtin id))∧s.TypeIs v T∧wpAny (model X.prog X.w) X.A (getItem v (.ref sl)) (EP X pins σ Q) X.xe s
theorem BY.or{r r':V→Option Int→Option Int→Hp→VK→Prop}(h:BY X r)(h':BY X r'):BY X (λx lo hi H Q=>r x lo hi H Q∨r' x lo hi H Q):=by
 intro pins s σ H x v vl vu lo hi sl Q I rx hs pl pu q
 rcases q with q|q
 ·exact h pins s σ H x v vl vu lo hi sl Q I rx hs pl pu q
 ·exact h' pins s σ H x v vl vu lo hi sl Q I rx hs pl pu q
def tSl(r:V→Option Int→Option Int→Hp→VK→Prop)(te:TE)(tl th:TO):TE:=λσ H Q=>te σ H λx H1=>tl σ H1 λl H2=>th σ H2 λu H3=>r x l u H3 Q
theorem nN{r:V→Option Int→Option Int→Hp→VK→Prop}(hr:BY X r)(he:PE X e te)(hl:PO X lo tl)(hu:PO X hi th):PE X (.Subscript e (.Slice lo hi none p2) pos) (tSl r te tl th):=by
 intro pins s σ H Q I h;refine Subscript_ (thn (he pins s σ H _ I h) λv s1 ⟨x,H1,I1,r1,q1⟩=>?_);refine wpAny_Slice (thn (hl pins s1 σ H1 _ I1 q1) λvl s2 ⟨l,H2,I2,pl,q2⟩=>thn (hu pins s2 σ H2 _ I2 q2) λvu s3 ⟨u,H3,I3,pu,q3⟩=>?_);rw [evalPart_none];refine wpAny_pure ?_;have I4:Inv X pins σ H3 {s3 with heap:=s3.heap.push {cls:= .type "slice",data:= .fields #[vl,vu, .none]}}:=I3.kept (t':=s3.toks) λb ob q=>Heap.get?_push_of_some _ q
 obtain ⟨T,id,hT,ht,hg⟩:=hr pins {s3 with heap:=s3.heap.push {cls:= .type "slice",data:= .fields #[vl,vu, .none]}} σ H3 x v vl vu l u s3.heap.objs.size Q I4 r1 (Heap.IsSliceOf.new ..) pl pu q3
 show wpAny (model X.prog X.w) X.A (subscriptTail e (.Slice lo hi none p2) v (.ref s3.heap.objs.size)) (EP X pins σ Q) X.xe {s3 with heap:=s3.heap.push {cls:= .type "slice",data:= .fields #[vl,vu, .none]}}
 exact tail_any (ops:= [.ref s3.heap.objs.size,v]) ht hT hg (by with_unfolding_all rfl)
def gK(xs:List V)(lo hi:Option Int):List V:=(xs.drop (HT.bK xs.length 0 lo)).take (HT.bK xs.length xs.length hi-HT.bK xs.length 0 lo)
theorem kC(xs:List V)(lo hi:Option Int):(gK xs lo hi).length≤xs.length:=by
 unfold gK;rw [iI,iJ];omega
def Xi(K:PySem.W.Frag):V→Option Int→Option Int→Hp→VK→Prop:=λx lo hi H Q=>∃a xs,x= .ref a∧dX K H a xs∧
 ¬(HT.bK xs.length 0 lo=0∧HT.bK xs.length xs.length hi=xs.length)∧∀p,H p=none→Q (.ref p) (upd H p (.tup (gK xs lo hi)))
theorem MC:BY X (Xi X.K):=by
 intro pins s σ H x v vl vu lo hi sl Q I rx hs pl pu h;obtain ⟨a,xs,rfl,hx,hw,q⟩:=h;cases rx;obtain ⟨its,r,ht,hz⟩:=I.tuple hx;have hlen:its.toArray.size=xs.length:=by rw [cn];exact r.length.symm
 refine ⟨"tuple",_,PyProof.Rows.slot_tuple_getitem.lookup,ht.typeIs,?_⟩;refine HT.oW ht hs pl pu (by rw [hlen];exact hw) ?_ (by rw [hlen];exact hz)
 rw [hlen];refine ⟨.ref s.heap.objs.size,_,I.laid (t':=s.toks) (o:= .tup (gK xs lo hi)) (λb ob q=>Heap.get?_push_of_some _ q) (aV _) ?_,rfl,q _ (I.hok.fresh (aV _))⟩;exact ⟨ku (kC xs lo hi) hz,_,(r.drop (HT.bK xs.length 0 lo)).take (HT.bK xs.length xs.length hi-HT.bK xs.length 0 lo),IsTup.new _ _⟩
def Rc(K:PySem.W.Frag):R2:=λx y H Q=>∃a b xs ys,x= .ref a∧y= .ref b∧dX K H a xs∧dX K H b ys∧xs≠ []∧xs.length+ys.length≤sizeLine∧
 (ys= []→Q (.ref a) H)∧(ys≠ []→∀p,H p=none→Q (.ref p) (upd H p (.tup (xs++ys))))
theorem Vals.vm{xs:List V}{us:List Value}(r:Vals xs us):us= []↔xs= []:=by
 cases r with
 |nil=>simp
 |cons _ _=>simp
theorem JV:OpR X (binaryOp .Add) (Rc X.K):=by
 intro pins s σ H x y v u Q I rx ry h;obtain ⟨a,b,xs,ys,rfl,rfl,ha,hb,hx,hz,q1,q2⟩:=h;cases rx;cases ry;obtain ⟨its,r1,p1,_⟩:=I.tuple ha;obtain ⟨sO,r2,p2,_⟩:=I.tuple hb;refine HT.Ho p1 p2 (λz=>hx (r1.vm.mp z)) (λz=>⟨.ref a,H,I,rfl,q1 (r2.vm.mp z)⟩) (λz=>?_) (by rw [←r1.length,←r2.length];exact hz)
 refine ⟨.ref s.heap.objs.size,_,I.laid (t':=s.toks) (o:= .tup (xs++ys)) (λb ob q=>Heap.get?_push_of_some _ q) (aV _) ?_,rfl,q2 (λw=>z (r2.vm.mpr w)) _ (I.hok.fresh (aV _))⟩;exact ⟨by rw [dS];exact hz,_,r1.append r2,IsTup.new _ _⟩
end
def iw(n:Nat)(i:Int):Option Nat:=if 0≤i then (if i<n then some i.toNat else none) else if-(n:Int)≤i then some (i+n).toNat else none
def fB{α:Type}(xs:List α)(i:Int):Option α:=(iw xs.length i).bind λj=>xs[j]?
theorem AQ{n:Nat}{i:Int}{j:Nat}(h:iw n i=some j):seqIndex? i n=some j∧j<n∧-(n:Int)≤i∧i<n:=by
 unfold iw at h
 by_cases h0:0≤i
 ·rw [if_pos h0] at h
  by_cases h1:i<n
  ·rw [if_pos h1] at h
   have e:i.toNat=j:=Option.some.inj h;exact ⟨by rw [seqIndex_of h0 h1,e],by omega,by omega,h1⟩
  ·rw [if_neg h1] at h;cases h
 ·rw [if_neg h0] at h
  by_cases h1: -(n:Int)≤i
  ·rw [if_pos h1] at h
   have e:(i+n).toNat=j:=Option.some.inj h;exact ⟨by rw [seqIndex_neg (by omega) h1,e],by omega,h1,by omega⟩
  ·rw [if_neg h1] at h;cases h
theorem uo{α:Type}{xs:List α}{i:Int}{v:α}(h:fB xs i=some v):∃j,seqIndex? i xs.length=some j∧xs[j]? =some v∧j<xs.length∧-(xs.length:Int)≤i∧i<xs.length:=by
 unfold fB at h;cases e:iw xs.length i with
 |none=>rw [e] at h;cases h
 |some j=>
  rw [e] at h;obtain ⟨h1,h2,h3,h4⟩:=AQ e;exact ⟨j,h1,h,h2,h3,h4⟩
theorem ck{α:Type}{xs:List α}{j:Nat}{v:α}(h:xs[j]? =some v):fB xs (j:Int)=some v:=by
 have hj:j<xs.length:=(cF.mp h).1
 have e:iw xs.length (j:Int)=some j:=by
  unfold iw;rw [if_pos (by omega),if_pos (by omega)];simp
 unfold fB;rw [e];exact h
def lQ(b:Expr):Prop:=∀o i,subscripted b false o i=operate [o,i] (getItem o i)
def wI(X:Cx)(r:R2):Prop:=
 ∀(value slice:Expr)(pins:List (Addr×Obj))(s:Shared)(σ:St)(H:Hp)(x y:V)(v u:Value)(Q:VK),Inv X pins σ H s→RelV x v→RelV y u→r x y H Q→
  subscripted slice false v u=operate [v,u] (getItem v u)→wpAny (model X.prog X.w) X.A (subscriptTail value slice v u) (EP X pins σ Q) X.xe s
def BW(X:Cx)(id:String)(r:V→List V→Hp→VK→Prop):Prop:=
 ∀(pins:List (Addr×Obj))(s:Shared)(σ:St)(H:Hp)(x:V)(xs:List V)(v:Value)(us:List Value)(Q:VK),Inv X pins σ H s→RelV x v→Vals xs us→r x xs H Q→
  wpAny (model X.prog X.w) X.A (call (.builtin id) (v::us)) (EP X pins σ Q) X.xe s
section
variable {X:Cx} {a b:Expr} {ta tb:TE} {pos:Pos}
theorem wI.or{r r':R2}(h:wI X r)(h':wI X r'):wI X (λx y H Q=>r x y H Q∨r' x y H Q):=by
 intro value slice pins s σ H x y v u Q I rx ry q hs
 rcases q with q|q
 ·exact h value slice pins s σ H x y v u Q I rx ry q hs
 ·exact h' value slice pins s σ H x y v u Q I rx ry q hs
theorem b9{r:R2}(hr:wI X r)(ha:PE X a ta)(hb:PE X b tb)(hs:lQ b):PE X (.Subscript a b pos) (zM r ta tb):=by
 intro pins s σ H Q I h;exact Subscript_ (Hl ha hb I h λv u s2 x y H2 I2 rx ry q=>hr a b pins s2 σ H2 x y v u Q I2 rx ry q (hs _ _))
def EK(K:PySem.W.Frag):R2:=λx y H Q=>∃p xs i v,x= .ref p∧y= .int i∧aH K H p xs∧fB xs i=some v∧Q v H
def Ow(K:PySem.W.Frag):R2:=λx y H Q=>∃p xs i v,x= .ref p∧y= .int i∧dX K H p xs∧fB xs i=some v∧Q v H
def Xe:R2:=λx y H Q=>∃z i c,x= .str z∧y= .int i∧z.length≤sizeLine∧fB z.cps.toList i=some c∧Q (.str ⟨#[c]⟩) H
theorem bx:wI X (EK X.K):=by
 intro value slice pins s σ H x y v u Q I rx ry h hs;obtain ⟨p,xs,i,z,rfl,rfl,hq,he,q⟩:=h;cases rx;obtain ⟨t,rfl⟩:=ry;obtain ⟨its,r,pl,hz⟩:=I.list hq;obtain ⟨j,h1,h2,h3,h4,h5⟩:=uo he;obtain ⟨w,ew,vG⟩:=r.get h2;have hl:=r.length;have hn:=iO;have fin:EP X pins σ Q w s:=⟨z,H,I,vG,q⟩
 by_cases h0:0≤i
 ·have hj:i.toNat=j:=by
   rw [seqIndex_of h0 h5] at h1;exact Option.some.inj h1
  exact item_listR pl.isList h0 (by omega) (by rw [hj];simpa using ew) fin hs
 ·have hj:(i+(its.toArray.size:Int)).toNat=j:=by
   rw [seqIndex_neg (by omega) h4] at h1
   rw [cn,←hl];exact Option.some.inj h1
  exact subscriptTail_builtinR (x:=w) pl.isList.typeIs slot_list_getitem.lookup
   (wpAny_getItem_list_neg (Q:=λr s'=>r=w∧EP X pins σ Q r s') pl.isList (by omega) (by rw [cn]<;>omega) (by omega) (by rw [hj];simpa using ew) ⟨rfl,fin⟩) hs
theorem Ez:wI X (Ow X.K):=by
 intro value slice pins s σ H x y v u Q I rx ry h hs;obtain ⟨p,xs,i,z,rfl,rfl,hq,he,q⟩:=h;cases rx;obtain ⟨t,rfl⟩:=ry;obtain ⟨its,r,pl,hz⟩:=I.tuple hq;obtain ⟨j,h1,h2,h3,h4,h5⟩:=uo he;obtain ⟨w,ew,vG⟩:=r.get h2;have hl:=r.length;have hn:=iO;have fin:EP X pins σ Q w s:=⟨z,H,I,vG,q⟩
 exact subscriptTail_builtinR (x:=w) pl.typeIs slot_tuple_getitem.lookup
  (getItem_tuple (j:=j) (Q:=λr s'=>r=w∧EP X pins σ Q r s') pl (by omega) (by omega) (by rw [cn,←hl];exact h1) (by simpa using ew) ⟨rfl,fin⟩) hs
theorem LI:wI X Xe:=by
 intro value slice pins s σ H x y v u Q I rx ry h hs;obtain ⟨z,i,c,rfl,rfl,hz,he,q⟩:=h;obtain ⟨t,rfl⟩:=rx;obtain ⟨t',rfl⟩:=ry;obtain ⟨j,h1,h2,h3,h4,h5⟩:=uo he;have hl:z.cps.toList.length=z.length:=by simp [Str.length]
 rw [hl] at h1 h4 h5;have hn:=iO
 exact tail_any (typeIs_str s z t) slot_str_getitem.lookup (getItem_str (c:=c) (by
  have e1:decide (i< -(2^63:Int))=false:=decide_eq_false (by omega)
  have e2:decide (i≥2^63)=false:=decide_eq_false (by omega)
  rw [e1,e2,Bool.or_false]) (by rw [h1];simpa using h2) ⟨.str ⟨#[c]⟩,H,I.tok _,⟨_,rfl⟩,q⟩) hs
theorem A2(its:List Value)(n j:Nat)(u:Value):Obj.mapSeq (·.setIfInBounds j u) {cls:= .type "list",data:= .seq its.toArray n}={cls:= .type "list",data:= .seq (its.set j u).toArray n}:=by
 simp [Obj.mapSeq]
theorem Inv.lst{pins:List (Addr×Obj)}{σ:St}{H:Hp}{s:Shared}{p:Addr}{xs:List V}(I:Inv X pins σ H s)(h:H p=some (.lst xs)):
  ∃(its:List Value)(n:Nat),Vals xs its∧s.heap.get? p=some {cls:= .type "list",data:= .seq its.toArray n}∧xs.length≤sizeLine:=by
 obtain ⟨z,its,n,r,e⟩:=I.hok p _ h;exact ⟨its,n,r,e,z⟩
theorem Inv.LX{pins:List (Addr×Obj)}{σ:St}{H:Hp}{s:Shared}{p:Addr}{xs ys:List V}{its its':List Value}{n n':Nat}{f:Obj→Obj}(I:Inv X pins σ H s)(h:H p=some (.lst xs))
  (ho:s.heap.get? p=some {cls:= .type "list",data:= .seq its.toArray n}) (hf:f {cls:= .type "list",data:= .seq its.toArray n}={cls:= .type "list",data:= .seq its'.toArray n'}) (r:Vals ys its') (hz:ys.length≤sizeLine) (t:Nat):
  Inv X pins σ (upd H p (.lst ys)) {s with heap:=s.heap.update p f,toks:=t}:=by
 have e:(s.heap.update p f).get? p=some {cls:= .type "list",data:= .seq its'.toArray n'}:=by
  rw [Heap.get?_update_self f ho (by rw [hf]<;>rfl),hf]
 refine I.write (x:=p) (e:=p) (by rw [h];trivial) (.inl rfl) (λb u hb q=>(Heap.get?_update_other _ _ (Ne.symm hb)).trans q) ⟨_,e⟩ ?_
 exact ⟨hz,its',n',r,e⟩
def Kb:V→V→V→Hp→(Hp→Prop)→Prop:=λo i v H Q=>∃p xs k j,o= .ref p∧i= .int k∧H p=some (.lst xs)∧iw xs.length k=some j∧Q (upd H p (.lst (xs.set j v)))
theorem set_list:M9 X Kb:=by
 intro pins s σ H o i v ov iv u Q I ro ri rv h;obtain ⟨p,xs,k,j,rfl,rfl,hp,hj,q⟩:=h;cases ro;obtain ⟨t,rfl⟩:=ri;obtain ⟨its,n,r,ho,hz⟩:=I.lst hp;obtain ⟨h1,h2,h3,h4⟩:=AQ hj;have hl:=r.length;have hn:=iO
 have I':Inv X pins σ (upd H p (.lst (xs.set j v))) {s with heap:=s.heap.update p (Obj.mapSeq (·.setIfInBounds j u))}:=
  I.LX hp ho (A2 its n j u) (r.set rv j) (by rw [gm];exact hz) s.toks
 by_cases h0:0≤k
 ·have hk:k.toNat=j:=by
   rw [seqIndex_of h0 h4] at h1;exact Option.some.inj h1
  exact PySem.W.ki_setAt ho h0 (by omega) (by rw [cn,←hl];exact h4) (by rw [hk];exact ⟨_,I',q⟩)
 ·have hk:(k+(its.toArray.size:Int)).toNat=j:=by
   rw [seqIndex_neg (by omega) h3] at h1
   rw [cn,←hl];exact Option.some.inj h1
  exact PySem.W.ki_setBack ho (by omega) (by rw [cn,←hl];exact h3) (by omega) (by rw [hk];exact ⟨_,I',q⟩)
theorem xg(lo hi:Option Int)(n:Nat):(sliceBounds lo hi none n).1=((HT.bK n 0 lo:Nat):Int)∧(sliceBounds lo hi none n).2.1=((HT.bK n n hi:Nat):Int)∧(sliceBounds lo hi none n).2.2=1:=by
 refine ⟨?_,?_,rfl⟩
 ·cases lo with
  |none=>simp [sliceBounds,HT.bK]
  |some i=>
   simp only [sliceBounds,HT.bK,Option.getD_none,show (1:Int)>0 by decide,if_true]
   by_cases h:i<0
   ·simp only [h,if_true]<;>omega
   ·simp only [h,if_false]<;>omega
 ·cases hi with
  |none=>simp [sliceBounds,HT.bK]
  |some i=>
   simp only [sliceBounds,HT.bK,Option.getD_none,show (1:Int)>0 by decide,if_true]
   by_cases h:i<0
   ·simp only [h,if_true]<;>omega
   ·simp only [h,if_false]<;>omega
theorem vM(its:List Value)(lo hi:Option Int):slicePick its.toArray lo hi none=((its.drop (HT.bK its.length 0 lo)).take (HT.bK its.length its.length hi-HT.bK its.length 0 lo)).toArray:=by
 obtain ⟨h1,h2,h3⟩:=xg lo hi its.toArray.size;unfold slicePick;rw [h1,h2,h3];simp only [sliceRange_one,pick_run,cn]<;>rfl
def Xh(K:PySem.W.Frag):V→Option Int→Option Int→Hp→VK→Prop:=λx lo hi H Q=>∃a xs,x= .ref a∧aH K H a xs∧∀p,H p=none→Q (.ref p) (upd H p (.lst (gK xs lo hi)))
theorem qI:BY X (Xh X.K):=by
 intro pins s σ H x v vl vu lo hi sl Q I rx hs pl pu h;obtain ⟨a,xs,rfl,hx,q⟩:=h;cases rx;obtain ⟨its,r,ht,hz⟩:=I.list hx;have hlen:=r.length;refine ⟨"list",_,slot_list_getitem.lookup,ht.isList.typeIs,?_⟩;refine wpAny_getItem_list_slice ht.isList hs pl pu .none (by simp) ?_ (by rw [cn]<;>omega)
 rw [vM,←hlen];refine ⟨.ref s.heap.objs.size,_,I.laid (t':=s.toks) (o:= .lst (gK xs lo hi)) (λb ob q=>Heap.get?_push_of_some _ q) (aV _) ?_,rfl,q _ (I.hok.fresh (aV _))⟩;exact ⟨ku (kC xs lo hi) hz,_,0,(r.drop (HT.bK xs.length 0 lo)).take (HT.bK xs.length xs.length hi-HT.bK xs.length 0 lo),Heap.get?_push_size _ rfl⟩
def gz:V→Bool
 | .aM=>true
 | .bl _=>true
 | .int _=>true
 | .str _=>true
 |_=>false
def oT:V→V→Bool
 | .aM, .aM=>true
 | .bl a, .bl b=>a==b
 | .bl a, .int b=>(if a then 1 else 0)==b
 | .int a, .bl b=>a==(if b then 1 else 0)
 | .int a, .int b=>a==b
 | .str a, .str b=>a==b
 |_,_=>false
theorem Lm{A:Around}{s:Shared}{y x:V}{u v:Value}(ry:RelV y u)(rx:RelV x v)(fy:gz y=true)(fx:gz x=true):SeqAt.EqAt A s u v (oT y x):=by
 cases y with
 |aM=>
  cases ry;cases x with
  |aM=>cases rx;exact SeqAt.EqAt.same _
  |bl b=>cases rx;exact SeqAt.EqAt.none_bool b
  |int b=>obtain ⟨t,rfl⟩:=rx;exact SeqAt.EqAt.none_int b t
  |str b=>obtain ⟨t,rfl⟩:=rx;exact SeqAt.EqAt.none_str b t
  |_=>exact absurd (show false=true from fx) cZ
 |bl a=>
  cases ry;cases x with
  |aM=>cases rx;exact SeqAt.EqAt.bool_none a
  |bl b=>cases rx;exact SeqAt.EqAt.bool_bool a b
  |int b=>obtain ⟨t,rfl⟩:=rx;exact SeqAt.EqAt.bool_int a b t
  |str b=>obtain ⟨t,rfl⟩:=rx;exact SeqAt.EqAt.bool_str a b t
  |_=>exact absurd (show false=true from fx) cZ
 |int a=>
  obtain ⟨t',rfl⟩:=ry;cases x with
  |aM=>cases rx;exact SeqAt.EqAt.int_none a t'
  |bl b=>cases rx;exact SeqAt.EqAt.int_bool a t' b
  |int b=>obtain ⟨t,rfl⟩:=rx;exact SeqAt.EqAt.int_int a t' b t
  |str b=>obtain ⟨t,rfl⟩:=rx;exact SeqAt.EqAt.int_str a t' b t
  |_=>exact absurd (show false=true from fx) cZ
 |str a=>
  obtain ⟨t',rfl⟩:=ry;cases x with
  |aM=>cases rx;exact SeqAt.EqAt.str_none a t'
  |bl b=>cases rx;exact SeqAt.EqAt.str_bool a t' b
  |int b=>obtain ⟨t,rfl⟩:=rx;exact SeqAt.EqAt.str_int a t' b t
  |str b=>obtain ⟨t,rfl⟩:=rx;exact SeqAt.EqAt.str_str a t' b t
  |_=>exact absurd (show false=true from fx) cZ
 |_=>exact absurd (show false=true from fy) cZ
def n4(x:V)(u:Value):Bool:=match u with
 | .none=>oT .aM x
 | .bool b=>oT (.bl b) x
 | .int i _=>oT (.int i) x
 | .str z _=>oT (.str z) x
 |_=>false
theorem t6{x y:V}{u:Value}(r:RelV y u)(f:gz y=true):n4 x u=oT y x:=by
 cases y with
 |aM=>cases r;rfl
 |bl b=>cases r;rfl
 |int i=>obtain ⟨t,rfl⟩:=r;rfl
 |str z=>obtain ⟨t,rfl⟩:=r;rfl
 |_=>exact absurd (show false=true from f) cZ
theorem lS{x:V}:∀{xs:List V}{us:List Value},Vals xs us→xs.all gz=true→us.any (n4 x)=xs.any λy=>oT y x
 |_,_, .nil,_=>rfl
 |y::xs,u::us, .cons r t,f=>by
  rw [List.all_cons,yz] at f;rw [List.any_cons,List.any_cons,t6 r f.1,lS t f.2]
theorem iX{A:Around}{s:Shared}{x:V}{v:Value}(rx:RelV x v)(fx:gz x=true):∀{xs:List V}{us:List Value},Vals xs us→xs.all gz=true→∀u∈us,SeqAt.EqAt A s u v (n4 x u)
 |_,_, .nil,_=>λu hu=>by cases hu
 |y::xs,u::us, .cons r t,f=>λu' hu=>by
  rw [List.all_cons,yz] at f
  rcases bV.mp hu with rfl|hu
  ·rw [t6 r f.1];exact Lm r rx f.1 fx
  ·exact iX rx fx t f.2 u' hu
def CH(x:V)(xs:List V):Bool:=xs.any λy=>oT y x
def Mu(K:PySem.W.Frag)(neg:Bool):R2:=λx y H Q=>∃p xs,y= .ref p∧(aH K H p xs∨dX K H p xs)∧gz x=true∧xs.all gz=true∧Q (.bl (if neg then !CH x xs else CH x xs)) H
theorem C4:OpR X (compareOp .In) (Mu X.K false):=by
 intro pins s σ H x y v u Q I rx ry h;obtain ⟨p,xs,rfl,hq,fx,fs,q⟩:=h;cases ry
 rcases hq with hq|hq
 ·obtain ⟨its,r,pl,hz⟩:=I.list hq
  refine SeqAt.in_listAt (n4 x) pl.isList (λw hw=>iX rx fx r fs w (by simpa using hw)) ⟨.bl _,H,I,rfl,?_⟩
  rw [show its.toArray.any (n4 x)=its.any (n4 x) by simp,lS r fs]
  exact q
 ·obtain ⟨its,r,pl,hz⟩:=I.tuple hq
  refine SeqAt.in_tupleAt (n4 x) pl (λw hw=>iX rx fx r fs w (by simpa using hw)) ⟨.bl _,H,I,rfl,?_⟩
  rw [show its.toArray.any (n4 x)=its.any (n4 x) by simp,lS r fs]
  exact q
theorem oq:OpR X (compareOp .NotIn) (Mu X.K true):=by
 intro pins s σ H x y v u Q I rx ry h;obtain ⟨p,xs,rfl,hq,fx,fs,q⟩:=h;cases ry
 rcases hq with hq|hq
 ·obtain ⟨its,r,pl,hz⟩:=I.list hq
  refine SeqAt.notIn_listAt (n4 x) pl.isList (λw hw=>iX rx fx r fs w (by simpa using hw)) ⟨.bl _,H,I,rfl,?_⟩
  rw [show its.toArray.any (n4 x)=its.any (n4 x) by simp,lS r fs]
  exact q
 ·obtain ⟨its,r,pl,hz⟩:=I.tuple hq
  refine SeqAt.notIn_tupleAt (n4 x) pl (λw hw=>iX rx fx r fs w (by simpa using hw)) ⟨.bl _,H,I,rfl,?_⟩
  rw [show its.toArray.any (n4 x)=its.any (n4 x) by simp,lS r fs]
  exact q
theorem cc:bZ X (.builtin "len") (λxs H Q=>∃p ys,xs= [.ref p]∧(aH X.K H p ys∨dX X.K H p ys)∧Q (.int ys.length) H):=by
 intro pins s σ H xs us Q I r h;obtain ⟨p,ys,rfl,hq,q⟩:=h;obtain ⟨u,rfl,rx⟩:=vals1 r;cases rx;have hn:=iO
 rcases hq with hq|hq
 ·obtain ⟨its,r',pl,hz⟩:=I.list hq
  have hlen:=r'.length;exact Calls.call_len_list pl.isList (by simp only [cn]<;>omega) ⟨.int ys.length,H,I.tok _,⟨s.toks+1,by rw [cn,hlen]⟩,q⟩
 ·obtain ⟨its,r',pl,hz⟩:=I.tuple hq
  have hlen:=r'.length;exact len_tuple pl (by simp only [cn]<;>omega) ⟨.int ys.length,H,I.tok _,⟨s.toks+1,by rw [cn,hlen]⟩,q⟩
theorem wL:bZ X (.builtin "len") (λxs H Q=>∃z,xs= [.str z]∧z.length≤sizeLine∧Q (.int z.length) H):=by
 intro pins s σ H xs us Q I r h;obtain ⟨z,rfl,hz,q⟩:=h;obtain ⟨u,rfl,t,rfl⟩:=vals1 r;have hn:=iO;exact len_str (by omega) ⟨.int z.length,H,I.tok _,⟨_,rfl⟩,q⟩
theorem oh:bZ X (.type "list") (λxs H Q=>∃p ys,xs= [.ref p]∧(aH X.K H p ys∨dX X.K H p ys)∧∀l,H l=none→Q (.ref l) (upd H l (.lst ys))):=by
 intro pins s σ H xs us Q I r h;obtain ⟨p,ys,rfl,hq,q⟩:=h;obtain ⟨u,rfl,rx⟩:=vals1 r;cases rx
 have fin:∀(its:List Value),Vals ys its→ys.length≤sizeLine→∀(h':Heap)(c':Nat),(∀b o',s.heap.get? b=some o'→h'.get? b=some o')→
   h'.get? s.heap.objs.size=some {cls:= .type "list",dict:=none,data:= .seq its.toArray c',slots:= #[]}→EP X pins σ Q (.ref s.heap.objs.size) {s with heap:=h'}:=λits r' hz h' c' kp e=>
  ⟨.ref s.heap.objs.size,_,I.laid (t':=s.toks) kp (aV _) (show cL X.prog X.w _ h' _ (.lst ys) from ⟨hz,its,c',r',e⟩),rfl,q _ (I.hok.fresh (aV _))⟩
 rcases hq with hq|hq
 ·obtain ⟨its,r',pl,hz⟩:=I.list hq
  have hlen:=r'.length;obtain ⟨o,ho,hc,n,hd⟩:=pl.isList;exact call_list_seq p (.inl rfl) ho hc hd (λh' c' kp e=>fin its r' hz h' c' kp e) (by simp only [cn]<;>omega)
 ·obtain ⟨its,r',pl,hz⟩:=I.tuple hq
  have hlen:=r'.length;obtain ⟨o,ho,hc,n,hd⟩:=pl;exact call_list_seq p (.inr rfl) ho hc hd (λh' c' kp e=>fin its r' hz h' c' kp e) (by simp only [cn]<;>omega)
def MZ(K:PySem.W.Frag)(T:String)(x:V)(H:Hp):Prop:=match x with
 | .str _=>T="str"
 | .int _=>T="int"
 | .ref p=>(T="list"∧∃xs,aH K H p xs)∨(T="tuple"∧∃o,K.lookup p=some o∧o.cls= .type "tuple"∧o.dict=none)∨
   (T="dict"∧((∃eD,H p=some (.dK eD))∨∃eD,H p=some (.dT eD)))∨(T="set"∧∃S n,H p=some (.set S n))
 |_=>False
theorem E4{pins:List (Addr×Obj)}{σ:St}{H:Hp}{s:Shared}{T:String}{x:V}{v:Value}(I:Inv X pins σ H s)(r:RelV x v)(ty:MZ X.K T x H):
  s.TypeIs v T∧∀a,v= .ref a→∃ob,s.heap.get? a=some ob∧ob.dict=none:=by
 cases x with
 |str z=>
  obtain ⟨t,rfl⟩:=r;cases (show T="str" from ty);exact ⟨typeIs_str s z t,λ_ e=>nomatch e⟩
 |int i=>
  obtain ⟨t,rfl⟩:=r;cases (show T="int" from ty);exact ⟨typeIs_int s i t,λ_ e=>nomatch e⟩
 |ref p=>
  cases r
  rcases ty with ⟨rfl,xs,hq⟩ | ⟨rfl,o,hk,hc,hd⟩ | ⟨rfl,hk⟩ | ⟨rfl,S,n,hk⟩
  ·obtain ⟨its,_,pl,_⟩:=I.list hq
   refine ⟨pl.isList.typeIs,λa e=>?_⟩;cases e;obtain ⟨o,n,e,c,hd,_⟩:=pl;exact ⟨o,e,hd⟩
  ·refine ⟨⟨o,I.iy p o hk,hc⟩,λa e=>?_⟩
   cases e;exact ⟨o,I.iy _ o hk,hd⟩
  ·have z:∃o,s.heap.get? p=some o∧o.ExactDict:=by
    rcases hk with ⟨eD,hk⟩ | ⟨eD,hk⟩
    ·obtain ⟨_,_,_,_,o,_,_,e,ex,_⟩:=I.hok p _ hk
     exact ⟨o,e,ex⟩
    ·obtain ⟨_,_,_,_,o,_,_,e,ex,_⟩:=I.hok p _ hk
     exact ⟨o,e,ex⟩
   obtain ⟨o,e,ex⟩:=z;refine ⟨⟨o,e,ex.1⟩,λa e2=>?_⟩;cases e2;exact ⟨o,e,ex.2.1⟩
  ·obtain ⟨o,_,_,_,e,ex,_⟩:=I.hok p _ hk
   refine ⟨⟨o,e,ex.1⟩,λa e2=>?_⟩;cases e2;exact ⟨o,e,ex.2.1⟩
 |_=>exact False.elim ty
def XY(K:PySem.W.Frag)(T:String)(r:V→List V→Hp→VK→Prop)(to:TE):TE:=λσ H Q=>to σ H λx H1=>MZ K T x H1∧r x [] H1 Q
def tBM(K:PySem.W.Frag)(T:String)(r:V→List V→Hp→VK→Prop)(to:TE)(t:TA):TE:=λσ H Q=>to σ H λx H1=>MZ K T x H1∧t σ H1 λxs H2=>r x xs H2 Q
variable {o e:Expr} {es:List Expr} {to:TE} {t:TA} {name:Str} {apos aG:Pos} {T id:String} {r:V→List V→Hp→VK→Prop}
theorem EE(pa:PlainAttrs T)(slot:Slot T name id)(Jb:typeOf (.builtin id)=pure (.type "method_descriptor"))(hm:BW X id r)(ho:PE X o to)
  (b7:attributeBase o name X.env (eval o X.env)=eval o X.env:=by rfl) (bE:(apos.endLine==aG.line)=true:=by rfl):PE X (.Call (.Attribute o name apos) [] [] aG) (XY X.K T r to):=by
 intro pins s σ H Q I h;refine wpAny_Call_method0_late b7 bE (thn (ho pins s σ H _ I h) λv s1 ⟨x,H1,I1,r1,ty,q1⟩=>?_);obtain ⟨h1,h2⟩:=E4 I1 r1 ty;exact ⟨T,id,pa,slot,Jb,h1,h2,Calls.callWith_builtin rfl (PySem.evalArgs_none (hm pins s1 σ H1 x [] v [] Q I1 r1 .nil q1))⟩
theorem dZ(pa:PlainAttrs T)(slot:Slot T name id)(Jb:typeOf (.builtin id)=pure (.type "method_descriptor"))(hm:BW X id r)(ho:PE X o to)(ha:PA X (e::es) t)
  (b7:attributeBase o name X.env (eval o X.env)=eval o X.env:=by rfl)
  (fF:((backTo aG (starEach (e::es) X.env)).all (λx=>!x.1)&&(backToKw aG (keywordEach [] X.env)).all (λx=>x.1.isSome)
   &&decide ((e::es).length+([]:List Keyword).length+(if ([]:List Keyword).isEmpty then 0 else 1)<30))=true:=by rfl)
  (bE:(apos.endLine==aG.line)=true:=by rfl) (hs:starEach (e::es) X.env=(false,eval e X.env)::starEach es X.env:=by rfl) (cf:(backTo aG (starEach es X.env)).any (·.1)=false:=by rfl):
  PE X (.Call (.Attribute o name apos) (e::es) [] aG) (tBM X.K T r to t):=by
 intro pins s σ H Q I h;refine wpAny_Call_method_late b7 fF bE rfl (thn (ho pins s σ H _ I h) λv s1 ⟨x,H1,I1,r1,ty,q1⟩=>?_);obtain ⟨h1,h2⟩:=E4 I1 r1 ty;refine ⟨T,id,pa,slot,Jb,h1,h2,?_⟩;have hA:=ha aG pins s1 σ H1 _ I1 q1;rw [hs] at hA ⊢;refine Calls.callWith_builtin (by show (false|| (backTo aG (starEach es X.env)).any (·.1))=false;rw [cf]<;>rfl) (Calls.evalArgs_plain ?_)
 exact thn hA λus s2 ⟨vs,H2,I2,r2,q2⟩=>hm pins s2 σ H2 x vs v us Q I2 r1 r2 q2
end
def BV(X:Cx)(id:String)(r:V→List V→Hp→VK→Prop):Prop:=
 ∀(pins:List (Addr×Obj))(s:Shared)(σ:St)(H:Hp)(x:V)(xs:List V)(v:Value)(us:List Value)(Q:VK),Inv X pins σ H s→RelV x v→Vals xs us→r x xs H Q→
  wpAny (model X.prog X.w) X.A (call (.builtin id) (v::us)) (EP X pins σ Q) X.xe s
theorem Vals.one:∀{x:V}{us:List Value},Vals [x] us→∃u,us= [u]∧RelV x u
 |_,_, .cons r .nil=>⟨_,rfl,r⟩
theorem Vals.two:∀{x y:V}{us:List Value},Vals [x,y] us→∃u v,us= [u,v]∧RelV x u∧RelV y v
 |_,_,_, .cons r (.cons q .nil)=>⟨_,_,rfl,r,q⟩
theorem Vals.zero:∀{us:List Value},Vals [] us→us= []
 |_, .nil=>rfl
theorem Vals.dropLast{xs:List V}{us:List Value}(h:Vals xs us):Vals xs.dropLast us.dropLast:=by
 induction h with
 |nil=>exact .nil
 |cons r t ih=>
  cases t with
  |nil=>exact .nil
  |cons q t'=>exact .cons r ih
theorem Vals.eraseIdx:∀{xs:List V}{us:List Value}(i:Nat),Vals xs us→Vals (xs.eraseIdx i) (us.eraseIdx i)
 |_,_,_, .nil=> .nil
 |_,_,0, .cons _ t=>t
 |_,_,i+1, .cons r t=> .cons r (Vals.eraseIdx i t)
theorem Vals.reverse{xs:List V}{us:List Value}(h:Vals xs us):Vals xs.reverse us.reverse:=by
 induction h with
 |nil=>exact .nil
 |cons r t ih=>rw [List.reverse_cons,List.reverse_cons];exact Vals.append ih (.cons r .nil)
theorem Az{α:Type}(l:List α):l.eraseIdx (l.length-1)=l.dropLast:=by
 induction l with
 |nil=>rfl
 |cons a r ih=>
  cases r with
  |nil=>rfl
  |cons b r=>
   have e:(a::b::r).length-1=((b::r).length-1)+1:=by
    have h1:(a::b::r).length=r.length+2:=rfl;have h2:(b::r).length=r.length+1:=rfl;omega
   rw [e,List.eraseIdx_cons_succ,ih]
   all_goals rfl
theorem u6{α:Type}:∀(l:List α)(i:Nat),(l.eraseIdx i).length≤l.length
 | [],_=>aV _
 |_::_,0=>kv _
 |_::r,i+1=>Nat.succ_le_succ (u6 r i)
section
variable {X:Cx} {pins:List (Addr×Obj)} {σ:St} {H:Hp} {s:Shared} {l b:Addr} {xs ys zs:List V}
theorem Inv.xZ{its its':List Value}{n:Nat}{f:Array Value→Array Value}{t':Nat}(I:Inv X pins σ H s)(hH:H l=some (.lst xs))
  (e:s.heap.get? l=some {cls:= .type "list",data:= .seq its.toArray n}) (hf:f its.toArray=its'.toArray) (hv:Vals ys its') (hz:ys.length≤sizeLine):
  Inv X pins σ (upd H l (.lst ys)) {s with heap:=s.heap.update l (Obj.mapSeq f),toks:=t'}:=by
 have q:=PySem.IsL.update e f;rw [hf] at q;refine I.write (x:=l) (e:=l) (by rw [hH];exact trivial) (.inl rfl) (λb' u hb hu=>(Heap.get?_update_other s.heap (Obj.mapSeq f) (Ne.symm hb)).trans hu) ⟨_,q⟩ ?_
 exact ⟨hz,its',_,hv,q⟩
theorem Inv.Ju{its:List Value}{t':Nat}(I:Inv X pins σ H s)(hv:Vals ys its)(hz:ys.length≤sizeLine):
  Inv X pins σ (upd H s.heap.objs.size (.lst ys)) {s with heap:=s.heap.push {cls:= .type "list",data:= .seq its.toArray},toks:=t'}:=
 I.laid (λ_ _ q=>Heap.get?_push_of_some _ q) (aV _) ⟨hz,its,0,hv,Heap.get?_push_size _ rfl⟩
theorem Inv.fresh(I:Inv X pins σ H s):H s.heap.objs.size=none:=I.hok.fresh (aV _)
theorem Inv.mw(I:Inv X pins σ H s)(hH:H l=some (.lst xs)):xs.length≤sizeLine∧∃(its:List Value)(n:Nat),Vals xs its∧xs.length=its.length∧s.heap.get? l=some {cls:= .type "list",data:= .seq its.toArray n}:=by
 obtain ⟨z,its,n,r,e⟩:=I.hok l _ hH;exact ⟨z,its,n,r,r.length,e⟩
theorem Gi{n:Nat}(h:n≤sizeLine):Builtin.List.listTooLong n=false:=by
 unfold Builtin.List.listTooLong;exact decide_eq_false (by omega)
end
section
variable {X:Cx}
def J8:V→List V→Hp→VK→Prop:=λx vs H Q=>∃l xs y,x= .ref l∧vs= [y]∧H l=some (.lst xs)∧xs.length<sizeLine∧Q .aM (upd H l (.lst (xs++ [y])))
theorem fW:BV X "list.append" J8:=by
 intro pins s σ H x vs v us Q I rx rv h;obtain ⟨l,xs,y,rfl,rfl,hH,hz,q⟩:=h;cases rx;obtain ⟨u,rfl,ru⟩:=rv.one;obtain ⟨z,its,n,r,hl,e⟩:=I.mw hH;refine call_meets F.slot_list_append ⟨_,e,rfl⟩ F.entry_list_append (F.args_list_append_2 _ _) (PySem.list_append l its.toArray n u (by rw [cn];omega)) ⟨e,?_⟩
 refine ⟨.aM,_,I.xZ (its':=its++ [u]) hH e (by simp) (r.append (.cons ru .nil)) ?_,rfl,q⟩
 rw [dS,List.length_singleton];omega
def J9:V→List V→Hp→VK→Prop:=λx vs H Q=>∃l b xs zs,x= .ref l∧vs= [.ref b]∧H l=some (.lst xs)∧H b=some (.lst zs)∧xs.length+zs.length≤sizeLine∧Q .aM (upd H l (.lst (xs++zs)))
theorem vj:BV X "list.extend" J9:=by
 intro pins s σ H x vs v us Q I rx rv h;obtain ⟨l,b,xs,zs,rfl,rfl,hH,hB,hz,q⟩:=h;cases rx;obtain ⟨u,rfl,ru⟩:=rv.one;cases ru;obtain ⟨z,its,n,r,hl,e⟩:=I.mw hH;obtain ⟨z2,sO,n2,r2,AD,e2⟩:=I.mw hB;have fS:its.toArray.size+sO.toArray.size≤sizeLine:=by rw [cn,cn];omega
 have Qd:¬(!its.toArray.isEmpty&&Builtin.List.listTooLong (its.toArray.size+sO.toArray.size))=true:=by
  rw [Gi fS,Bool.and_false];exact cZ
 refine call_meets F.slot_list_extend ⟨_,e,rfl⟩ F.entry_list_extend (F.args_list_extend_2 _ _)
  (AutoSeq1.list_extend_list_list_0 l its.toArray n b sO.toArray n2 Qd (by rw [cn];omega) (by omega)) ⟨e,e2,?_⟩
 refine ⟨.aM,_,I.xZ (its':=its++sO) hH e (by simp) (r.append r2) ?_,rfl,q⟩
 rw [dS];omega
def Xg:V→List V→Hp→VK→Prop:=λx vs H Q=>∃l xs y,x= .ref l∧vs= []∧H l=some (.lst xs)∧xs[xs.length-1]? =some y∧Q y (upd H l (.lst xs.dropLast))
theorem LY:BV X "list.pop" Xg:=by
 intro pins s σ H x vs v us Q I rx rv h;obtain ⟨l,xs,y,rfl,rfl,hH,hy,q⟩:=h;cases rx;have Qs:=rv.zero;subst Qs;obtain ⟨z,its,n,r,hl,e⟩:=I.mw hH;obtain ⟨u,hu,ru⟩:=r.get hy
 have F3:its.toArray[its.toArray.size-1]? =some u:=by
  show its.toArray[its.length-1]? =some u;rw [←eU,←hl];exact hu
 refine call_meets F.slot_list_pop ⟨_,e,rfl⟩ F.entry_list_pop (F.args_list_pop_1 _) (MeetsSeq.list_pop_last l its.toArray n u F3 (by rw [cn];omega)) ⟨e,?_⟩
 refine ⟨y,_,I.xZ (its':=its.dropLast) hH e ?_ r.dropLast ?_,ru,q⟩
 ·show its.toArray.eraseIdxIfInBounds (its.toArray.size-1)=its.dropLast.toArray
  rw [cn,List.eraseIdxIfInBounds_toArray,Az]
 ·rw [List.length_dropLast]
  omega
def Mw:V→List V→Hp→VK→Prop:=λx vs H Q=>∃l xs i k y,x= .ref l∧vs= [.int i]∧H l=some (.lst xs)∧-(2^63)≤i∧i<2^63∧seqIndex? i xs.length=some k∧xs[k]? =some y∧Q y (upd H l (.lst (xs.eraseIdx k)))
theorem Ge:BV X "list.pop" Mw:=by
 intro pins s σ H x vs v us Q I rx rv h;obtain ⟨l,xs,i,k,y,rfl,rfl,hH,h1,h2,hk,hy,q⟩:=h;cases rx;obtain ⟨u,rfl,ru⟩:=rv.one;obtain ⟨t,rfl⟩:=ru;obtain ⟨z,its,n,r,hl,e⟩:=I.mw hH;obtain ⟨w,hw,vG⟩:=r.get hy
 refine call_meets F.slot_list_pop ⟨_,e,rfl⟩ F.entry_list_pop (F.args_list_pop_2 _ _)
  (MeetsSeq.list_pop_at l its.toArray n i t k w (fitsIndex_both h1 h2) (by rw [cn,←hl];exact hk) (by rw [←eU];exact hw) (by rw [cn];omega)) ⟨e,?_⟩
 refine ⟨y,_,I.xZ (its':=its.eraseIdx k) hH e ?_ (r.eraseIdx k) ?_,vG,q⟩
 ·show its.toArray.eraseIdxIfInBounds k=(its.eraseIdx k).toArray
  rw [List.eraseIdxIfInBounds_toArray]
 ·have:=u6 xs k
  omega
def GC:V→List V→Hp→VK→Prop:=λx vs H Q=>∃l xs,x= .ref l∧vs= []∧H l=some (.lst xs)∧Q .aM (upd H l (.lst xs.reverse))
theorem A4:BV X "list.reverse" GC:=by
 intro pins s σ H x vs v us Q I rx rv h;obtain ⟨l,xs,rfl,rfl,hH,q⟩:=h;cases rx;have Qs:=rv.zero;subst Qs;obtain ⟨z,its,n,r,hl,e⟩:=I.mw hH;refine call_meets F.slot_list_reverse ⟨_,e,rfl⟩ F.entry_list_reverse (F.args_list_reverse_1 _) (AutoSeq1.list_reverse_list_0 l its.toArray n (by rw [cn];omega)) ⟨e,?_⟩
 refine ⟨.aM,_,I.xZ (its':=its.reverse) hH e (by simp) r.reverse ?_,rfl,q⟩
 rw [List.length_reverse];omega
def Xc:R2:=λx y H Q=>∃l b xs zs,x= .ref l∧y= .ref b∧H l=some (.lst xs)∧H b=some (.lst zs)∧xs.length+zs.length≤sizeLine∧∀p,H p=none→Q (.ref p) (upd H p (.lst (xs++zs)))
theorem zw:OpR X (binaryOp .Add) Xc:=by
 intro pins s σ H x y v u Q I rx ry h;obtain ⟨l,b,xs,zs,rfl,rfl,hH,hB,hz,q⟩:=h;cases rx;cases ry;obtain ⟨z,its,n,r,hl,e⟩:=I.mw hH;obtain ⟨z2,sO,n2,r2,AD,e2⟩:=I.mw hB;refine PySem.P.add_list e e2 ?_ (by rw [cn,cn];omega)
 have ea:its.toArray++sO.toArray=(its++sO).toArray:=by simp
 rw [ea];exact ⟨.ref _,_,I.Ju (t':=s.toks) (r.append r2) (by rw [dS];omega),rfl,q _ I.fresh⟩
end
section
variable {prog:Program} {w:World} {A:Around} {E:Value→Shared→Prop} {s:Shared}
end
section
variable {X:Cx}
end
end L2
namespace RC
open PySem PySem.W PySem.Calls PyProof.Rows
theorem rD{P:Params}{h:Heap}:∀(ns:List Int)(vs:List Value),WellAll P h vs (ns.map WData.int)→IntsAre vs ns:=by
 intro ns
 induction ns with
 |nil=>
  intro vs w;rw [List.map_nil] at w;cases w;exact .nil
 |cons n ns ih=>
  intro vs w;rw [gI] at w;cases w with
  |cons a b=>
   cases a;exact .cons _ _ (ih _ b)
theorem DD{l:OpenLaw}{n:Nat}(hn:l.most=some n){P:Params}{h:Heap}{args:List WData}{vals:List Value}
  (Ex:l.row.toRowW.claim.pre args=true) (Qv:WellAll P h vals args):
  ∃a vs ns,vals= [Value.ref a]∧args= [WData.list (ns.map WData.int)]∧h.get? a=some {cls:= .type "list",data:= .seq vs.toArray}∧IntsAre vs ns∧ns.length≤n:=by
 have hsh:WShape.hasAll [] args [.list .int]=true:=(pre_splitW Ex).1;have hc:l.pre.holds [] {args:=args}=true:=(pre_splitW Ex).2;obtain ⟨d,r,rfl,h1,h2⟩:=hasAllW_cons hsh;obtain rfl:=hasAllW_nil h2;obtain ⟨xs,rfl,h3⟩:=hasW_list h1;obtain ⟨ns,rfl⟩:=items_int h3
 have hlen:ns.length≤n:=by
  unfold OpenLaw.pre at hc
  have h4:(WTm.not (.lt (.lit (.int (n:Int))) (.len (.arg 0)))).holds [] {args:= [.list (ns.map .int)]}=true:=by
   have h4:=(holds_andW hc).1;rw [hn] at h4;exact h4
  have h5:=condW_of h4 (w_not (w_lt w_lit (w_len_list (w_arg rfl))));rw [aN] at h5;refine lI λq=>?_;have q':(n:Int)<((ns.length:Nat):Int):=by omega
  first
   | (rw [decide_eq_true q'] at h5;exact absurd h5 (by decide))
   | (simp at h5;omega)
 cases Qv with
 |cons w1 w2=>
  cases w2;cases w1 with
  |list ho iE=>exact ⟨_,_,ns,rfl,rfl,ho,rD ns _ iE,hlen⟩
theorem Dg(l:OpenLaw)(args:List WData):l.row.toRowW.claim.post args (.bool true) args=true:=
 postW_of (r:=l.row.toRowW) (X:=(true==true))
  (show WShape.has [] (.bool true) .bool=true by first|rfl|decide|simp [WShape.has,WShape.arms,WShape.armsAll])
  (show (WTm.eq .res (.lit (.bool true))).value [] {args:=args,res:=some (.bool true),after:=args}=some (.bool (true==true)) from w_eq_bool (w_res rfl) w_lit) rfl
theorem yC{l:OpenLaw}{n:Nat}{q:Program}{loose:List Str}{XP:(Str→Option Value)→Heap→Prop}{YP:World→Heap→Prop}{d:DefRec}
  (hn:l.most=some n) (Cw:d.params.defaults= [])
  (call:∀(w:World)(s₀ s₁:Shared)(mg mb:Str→Option Value)(fa:Addr)(o:Obj)(pm cd doc:Value)(a:Addr)(vs:List Value)(ns:List Int),
   Ground q loose [] XP w s₀ mg mb s₁.heap→YP w s₁.heap→
   s₁.heap.get? fa=some o→o.data= .func (docDef d.name d.params d.body d.scope pm cd doc)→s₁.heap.CodeRec cd d.name→mg d.name=some (.ref fa)→
   s₁.heap.get? a=some {cls:= .type "list",data:= .seq vs.toArray}→IntsAre vs ns→ns.length≤n→s₁.gens= #[]→
   codeAny (model l.prog w) callerA (.call (.ref fa) ⟨[.ref a],[]⟩) (λr s'=>r= .ok (.ret (.bool true))∧OldK s₁.heap s'.heap∧s'.os=s₁.os∧AllBare s'.gens) s₁):
  WalkO q loose XP YP l.row.toRowW d [] (λf vs=>PySem.call f vs):=by
 intro w s₀ s₁ mg mb G Y fa o pm cd doc dV kV ho hd fR hD uR hg args vals as Ex aag hrd Qv AF;obtain rfl:dV= .none:=Dflts.none hD Cw;obtain rfl:kV= .none:=Dflts.noKw hD;obtain ⟨a,vs,ns,rfl,rfl,IT,hints,hlen⟩:=DD hn Ex Qv;refine enter_call (codeAny_mono (call w s₀ s₁ mg mb fa o pm cd doc a vs ns G Y ho (fd_plain hd) fR uR IT hints hlen hg) λr s' hq=>?_);obtain ⟨rfl,h2,h3,h4⟩:=hq;exact ⟨.inl ⟨.bool true, .bool true,[],rfl,λ_=>rfl, .bool true,Dg l _,λ_=>⟨List.Pairwise.nil,λ_ hm=>(nomatch hm)⟩⟩,h2,h3,h4⟩
section
variable {prog:Program} {w:World} {A:Around} {E:Value→Shared→Prop} {s:Shared} {K:Frag}
end
end RC
namespace L2
open PySem PySem.Spec PyProof.Rows
theorem pL:∀{vs:List Value}{ns:List Int},IntsAre vs ns→Vals (ns.map V.int) vs
 |_,_, .nil=> .nil
 |_,_, .cons n t h=> .cons ⟨t,rfl⟩ (pL h)
def G9(H:Hp):Prop:=∀b,H b=none∨∃o xs,H b=some (.p9 o (.lst xs))
theorem F8{P:Program}{w:World}{K:PySem.W.Frag}{mg mb:Str→Option Value}{CX:qZ}{k:Nat}{fa a:Addr}{fd:FuncData}{x:Str}{sp:Sp}{s₁:Shared}{vs:List Value}{ns:List Int}
  (KX:K.In s₁.heap) (yZ:s₁.heap.Ns mainGlobals mg) (hb:s₁.heap.Ns builtinsNs mb) (hbb:∀x:Str,x≠"__name__"→mb x=bootBuiltins x) (UQ:s₁.heap.NoLimit) (hg:s₁.gens= #[])
  (ha:s₁.heap.get? a=some {cls:= .type "list",data:= .seq vs.toArray}) (hi:IntsAre vs ns) (hl:ns.length≤sizeLine) (hr:cH k callerA)
  (F:∀base:Heap,K.In base→base.Ns mainGlobals mg→FnOk P w K mg base CX k fa fd [x] sp) (PQ:∀(s:Shared)(u:Value),BindsTo s fd ⟨[u],[]⟩ [(x,u)])
  (AK:∀H:Hp,G9 H→aH K H a (ns.map V.int)→sp [.ref a] H (λv _=>v= .bl true) λ_ _ _=>False)
  (PC:∀H e s',CX [] H s₁ (λ_ _ _=>False) e s'→False):
  codeAny (model P w) callerA (.call (.ref fa) ⟨[.ref a],[]⟩) (λr s'=>r= .ok (.ret (.bool true))∧OldK s₁.heap s'.heap∧s'.os=s₁.os∧AllBare s'.gens) s₁:=by
 have rv:=pL hi;have VO:=hi.length
 have core:∀H:Hp,G9 H→aH K H a (ns.map V.int)→iL P w H s₁.heap→(∀b,H b≠none→b=a)→(H a≠none→K.lookup a=none)→
   codeAny (model P w) callerA (.call (.ref fa) ⟨[.ref a],[]⟩) (λr s'=>r= .ok (.ret (.bool true))∧OldK s₁.heap s'.heap∧s'.os=s₁.os∧AllBare s'.gens) s₁:=by
  intro H hO hS hok hA hK;have z8:∀{b:Addr}{o:Obj},s₁.heap.get? b=some o→H b=none→(qd s₁.heap H).get? b=some o:=λe n=>FU e n
  have JE:∀{b:Addr}{o:Obj}{es:Array DictEntry}{ep:Nat},s₁.heap.get? b=some o→o.data= .dict es ep→H b=none:=λ {b o es ep} e d=>by
   cases q:H b with
   |none=>rfl
   |some u=>
    have e':b=a:=hA b (by rw [q];simp)
    subst e';rw [ha] at e;cases e;have d':Data.seq vs.toArray _=Data.dict es ep:=d;cases d'
  have L3:∀{b:Addr}{m:Str→Option Value},s₁.heap.Ns b m→(qd s₁.heap H).Ns b m:=λ {b m} ⟨o,es,ep,e,d,r⟩=>⟨o,es,ep,z8 e (JE e d),d,r⟩
  have Uo:K.In (qd s₁.heap H):=λb o e=>z8 (KX b o e) (by
   cases q:H b with
   |none=>rfl
   |some u=>
    have e':b=a:=hA b (by rw [q];simp)
    subst e';rw [hK (by rw [q];simp)] at e;cases e)
  have hM:Mod K mg (qd s₁.heap H):=⟨Uo,L3 yZ,⟨mb,L3 hb,hbb⟩,let ⟨mc,h1,h2⟩:=UQ;⟨mc,L3 h1,h2⟩⟩;have e0:Env0 P w K mg (qd s₁.heap H) callerA [] s₁ H:=⟨rfl,hM,λb o e=>JL e,Nat.le_of_eq (CA _ _),trivial,λb hb=>absurd (show b∈([]:List Addr) from hb) (by simp),hok, .of_eq hg⟩
  refine codeAny_mono ((F _ Uo (L3 yZ)).run callerA [] s₁ H ⟨[.ref a],[]⟩ [.ref a] [.ref a] _ _ hr e0 (PQ s₁ (.ref a)) (.cons rfl .nil) (AK H hO hS)) λr s' h=>?_;cases r with
  |error e=>exact (PC H e s' h).elim
  |ok fl=>
   cases fl with
   |next=>exact False.elim h
   |brk=>exact False.elim h
   |cont=>exact False.elim h
   |ret u=>
    obtain ⟨v,H',os,bare,un,U3,r',q⟩:=h;have q':v= .bl true:=q;subst q';obtain rfl:u=Value.bool true:=r';refine ⟨rfl,OldK.of_keep λb o e=>?_,os,bare⟩;cases q:H b with
    |none=>exact un.keep b o e q (by intro z;exact absurd (show b∈([]:List Addr) from z) (by simp)) (by simp)
    |some u=>
     rcases hO b with z| ⟨ob,xs,z⟩
     ·rw [q] at z;cases z
     ·have z2:=un.frzs b ob _ z
      obtain ⟨e1,_⟩:=hok b _ z;obtain ⟨e2,_⟩:=U3 b _ z2;rw [e] at e1;cases e1;exact e2
 cases hk:K.lookup a with
 |some o=>
  have e:=KX a o hk;rw [ha] at e;cases e;refine core (λ_=>none) (λ_=> .inl rfl) (.inr ⟨_,vs.toArray,_,hk,rfl,rfl,rfl,by rw [cn,VO];exact hl,by simpa using rv⟩) (λb u z=>by have z':(none:Option HO)=some u:=z;cases z') (λb z=>absurd rfl z) λz=>absurd rfl z
 |none=>
  refine core (λb=>if b=a then some (.p9 {cls:= .type "list",data:= .seq vs.toArray} (.lst (ns.map V.int))) else none) (λb=>?_) (.inl (.inr ⟨{cls:= .type "list",data:= .seq vs.toArray},if_pos rfl⟩)) (λb u z=>?_) (λb z=>?_) λ_=>hk
  ·by_cases hb:b=a
   ·exact .inr ⟨_,_,if_pos hb⟩
   ·exact .inl (if_neg hb)
  ·by_cases hb:b=a
   ·have z':=(if_pos hb).symm.trans z
    cases z';subst hb;exact ⟨ha,by rw [aN];exact hl,vs,_,rv,ha⟩
   ·have z':=(if_neg hb).symm.trans z
    cases z'
  ·by_cases hb:b=a
   ·exact hb
   ·exact absurd (if_neg hb) z
theorem KD{l:PySem.W.OpenLaw}{n k:Nat}{q:Program}{loose:List Str}{XP:(Str→Option Value)→Heap→Prop}{YP:World→Heap→Prop}{d:DefRec}{K:Params→PySem.W.Frag}{CX:World→qZ}{sp:World→Sp}{x:Str}
  (hn:l.most=some n) (wV:n≤sizeLine) (Cw:d.params.defaults= []) (hr:cH k callerA)
  (hY:∀(w:World)(h:Heap),YP w h→(K w.params).In h)
  (F:∀(w:World)(mg:Str→Option Value)(fa:Addr)(h:Heap),(K w.params).In h→h.Ns mainGlobals mg→mg d.name=some (.ref fa)→
   ∃fd:FuncData,(∀(s:Shared)(u:Value),BindsTo s fd ⟨[u],[]⟩ [(x,u)])∧
    ∀base:Heap,(K w.params).In base→base.Ns mainGlobals mg→FnOk l.prog w (K w.params) mg base (CX w) k fa fd [x] (sp w))
  (AK:∀(w:World)(H:Hp)(a:Addr)(ns:List Int),ns.length≤n→G9 H→aH (K w.params) H a (ns.map V.int)→sp w [.ref a] H (λv _=>v= .bl true) λ_ _ _=>False)
  (PC:∀(w:World)(H:Hp)(s:Shared)(e:Value)(s':Shared),CX w [] H s (λ_ _ _=>False) e s'→False):
  PySem.W.WalkO q loose XP YP l.row.toRowW d [] (λf vs=>PySem.call f vs):=by
 refine RC.yC hn Cw λw s₀ s₁ mg mb fa o pm cd doc a vs ns G Y ho hd fR uR IT hints hlen hg=>?_;have KX:=hY w _ Y;obtain ⟨fd,hb,hF⟩:=F w mg fa _ KX G.T.g uR;exact F8 KX G.T.g G.T.b G.T.builtins G.T.nolimit hg IT hints (ku hlen wV) hr hF hb (λH hO hS=>AK w H a ns hlen hO hS) λH e s'=>PC w H s₁ e s'
def inClass(s:Stmt)(j:Nat):Stmt:=match s with
 | .ClassDef _ _ _ body _ _ _ _ _ _ _=>body.getD j (.Pass ⟨0,0,0,0⟩)
 |_=> .Pass ⟨0,0,0,0⟩
def jg(s:Stmt):Arguments:=match s with
 | .FunctionDef _ a _ _ _ _ _ _ _ _=>a
 |_=>{posonlyargs:= [],args:= [],vararg:=none,kwonlyargs:= [],kw_defaults:= [],kwarg:=none,defaults:= []}
def eY(s:Stmt):List Stmt:=match s with
 | .FunctionDef _ _ b _ _ _ _ _ _ _=>b
 |_=> []
def ao(s:Stmt):Scope:=match s with
 | .FunctionDef _ _ _ _ _ _ sc _ _ _=>sc
 |_=>{kind:= .function,names:= [],isGenerator:=false,isCoroutine:=false}
abbrev cq:qZ:=λ_ _ _ _ _ _=>False
abbrev E0:XK:=λ_ _ _=>False
theorem bY{X:Cx}:Passes cq X E0:=λ_ _ _ _ _ _ _ h=>h.elim
structure wH (K:PySem.W.Frag) (x qual:Str) (st:Stmt) (f:Addr) (fd:FuncData):Prop where
 ex:∃(oc:Value)(od:Option Addr)(kV doc pm:Value)(an:Option Addr)(bu ct:Value)(A8:Array (Option Value)),
  fd=PySem.W.fnOf x qual (jg st) (eY st) (ao st) .none kV doc pm an bu ct∧K.lookup f=some ⟨oc,od, .func fd,A8⟩∧PySem.W.codeIn K bu qual=true
 kp:PySem.W.keepIn K (.ref f)=true
section
variable {P:Program} {w:World} {K:PySem.W.Frag} {mg:Str→Option Value} {base:Heap}
theorem wH.ok{x qual:Str}{st:Stmt}{f:Addr}{fd:FuncData}{N ps:List Str}{k:Nat}{sp:Sp}(F:wH K x qual st f fd)(S:aL N ps (ao st))(len:∀vs H Q E,sp vs H Q E→vs.length=ps.length)
  (oZ:∀(bu:Value)(A:Around)(outer:List Env)(s:Shared)(H:Hp)(vs:List V)(Q:VK)(E:XK),cH k (A.deeper (envOfC qual (ao st) s.heap.objs.size f bu))→sp vs H Q E→
   ∃t,lJ (pT cq P w K mg base N qual (ao st) f bu A outer s H E).jw (eY st) t∧t {nx:=λ_ H'=>Q .aM H',rt:=Q} (start N vs) H):FnOk P w K mg base cq (k+1) f fd ps sp:=by
 obtain ⟨oc,od,kV,doc,pm,an,bu,ct,A8,rfl,lk,fR⟩:=F.ex;refine Px lk fR S len λA outer s H vs Q E hr AK=>?_;obtain ⟨t,h,q⟩:=oZ bu A outer s H vs Q E hr AK;exact ⟨t,h.jw,q⟩
theorem wH.binds{x qual:Str}{st:Stmt}{f:Addr}{fd:FuncData}{ps:List Str}(F:wH K x qual st f fd)
  (h:∀(kV doc pm:Value)(an:Option Addr)(bu ct:Value)(us:List Value),us.length=ps.length→bindArgs (PySem.W.fnOf x qual (jg st) (eY st) (ao st) .none kV doc pm an bu ct) ⟨us,[]⟩=pure (ps.zip us)):Binds K fd ps []:=by
 obtain ⟨oc,od,kV,doc,pm,an,bu,ct,A8,rfl,lk,fR⟩:=F.ex;exact .all (h kV doc pm an bu ct)
theorem qa{x qual:Str}{st:Stmt}{f:Addr}{oc:Value}{od an:Option Addr}{A8:Array (Option Value)}{kV doc pm bu ct:Value}(l:K.lookup f=some ⟨oc,od, .func (PySem.W.fnOf x qual (jg st) (eY st) (ao st) .none kV doc pm an bu ct),A8⟩)
  (c:PySem.W.codeIn K bu qual=true) (k:PySem.W.keepIn K (.ref f)=true):wH K x qual st f (PySem.W.fnOf x qual (jg st) (eY st) (ao st) .none kV doc pm an bu ct):=⟨⟨oc,od,kV,doc,pm,an,bu,ct,A8,rfl,l,c⟩,k⟩
end
theorem bF{n:Nat}(h:n≤1000):n<sizeLine:=m6 h (by decide)
section
variable {X:Cx}
theorem pv(i:Nat){x:Str}{pos:Pos}(hN:X.N[i]? =some x:=by rfl)(hv:rf X.env.scope x:=by first|exact Or.inl rfl|exact Or.inr (Or.inl rfl) |exact Or.inr (Or.inr rfl))(hd:(x==("__debug__":Str))=false:=by decide)
  (fR:(x==("__classdict__":Str))=false:=by decide):PE X (.Name x pos) (tj i):=EF hN hv hd fR
end
theorem fw{A B:Prop}(h:B):if false=true then A else B:=by
 rw [if_neg cZ];exact h
theorem f7{A B:Prop}(h:A):if true=true then A else B:=by
 rw [if_pos rfl];exact h
theorem sN{c A B:Prop} [Decidable c] (h1:c→A) (h2:¬c→B):if c then A else B:=by
 by_cases h:c
 ·rw [if_pos h]
  exact h1 h
 ·rw [if_neg h]
  exact h2 h
def aC(H H':Hp):Prop:=∀b o,H b=some o→H' b=some o
theorem aC.refl(H:Hp):aC H H:=λ_ _ h=>h
theorem aC.trans{H H1 H2:Hp}(a:aC H H1)(b:aC H1 H2):aC H H2:=λc o h=>b c o (a c o h)
theorem aC.free{H H':Hp}(e:aC H H'){l:Addr}(h:H' l=Option.none):H l=Option.none:=by
 cases q:H l with
 |none=>rfl
 |some o=>
  rw [e l o q] at h;cases h
theorem aC.seq{K:PySem.W.Frag}{H H':Hp}{a:Addr}{xs:List V}(e:aC H H')(h:aH K H a xs):aH K H' a xs:=by
 rcases h with (h| ⟨o,h⟩) |h
 ·exact .inl (.inl (e _ _ h))
 ·exact .inl (.inr ⟨o,e _ _ h⟩)
 ·exact .inr h
def jd(env:Env):List (Str×NameKind)→List (Str×Addr)→List (Str×Addr)
 | [],cs=>cs
 | (n,k)::r,cs=>if k==NameKind.free then jd env r ((n,(env.cells.lookup n).getD 0)::cs) else jd env r cs
theorem gS{scope:Scope}{env:Env}(h:∀x∈scope.names,x.2= .free→∃c,env.cells.lookup x.1=some c):closureFor scope env=pure (jd env scope.names []):=by
 simp only [closureFor]
 have go:∀(names:List (Str×NameKind))(cs:List (Str×Addr)),(∀x∈names,x.2= .free→∃c,env.cells.lookup x.1=some c)→
   (forIn names cs λx __s=>if (x.snd==NameKind.free)=true then (do let a ←cellOf env x.fst;pure (ForInStep.yield ((x.fst,a)::__s))) else pure (ForInStep.yield __s))=(pure (jd env names cs):Sem _):=by
  intro names
  induction names with
  |nil=>intro cs _;rfl
  |cons x r ih=>
   intro cs h;obtain ⟨n,k⟩:=x;rw [List.forIn_cons,jd];have hr:=λcs=>ih cs λy hy=>h y (cA _ hy);cases hk:k==NameKind.free with
   |false=>
    simp only [hk,fN,if_false];exact hr cs
   |true=>
    have gB:k= .free:=by simpa using hk
    obtain ⟨c,hc⟩:=h (n,k) cC gB;simp only at hc;simp only [if_true,cellOf,hc];exact hr _
 rw [go _ _ h];rfl
theorem fe{env:Env}:∀(names:List (Str×NameKind))(cs:List (Str×Addr)),(∀x∈names,x.2= .free→∃c,env.cells.lookup x.1=some c)→(∀x c,cs.lookup x=some c→env.cells.lookup x=some c)→
  ∀x c,(jd env names cs).lookup x=some c→env.cells.lookup x=some c
 | [],cs,_,hc=>hc
 | (n,k)::r,cs,h,hc=>by
  rw [jd]
  split
  ·rename_i hk
   refine fe r _ (λy hy=>h y (cA _ hy)) λx c e=>?_;obtain ⟨c',qb⟩:=h (n,k) cC (by simpa using hk)
   rw [qV] at e
   split at e
   ·rename_i hx
    have wZ:x=n:=by simpa using hx
    subst wZ;simp only at qb;rw [qb] at e ⊢;exact e
   ·exact hc x c e
  ·exact fe r cs (λy hy=>h y (cA _ hy)) hc
theorem nh{env:Env}:∀(names:List (Str×NameKind))(cs:List (Str×Addr))(x:Str),((x,NameKind.free)∈names∨∃c,cs.lookup x=some c)→∃c,(jd env names cs).lookup x=some c
 | [],cs,x,h=>by
  rcases h with h|h
  ·cases h
  ·exact h
 | (n,k)::r,cs,x,h=>by
  rw [jd]
  split
  ·rename_i hk
   refine nh r _ x ?_
   by_cases e:x=n
   ·subst e;exact .inr ⟨(env.cells.lookup x).getD 0,by simp [qV]⟩
   ·have ne:(x==n)=false:=by simpa using e
    rcases h with h| ⟨c,h⟩
    ·rcases bV.mp h with z|z
     ·cases z;exact absurd rfl e
     ·exact .inl z
    ·exact .inr ⟨c,by rw [qV,ne];exact h⟩
  ·rename_i hk
   refine nh r cs x ?_
   rcases h with h|h
   ·rcases bV.mp h with z|z
    ·cases z;exact absurd rfl hk
    ·exact .inl z
   ·exact .inr h
def mR(src:List (Option Nat))(σ:St):St:=src.map λo=>o.bind λi=>(σ[i]?).bind id
def dj(scope:Scope)(XN:List Str):List (Option Nat)→List Str→Prop
 | [],[]=>True
 |none::r,_::n=>dj scope XN r n
 |some i::r,x::n=>XN[i]? =some x∧scope.names.lookup x=some .free∧dj scope XN r n
 |_,_=>False
theorem dj.len{scope:Scope}{XN:List Str}:∀{src:List (Option Nat)}{NC:List Str},dj scope XN src NC→src.length=NC.length
 | [],[],_=>rfl
 |none::r,_::n,h=>by have:=dj.len (src:=r) (NC:=n) h;simp [this]
 |some i::r,_::n,h=>by have:=dj.len (src:=r) (NC:=n) h.2.2;simp [this]
 | [],_::_,h=>h.elim
 |none::_,[],h=>h.elim
 |some _::_,[],h=>h.elim
theorem dj.at{scope:Scope}{XN:List Str}:∀{src:List (Option Nat)}{NC:List Str}{j i:Nat}{x:Str},dj scope XN src NC→src[j]? =some (some i)→NC[j]? =some x→XN[i]? =some x∧scope.names.lookup x=some .free
 | [],[],_,_,_,_,h,_=>by simp at h
 |none::r,_::n,0,_,_,_,h,_=>by simp at h
 |none::r,_::n,j+1,i,x,h,h1,h2=>dj.at (src:=r) (NC:=n) (j:=j) h (by simpa using h1) (by simpa using h2)
 |some k::r,y::n,0,i,x,h,h1,h2=>by
  have e1:k=i:=by simpa using h1
  have e2:y=x:=by simpa using h2
  subst e1 e2;exact ⟨h.1,h.2.1⟩
 |some k::r,_::n,j+1,i,x,h,h1,h2=>dj.at (src:=r) (NC:=n) (j:=j) h.2.2 (by simpa using h1) (by simpa using h2)
 | [],_::_,_,_,_,h,_,_=>h.elim
 |none::_,[],_,_,_,h,_,_=>h.elim
 |some _::_,[],_,_,_,h,_,_=>h.elim
structure bp (X:Cx) (scope:Scope):Prop where
 kind:scope.kind= .function
 names:∀x∈scope.names,x.2= .local→scope.names.lookup x.1=some .local
 nocell:∀x∈scope.names,x.2≠ .cell
 free:∀x∈scope.names,x.2= .free→X.env.kindOf x.1=some .cell∨X.env.kindOf x.1=some .free
theorem fO{env:Env}:∀(names:List (Str×NameKind))(x:Str),
  (names.map λ(n,k)=>if (k==NameKind.free&&env.scope.kind== .function&&env.kindOf n==some .cell) then (n,NameKind.cell) else (n,k)).lookup x=
   (names.lookup x).map λk=>if (k==NameKind.free&&env.scope.kind== .function&&env.kindOf x==some .cell) then NameKind.cell else k
 | [],_=>rfl
 | (n,k)::r,x=>by
  have ih:=fO (env:=env) r x;show List.lookup x ((if (k==NameKind.free&&env.scope.kind== .function&&env.kindOf n==some .cell)=true then (n,NameKind.cell) else (n,k))::_)=_;cases hx:x==n with
  |true=>
   have e:x=n:=by simpa using hx
   subst e
   by_cases hc:(k==NameKind.free&&env.scope.kind== .function&&env.kindOf x==some .cell)=true
   ·rw [if_pos hc,qV,qV]
    simp only [hx];show some NameKind.cell=some (if _ then _ else _);rw [if_pos hc]
   ·rw [if_neg hc,qV,qV]
    simp only [hx];show some k=some (if _ then _ else _);rw [if_neg hc]
  |false=>
   by_cases hc:(k==NameKind.free&&env.scope.kind== .function&&env.kindOf n==some .cell)=true
   ·rw [if_pos hc];simp only [qV,hx];exact ih
   ·rw [if_neg hc];simp only [qV,hx];exact ih
theorem mem_lookup{names:List (Str×NameKind)}{x:Str}{k:NameKind}(h:names.lookup x=some k):(x,k)∈names:=PySem.mem_of_lookup h
def cW(X:Cx)(scope:Scope)(NC:List Str)(ex:List Addr)(s:Shared)(H:Hp):Cx:=
 {X with N:=NC,s₀:=s,H₀:=H,env:=compEnvC scope (jd X.env scope.names []) s.heap.objs.size X.env,outer:=X.stack,stack:=X.stack,ex:=ex,fn:=λ_=>false,pn:= [],xe:=λ_ _=>False}
section
variable {X:Cx} {pins:List (Addr×Obj)} {σ:St} {H:Hp} {s:Shared} {scope:Scope} {NC:List Str} {ex:List Addr} {src:List (Option Nat)}
theorem bp.cells(c:bp X scope)(ok:X.Ok):∀x∈scope.names,x.2= .free→∃c,X.env.cells.lookup x.1=some c:=λx hx e=>ok.has x.1 (c.free x hx e)
theorem bp.QE(c:bp X scope){C:Addr}{x:Str}{k:NameKind}(h:(compEnvC scope (jd X.env scope.names []) C X.env).kindOf x=some k)(hk:k= .cell∨k= .free):scope.names.lookup x=some .free:=by
 have h':(relabel scope X.env).names.lookup x=some k:=h;unfold relabel at h';rw [fO] at h';cases e:scope.names.lookup x with
 |none=>rw [e] at h';cases h'
 |some k'=>
  have nc:=c.nocell _ (mem_lookup e);rw [e] at h';have h2:(if (k'==NameKind.free&&X.env.scope.kind== .function&&X.env.kindOf x==some .cell) then NameKind.cell else k')=k:=Option.some.inj h'
  by_cases hf:k'= .free
  ·rw [hf]
  ·have hb:(k'==NameKind.free)=false:=by simpa using hf
   rw [hb,Bool.false_and,Bool.false_and,if_neg cZ] at h2
   rcases hk with z|z
   ·rw [h2] at nc;exact absurd z nc
   ·rw [h2] at hf;exact absurd z hf
theorem Hs(I:Inv X pins σ H s)(c:bp X scope)(hf:∀b∈ex,fY X pins H b)(bG:∀b∈ex,b<s.heap.objs.size):(cW X scope NC ex s H).Ok where
 mod:=I.ok.mod
 kind:=c.kind
 glob:=I.ok.glob
 blt:=I.ok.blt
 above:=aV _
 inj:=λx y d h1 h2=>I.ok.inj x y d (fe _ _ (c.cells I.ok) (λ_ _ z=>by cases z) x d h1) (fe _ _ (c.cells I.ok) (λ_ _ z=>by cases z) y d h2)
 has:=λx hx=>nh _ _ x (.inl (mem_lookup (by rcases hx with h|h<;>exact c.QE h (by simp))))
 cab:=λ_ _ z=>by cases z
 hd:=I.ok.hd
 frames:=I.ok.frames
 stk:= .inl rfl
 exf:=λb hb=>⟨di (bG b hb),λx d e=>(hf b hb).2.2.2.2.1 x d (fe _ _ (c.cells I.ok) (λ_ _ z=>by cases z) x d e)⟩
 bs:=I.bs
 bsz:=ku I.ok.bsz I.sz
 noex:=λb o e hb=>by
  rcases (hf b hb).2.2.2.1 with z|z
  ·exact I.ok.noex b o e z
  ·exact absurd (gO (Heap.lt_size e) (ku I.ok.bsz z)) (m9 _)
 exfs:=λb hb z=>(bV.mp (I.zK b z)).elim (hf b hb).2.1 (hf b hb).2.2.1
 funs:=I.stack
 frf:=I.Bx
theorem xr{h1:Heap}{tk:Nat}{ob:Obj}(I:Inv X pins σ H s)(c:bp X scope)(fv:dj scope X.N src NC)(hf:∀b∈ex,fY X pins H b)(bG:∀b∈ex,b<s.heap.objs.size)
  (yZ:h1.Ns s.heap.objs.size (λ_=>none)) (y3:Heap.SameBut s.heap.objs.size (s.heap.push ob) h1):
  Inv (cW X scope NC ex s H) [] (mR src σ) H {s with heap:=h1,toks:=tk}:=by
 have old:∀b o,s.heap.get? b=some o→h1.get? b=some o:=λb o e=>y3.extBut b o (di (Heap.lt_size e)) (Heap.get?_push_of_some _ e);have cl:∀x d,(jd X.env scope.names []).lookup x=some d→X.env.cells.lookup x=some d:=λx d=>fe _ _ (c.cells I.ok) (λ_ _ z=>by cases z) x d
 have cellK:∀d v,s.heap.IsCell d v→h1.IsCell d v:=λd v ⟨o,ho,hd⟩=>⟨o,old d o ho,hd⟩;refine ⟨Hs I c hf bG,rfl,I.bare,Un.kept old,⟨_,yZ,λj x v e1 e2 e3=>?_⟩,λx d e=>?_,I.hok.fresh (aV _),λx d e=>I.freeC x d (cl x d e),λp hp=>absurd (show p∈([]:List (Addr×Obj)) from hp) (by simp),I.hok.kept old,?_⟩
 ·have kF:(mR src σ)[j]? =some (some v):=e2
  unfold mR at kF;rw [bW] at kF;cases ej:src[j]? with
  |none=>rw [ej] at kF;cases kF
  |some o=>
   rw [ej] at kF;cases o with
   |none=>cases kF
   |some i=>
    have e4:(σ[i]?).bind id=some v:=Option.some.inj kF
    have e5:σ[i]? =some (some v):=by
     cases q:σ[i]? with
     |none=>rw [q] at e4;cases e4
     |some z=>rw [q] at e4;exact congrArg some e4
    obtain ⟨hN,P4⟩:=fv.at ej e1;have hk:=c.free _ (mem_lookup P4) rfl;obtain ⟨m,hn,hl⟩:=I.loc;obtain ⟨u,r,l⟩:=hl i x v hN e5 (hk.elim (λz=> .inr (.inl z)) (λz=> .inr (.inr z)));refine ⟨u,r, .inr ⟨?_,?_⟩⟩
    ·show (relabel scope X.env).names.lookup x=_∨(relabel scope X.env).names.lookup x=_
     unfold relabel;rw [fO,P4]
     by_cases z:(NameKind.free==NameKind.free&&X.env.scope.kind== .function&&X.env.kindOf x==some .cell)=true
     ·left;simp only [Option.map_some,z,if_true]
     ·right;simp only [Option.map_some,z];rfl
    ·obtain ⟨d,hd⟩:=nh (env:=X.env) scope.names [] x (.inl (mem_lookup P4))
     refine ⟨d,hd,?_⟩
     rcases l with ⟨l,_⟩ | ⟨_,d',e,z⟩
     ·exfalso;rcases hk with z|z<;>(rw [l] at z;cases z)
     ·rw [cl x d hd] at e;cases e;exact cellK d _ z
 ·obtain ⟨v,z⟩:=I.cell x d (cl x d e)
  exact ⟨v,cellK d v z⟩
 ·show (mR src σ).length=NC.length
  unfold mR;rw [aN];exact fv.len
theorem comp_back{H':Hp}{ay:St}{s':Shared}{h2:Heap}{zA:List (Addr×Obj)}(I:Inv X pins σ H s)(hf:∀b∈ex,fY X pins H b)(J:Inv (cW X scope NC ex s H) zA ay H' s')
  (y3:Heap.SameBut s.heap.objs.size s'.heap h2):Inv X pins σ H' {s' with heap:=h2}:=by
 have up:∀b o,b≠s.heap.objs.size→s'.heap.get? b=some o→h2.get? b=some o:=λb o hb e=>y3.extBut b o hb e;have ne:∀b o,s.heap.get? b=some o→b≠s.heap.objs.size:=λb o e=>di (Heap.lt_size e);have u:=J.base;refine I.OQ (ch:=ex) (show s'.os=s.os from J.os) ⟨λb o e n hb hx=>up b o (ne b o e) (u.keep b o e n hb hx),λb o e n hb hx=>?_,u.free,λb o e hx=>?_,u.tups,u.frzs,u.tbls⟩ ?_ J.bare λb hb=>?_
 ·obtain ⟨sl,q⟩:=u.slot b o e n hb hx
  exact ⟨sl,up b _ (ne b o e) q⟩
 ·obtain ⟨o',q⟩:=u.there b o e hx
  exact ⟨o',up b o' (ne b o e) q⟩
 ·intro b o e
  have nC:∀b o,H' b=some o→b≠s.heap.objs.size:=λb o e z=>by
   have:=J.free
   rw [z] at e;have e':H' s.heap.objs.size=none:=this;rw [e'] at e;cases e
  refine (J.hok b o e).td (λd v hd q=>up d v ?_ q) (λ_ q=>q) λ_ _ q=>q
  rcases hd with z|z
  ·rw [z];exact nC b o e
  ·exact nC d _ z
 ·obtain ⟨_,f1,_,f3,f4,f5⟩:=hf b hb
  exact ⟨f3,f1,f4,f5⟩
end
def oM(X:Cx)(ifs:List Expr)(t:TT):Prop:=
 ∀(pins:List (Addr×Obj))(s:Shared)(σ:St)(H:Hp)(Q:Bool→Hp→Prop),Inv X pins σ H s→t σ H Q→
  wpAny (model X.prog X.w) X.A (forIn ifs true λc r=>if r=true then do let ok ←isTrue c X.env (eval c X.env);pure (ForInStep.yield ok) else pure (ForInStep.yield r)) (TP X pins σ Q) X.xe s
def E2:TT:=λ_ H Q=>Q true H
theorem mG{X:Cx}:oM X [] E2:=λ_ _ _ H _ I h=>wpAny_tests_nil ⟨H,I,h⟩
theorem Bd{X:Cx}{c:Expr}{t:TT}(h:PT X c t):oM X [c] t:=λpins s σ H Q I q=>wpAny_tests_one (h pins s σ H Q I q)
def RM(J:It)(g:TG)(tt:TT)(te:TE)(D:Addr)(Q:VK)(σ:St)(H:Hp):Prop:=
 ∃W:Nat→Nat→St→Hp→Prop,(∃m,W 0 m σ H)∧∀i m cD H2,W i m cD H2→
  (J.stop i H2∧Q (.ref D) H2)∨
  (J.go i H2∧∃N:St→Hp→Prop,(∀ay H',N ay H'→∃m',m'<m∧W (i+1) m' ay H')∧∀x H3,J.yld i H2 x H3→g x cD H3 λcU H4=>tt cU H4 λb H5=>
   if b=true then te cU H5 λv H6=>∃ys,H6 D=some (.lst ys)∧ys.length<sizeLine∧N cU (upd H6 D (.lst (ys++ [v]))) else N cU H5)
def Ky(wi:TI)(g:TG)(tt:TT)(te:TE)(src:List (Option Nat)):TE:=λσ H Q=>wi σ H λJ H1=>∀D,H1 D=none→RM J g tt te D Q (mR src σ) (upd H1 D (.lst []))
section
variable {X:Cx} {elt iter tg:Expr} {ifs:List Expr} {scope:Scope} {pos:Pos} {wi:TI} {g:TG} {tt:TT} {te:TE} {src:List (Option Nat)} {NC:List Str}
theorem sq{pins:List (Addr×Obj)}{σ:St}{s2:Shared}{H2:Hp}{it:Addr}{fp:List Addr}{tn:Nat→Heap→Prop}{J:It}{RR:Value→Addr→Result→Shared→Prop}{E:Value→Shared→Prop}{Q:VK}
  (hc:X.calm=true) (c:bp X scope) (fv:dj scope X.N src NC) (I2:Inv X pins σ H2 s2) (T:Turn X.prog X.w X.K tg J fp it tn) (jU:tn 0 s2.heap) (f2:∀b∈fp,fY X pins H2 b)
  (hg:∀s H,PG (cW X scope NC fp s H) tg g) (ht:∀s H,oM (cW X scope NC fp s H) ifs tt) (he:∀s H,PE (cW X scope NC fp s H) elt te)
  (hW:∀D,H2 D=none→∃W:Nat→Nat→St→Hp→Prop,(∃m,W 0 m (mR src σ) (upd H2 D (.lst [])))∧∀i m cD H2,W i m cD H2→
   (J.stop i H2∧Q (.ref D) H2)∨
   (J.go i H2∧∃N:St→Hp→Prop,(∀ay H',N ay H'→∃m',m'<m∧W (i+1) m' ay H')∧∀x H3,J.yld i H2 x H3→g x cD H3 λcU H4=>tt cU H4 λb H5=>
    if b=true then te cU H5 λv H6=>∃ys,H6 D=some (.lst ys)∧ys.length<sizeLine∧N cU (upd H6 D (.lst (ys++ [v]))) else N cU H5))
  (Z9:∀D s3 H3 ay H' s',Inv X pins σ H3 s3→(∀b∈fp,fY X pins H3 b)→Inv (cW X scope NC fp s3 H3) [] ay H' s'→Q (.ref D) H'→RR (.ref D) s3.heap.objs.size (.ok .next) s'):
  wpAny (model X.prog X.w) X.A (newList []) (λacc XW=>wpAny (model X.prog X.w) X.A (newFunctionEnv scope X.env.globals (jd X.env scope.names []) [] X.env.qual none .none (some X.env)) (λsj BA=>
   codeAny (model X.prog X.w) X.A (.compStart (.ListComp elt [⟨tg,iter,ifs,0⟩] scope pos) 0 (.ref it) acc {sj with scope:=relabel scope X.env}) (RR acc sj.locals) BA) E XW) E s2:=by
 obtain ⟨W,⟨m0,w0⟩,turn⟩:=hW s2.heap.objs.size I2.fresh;have I3:Inv X pins σ (upd H2 s2.heap.objs.size (.lst [])) {s2 with heap:=s2.heap.push {cls:= .type "list",data:= .seq ([]:List Value).toArray}}:=I2.Ju (its:= []) (t':=s2.toks) .nil (cS _)
 have QG:∀b∈fp,b<s2.heap.objs.size:=λb hb=>by
  obtain ⟨o,e,_⟩:=T.obj _ _ jU b hb;exact Heap.lt_size e
 have f3:∀b∈fp,fY X pins (upd H2 s2.heap.objs.size (.lst [])) b:=λb hb=>⟨by rw [ab (di (QG b hb))];exact (f2 b hb).1,(f2 b hb).2⟩
 refine wpAny_newObj_type ?_
 suffices key:∀s3:Shared,Inv X pins σ (upd H2 s2.heap.objs.size (.lst [])) s3→(∀b o,s2.heap.get? b=some o→s3.heap.get? b=some o)→
   wpAny (model X.prog X.w) X.A (newFunctionEnv scope X.env.globals (jd X.env scope.names []) [] X.env.qual none .none (some X.env)) (λsj BA=>
    codeAny (model X.prog X.w) X.A (.compStart (.ListComp elt [⟨tg,iter,ifs,0⟩] scope pos) 0 (.ref it) (.ref s2.heap.objs.size) {sj with scope:=relabel scope X.env}) (RR (.ref s2.heap.objs.size) sj.locals) BA) E s3 from
  key _ I3 λb o e=>Heap.get?_push_of_some _ e
 intro s3 I3 Rw;have tX:tn 0 s3.heap:=T.keep _ _ _ jU λb _ o e=>Rw b o e
 have CV:∀b∈fp,b<s3.heap.objs.size:=λb hb=>by
  obtain ⟨o,e,_⟩:=T.obj _ _ tX b hb;exact Heap.lt_size e
 generalize Ul:upd H2 s2.heap.objs.size (.lst [])=H3 at I3 f3 w0;refine wpAny_newFunctionEnv c.nocell (by intro y hy;simp at hy) (λh1 yZ y3=>?_) c.kind
 have I4:=xr (src:=src) (NC:=NC) (ex:=fp) (tk:=s3.toks+([]:List (Str×Value)).length) I3 c fv f3 CV yZ y3;have Ku:tn 0 h1:=T.keep _ _ _ tX λb hb o e=>y3.extBut b o (di (CV b hb)) (Heap.get?_push_of_some _ e);generalize hX:cW X scope NC fp s3 H3=XC at I4
 have stat:∀{H':Hp},(∀b∈fp,H' b=none)→∀b∈fp,fY XC [] H' b:=λ {H'} hn b hb=>by
  subst hX;refine ⟨hn b hb,di (CV b hb),λz=>?_, .inl hb,λx d e=>?_,λp hp=>absurd (show p∈([]:List (Addr×Obj)) from hp) (by simp)⟩
  ·exact (I4.ok.exfs b hb) z
  ·exact (I4.ok.exf b hb).2 x d e
 have loop:codeAny (model X.prog X.w) X.A (.compLoop (.ListComp elt [⟨tg,iter,ifs,0⟩] scope pos) 0 (.ref it) (.ref s2.heap.objs.size) XC.env) (RR (.ref s2.heap.objs.size) s3.heap.objs.size)
   {s3 with heap:=h1,toks:=s3.toks+([]:List (Str×Value)).length}:=by
  refine codeAny_loop rfl (λn s'=>∃i ay H',Inv XC [] ay H' s'∧tn i s'.heap∧(∀b∈fp,H' b=none)∧W i n ay H') (λn s' hI=>?_) m0 ⟨0,_,_,I4,Ku,λb hb=>(f3 b hb).1,w0⟩;obtain ⟨i,ay,H',I5,tY,oV,w5⟩:=hI;show wpAny _ X.A ((compTurn (.ListComp elt [⟨tg,iter,ifs,0⟩] scope pos) 0 (.ref it) (.ref s2.heap.objs.size) XC.env).onRaise (λx=>do noteFrame x XC.env;theTreesLotGoes x)) _ _ s'
  refine wpAny_noted ?_;rw [compTurn_list]
  have jw:∀{α:Type}{t:Sem α}{Q:α→Shared→Prop}{E:Value→Shared→Prop}{s:Shared},wpAny (model XC.prog XC.w) XC.A t Q XC.xe s→wpAny (model X.prog X.w) X.A t Q E s:=λ {α t Q E s} h=>by
   subst hX;exact wpAny_mono h (λ_ _ q=>q) λ_ _ f=>f.elim
  have FQ:XC.calm=true:=by subst hX;exact hc
  have eP:XC.prog=X.prog:=by subst hX;rfl
  have ew:XC.w=X.w:=by subst hX;rfl
  have eK:XC.K=X.K:=by subst hX;rfl
  have eA:XC.A=X.A:=by subst hX;rfl
  have P6:PG XC tg g:=by subst hX;exact hg _ _
  have Qq:oM XC ifs tt:=by subst hX;exact ht _ _
  have PX:PE XC elt te:=by subst hX;exact he _ _
  refine wpAny_bind (wpAny_standAt (wpAny_bind ?_))
  rcases turn i n ay H' w5 with ⟨stop,qn⟩ | ⟨go,N,hN,step⟩
  ·have hd:=T.done XC eP ew eK FQ i [] s' ay H' (notedBy (model X.prog X.w) X.A XC.env λe s'=>RR (.ref s2.heap.objs.size) s3.heap.objs.size (.error e) s') I5 (stat oV) tY stop
   rw [eA] at hd;refine thn hd λr s6 ⟨hr,I6⟩=>?_;subst hr;refine wpAny_pure ?_;subst hX;exact Z9 _ s3 H3 ay H' s6 I3 f3 I6 qn
  ·have hd:=T.item XC eP ew eK FQ i [] s' ay H' (notedBy (model X.prog X.w) X.A XC.env λe s'=>RR (.ref s2.heap.objs.size) s3.heap.objs.size (.error e) s') I5 (stat oV) tY go
   rw [eA] at hd;refine thn hd λr s6 ⟨u,hr,h6⟩=>?_;subst hr;refine wpAny_bind (thn h6 λ_ s7 ⟨x,H7,I7,r7,y7,vS,Ik⟩=>?_);have GY:=I7.pinned (stat Ik) (T.obj _ _ vS)
   have again:∀{gr:St}{H8:Hp}{s8:Shared},Inv XC ([]++kU fp s7.heap) gr H8 s8→N gr H8→∃m,m<n∧∃i ay H',Inv XC [] ay H' s8∧tn i s8.heap∧(∀b∈fp,H' b=none)∧W i m ay H':=λ {gr H8 s8} I8 n8=>by
    obtain ⟨m',hm,w8⟩:=hN gr H8 n8;refine ⟨m',hm,i+1,gr,H8,I8.i6,T.keep _ _ _ vS λb hb o e=>(I8.pin (b,o) (cY _ (cY _ (dU hb e)))).1,λb hb=>?_,w8⟩;obtain ⟨o,e,d⟩:=T.obj _ _ vS b hb;exact (I8.pin (b,o) (cY _ (cY _ (dU hb e)))).2.1
   refine wpAny_bind (jw (thn (P6 _ s7 ay H7 x u _ GY r7 (step x H7 y7)) λ_ s8 ⟨gr,H8,I8,q8⟩=>?_));refine wpAny_bind (jw (thn (Qq _ s8 gr H8 _ I8 q8) λb s9 ⟨H9,I9,q9⟩=>?_));cases b with
   |false=>
    rw [if_neg cZ] at q9;exact wpAny_pure ⟨by subst hX;rfl,again I9 q9⟩
   |true=>
    rw [if_pos rfl] at q9;refine wpAny_bind (wpAny_bind (jw (thn (PX _ s9 gr H9 _ I9 q9) λy zE ⟨v,yA,OE,Q9,ys,hD,hz,Q7⟩=>?_)));refine wpAny_bind (jw (thn (fW _ zE gr yA (.ref s2.heap.objs.size) [v] _ [y] (λ_ H'=>N gr H') OE rfl (.cons Q9 .nil) ⟨_,ys,v,rfl,rfl,hD,hz,Q7⟩) λ_ Dz ⟨_,Fe,GX,_,Q8⟩=>?_));exact wpAny_pure (wpAny_pure ⟨by subst hX;rfl,again GX Q8⟩)
 subst hX;exact codeAny_compStart_list loop (T.self _ 0 _ _ _ Ku loop)
theorem C9(hc:X.calm=true)(c:bp X scope)(fv:dj scope X.N src NC)(hi:PI X tg iter wi)
  (hg:∀ex s H,PG (cW X scope NC ex s H) tg g) (ht:∀ex s H,oM (cW X scope NC ex s H) ifs tt) (he:∀ex s H,PE (cW X scope NC ex s H) elt te)
  (hs:∀x,foldedSetIterable iter X.env x=pure x:=by intro _;rfl):PE X (.ListComp elt [⟨tg,iter,ifs,0⟩] scope pos) (Ky wi g tt te src):=by
 intro pins s σ H Q I h;rw [eval_ListComp];refine wpAny_comprehension_free (use:=none) rfl hs (gS (c.cells I.ok)) c.kind c.names (thn (hi pins s σ H _ I h) λv s1 h1=>thn h1 λF6 s2 h2=>?_);obtain ⟨it,fp,tn,J,H2,rfl,I2,T,jU,f2,hW⟩:=h2;refine sq (RR:=λacc C=>compPost (model X.prog X.w) X.A X.xe none (EP X pins σ Q) acc C) (Q:=Q) hc c fv I2 T jU f2 (hg fp) (ht fp) (he fp) hW ?_;intro D s3 H3 ay H' s' I3 f3 J' q;obtain ⟨m,hn,_⟩:=J'.loc;exact ⟨m,hn,λh' sb=>⟨.ref D,H',comp_back I3 f3 J' sb,rfl,q⟩⟩
def MV(wi:TI)(g:TG)(tt:TT)(te:TE)(src:List (Option Nat))(i:Nat):TS:=λD σ H=>Ky wi g tt te src σ H λv H'=>D.nx (σ.set i (some v)) H'
theorem iZ{i:Nat}{x:Str}{px jH:Pos}(hc:X.calm=true)(hN:X.N.Nodup)(fj:X.N[i]? =some x)(hx:Loc X.env.scope x)(c:bp X scope)(fv:dj scope X.N src NC)(hi:PI X tg iter wi)
  (hg:∀ex s H,PG (cW X scope NC ex s H) tg g) (ht:∀ex s H,oM (cW X scope NC ex s H) ifs tt) (he:∀ex s H,PE (cW X scope NC ex s H) elt te)
  (kH:swapsWith (.ListComp elt [⟨tg,iter,ifs,0⟩] scope pos) (some (.Name x px)) jH.line X.env=pure true)
  (hf:X.fn x=true∨X.env.scope.names.lookup x=some .local:=by first|exact .inl rfl|exact .inr rfl|assumption)
  (hs:∀x,foldedSetIterable iter X.env x=pure x:=by intro _;rfl):PS X (.Assign [.Name x px] (.ListComp elt [⟨tg,iter,ifs,0⟩] scope pos) jH) (MV wi g tt te src i):=by
 intro pins s σ H D I h;rw [exec_Assign_Name_used _ _ _ _ kH];refine wpAny_bind (wpAny_standAt (wpAny_bind ?_));show wpAny _ X.A (do let _ ←comprehension (.ListComp elt [⟨tg,iter,ifs,0⟩] scope pos) scope X.env _ (newList []) false (eval iter X.env) (some (assign (.Name x px) X.env))) _ _ s
 refine wpAny_bind (wpAny_mono (wpAny_comprehension_free (use:=some (assign (.Name x px) X.env)) (Q:=λ_ s'=>SP X pins D .next s') rfl hs (gS (c.cells I.ok)) c.kind c.names
  (thn (hi pins s σ H _ I h) λv s1 h1=>thn h1 λF6 s2 h2=>?_)) (λ_ s' hq=>wpAny_pure (wpAny_pure hq)) λ_ _ e=>e)
 obtain ⟨it,fp,tn,J,H2,rfl,I2,T,jU,f2,hW⟩:=h2;refine sq (RR:=λacc C=>compPost (model X.prog X.w) X.A X.xe (some (assign (.Name x px) X.env)) (λ_ s'=>SP X pins D .next s') acc C) (Q:=λv H'=>D.nx (σ.set i (some v)) H') hc c fv I2 T jU f2 (hg fp) (ht fp) (he fp) hW ?_;intro a s3 H3 ay H' s' I3 f3 J' q;obtain ⟨m,hn,_⟩:=J'.loc;have IX:Inv X pins σ H' s':=comp_back I3 f3 J' (.refl ..);show wpAny _ X.A (assign (.Name x px) X.env (.ref a)) _ _ _;have nL:s3.heap.objs.size≠X.env.locals:=Nat.ne_of_gt I3.lt
 have nc:∀y d,X.env.cells.lookup y=some d→d≠s3.heap.objs.size:=λy d e z=>by
  obtain ⟨v,hv⟩:=I3.cell y d e
  have:=hv.lt
  rw [z] at this;exact absurd this (m9 _)
 have np:∀p∈X.pn++pins,p.1≠s3.heap.objs.size:=λp hp z=>by
  have:=Heap.lt_size (I3.pin p hp).1
  rw [z] at this;exact absurd this (m9 _)
 obtain ⟨oC,es,ep,hoC,Lq,rC⟩:=id hn;have Um:H' s3.heap.objs.size=none:=J'.free
 have IP:Inv X ((s3.heap.objs.size,oC)::pins) σ H' s':=IX.qv λp hp=>by
  rcases bV.mp hp with z|z
  ·rw [z]
   exact ⟨hoC,Um,nL,I3.Og (aV _),λv w=>by rw [Lq] at w;cases w⟩
  ·exact IX.pin p (cY _ z)
 refine wpAny_assign_Name (kn (x:=x) IP hN fj hx (v:= .ref a) rfl (λs5 I5=>?_) hf);have Z3:=(I5.pin (s3.heap.objs.size,oC) (cY _ cC)).1;refine ⟨m,⟨oC,es,ep,Z3,Lq,rC⟩,λh6 sb=>?_⟩;have OF:Inv X pins (σ.set i (some (.ref a))) H' s5:=I5.qv λp hp=>I5.pin p (cY _ (cA _ hp));exact ⟨_,H',OF.turned (t':=s5.toks) (it:=s3.heap.objs.size) (λb o hb e=>sb.extBut b o hb e) Um nL (.inr I3.sz) nc np,q⟩
end
theorem zd{J:It}{g:TG}{tt:TT}{te:TE}{D:Addr}{σ:St}{H:Hp}{Q:VK}(n:Nat)(Pv:Nat→St→Hp→Prop)(h0:Pv 0 σ H)
  (hgo:∀i σ H,i<n→Pv i σ H→J.go i H) (Qn:∀i σ H,n≤i→Pv i σ H→J.stop i H)
  (hs:∀i x σ H H3,i<n→Pv i σ H→J.yld i H x H3→g x σ H3 λcU H4=>tt cU H4 λb H5=>
   if b=true then te cU H5 λv H6=>∃ys,H6 D=some (.lst ys)∧ys.length<sizeLine∧Pv (i+1) cU (upd H6 D (.lst (ys++ [v]))) else Pv (i+1) cU H5)
  (hd:∀σ H,Pv n σ H→Q (.ref D) H):RM J g tt te D Q σ H:=by
 refine ⟨λi m σ H=>m=n-i∧i≤n∧Pv i σ H,⟨n,by simp,cS _,h0⟩,?_⟩
 rintro i m σ H ⟨rfl,hi,p⟩
 by_cases bG:i<n
 ·exact .inr ⟨hgo i σ H bG p,Pv (i+1),λay H' p'=>⟨n-(i+1),by omega,rfl,bG,p'⟩,λx H3 y=>hs i x σ H H3 bG p y⟩
 ·have e:i=n:=by omega
  subst e;exact .inl ⟨Qn _ σ H (aV _) p,hd σ H p⟩
section
variable {X:Cx} {pins:List (Addr×Obj)} {σ:St} {H:Hp} {s:Shared} {h':Heap} {fp:List Addr}
theorem Inv.BD{t':Nat}(I:Inv X pins σ H s)(hf:∀b∈fp,fY X pins H b)(k:∀b o,b∉fp→s.heap.get? b=some o→h'.get? b=some o):Inv X pins σ H {s with heap:=h',toks:=t'}:=by
 refine I.step (g':=s.gens) (d':=s.drawn) (ch:=fp) (λb hb=>?_) (λb o _ _ hc e _=>k b o hc e) (λb o _ _ hc e _=>⟨o.slots,k b o hc e⟩) (λ_ _ _ _ n=>n)
  (λb o hc e=>⟨o,k b o hc e⟩) (λ_ _ e=>e) (λ_ _ _ e=>e) (λb ps e=>⟨#[],by rw [e];simp⟩) (λm hm=>?_) (λb u e=>?_) I.bare
 ·obtain ⟨_,f1,_,f3,f4,f5⟩:=hf b hb
  exact ⟨f3,f1,f4,f5⟩
 ·obtain ⟨o,es,ep,ho,r⟩:=hm
  exact ⟨o,es,ep,k _ o (λz=>(hf _ z).2.1 rfl) ho,r⟩
 ·have nf:∀b u,H b=some u→b∉fp:=λb u e z=>by rw [(hf b z).1] at e;cases e
  refine (I.hok b u e).td (λc v hc q=>k c v ?_ q) (λ_ q=>q) λ_ _ q=>q
  rcases hc with z|z
  ·rw [z];exact nf b u e
  ·exact nf c _ z
theorem Inv.KC{t':Nat}{t:Addr}{o:HO}(I:Inv X pins σ H s)(hf:∀b∈fp,fY X pins H b)(k:∀b o,b∉fp→s.heap.get? b=some o→h'.get? b=some o)(ht:s.heap.objs.size≤t)
  (new:cL X.prog X.w (upd H t o) h' t o):Inv X pins σ (upd H t o) {s with heap:=h',toks:=t'}:=by
 have nt:H t=none:=I.hok.fresh ht;have up:∀b u,H b=some u→upd H t o b=some u:=λb u e=>by rw [ab (ah e nt)];exact e
 refine I.step (g':=s.gens) (d':=s.drawn) (ch:=fp) (λb hb=>?_) (λb o _ _ hc e _=>k b o hc e) (λb o _ _ hc e _=>⟨o.slots,k b o hc e⟩) (λb o _ e n=>?_)
  (λb o hc e=>⟨o,k b o hc e⟩) (λb xs e=>up b _ e) (λb _ _ e=>up b _ e) (λb ps e=>⟨#[],by rw [up b _ e];simp⟩) (λm hm=>?_) (λb u e=>?_) I.bare
 ·obtain ⟨_,f1,_,f3,f4,f5⟩:=hf b hb
  exact ⟨f3,f1,f4,f5⟩
 ·rw [ab (di (gO (Heap.lt_size e) ht))];exact n
 ·obtain ⟨o,es,ep,ho,r⟩:=hm
  exact ⟨o,es,ep,k _ o (λz=>(hf _ z).2.1 rfl) ho,r⟩
 ·by_cases hb:b=t
  ·subst hb
   rw [aa] at e;cases e;exact new
  ·rw [ab hb] at e
   have nf:∀b u,H b=some u→b∉fp:=λb u e z=>by rw [(hf b z).1] at e;cases e
   refine (I.hok b u e).td (λc v hc q=>k c v ?_ q) (λb' q=>up b' _ q) λb' _ q=>up b' _ q
   rcases hc with z|z
   ·rw [z];exact nf b u e
   ·exact nf c _ z
end
def Ff(K:PySem.W.Frag)(a:Addr):It:=
 ⟨λi H=>∃xs x,aH K H a xs∧xs[i]? =some x,λi H y H'=>∃t x,y= .ref t∧H t=none∧H'=upd H t (.tup [.int i,x])∧∀xs,aH K H a xs→xs[i]? =some x,λi H=>∃xs,aH K H a xs∧xs.length≤i⟩
theorem AO{h:Heap}{t:Addr}{u v:Value}(e:h.get? t=some {cls:= .type "tuple",data:= .seq #[u,v]}):IsTup h t [u,v].toArray:=⟨_,e,rfl,_,rfl⟩
theorem DX{P:Program}{w:World}{K:PySem.W.Frag}{es:List Expr}{k1}{tp:Pos}(a e it:Addr)(ne:e≠it):
  Turn P w K (.Tuple es k1 tp) (Ff K a) [e,it] e (λi h=>(∃old,IsEnum h e it i old)∧h.IsListIter it a i) where
 mem:=by simp
 obj:=λi h st b hb=>by
  obtain ⟨⟨old,he⟩,o,e2,c,d⟩:=st
  rcases bV.mp hb with z|z
  ·subst z
   exact ⟨_,he,λv w=>by cases w⟩
  ·have z':b=it:=by simpa using z
   subst z';exact ⟨o,e2,λv z=>by rw [d] at z;cases z⟩
 keep:=λi h h' st k=>by
  obtain ⟨⟨old,he⟩,jU⟩:=st;exact ⟨⟨old,k e (by simp) _ he⟩,jU.at λo q=>k it (by simp) o q⟩
 item:=by
  intro X hP hw hK hc i pins s σ H E I hf st hg;subst hP hw hK;obtain ⟨xs,x,hq,hx⟩:=hg;obtain ⟨its,rv,p,hz⟩:=I.list hq;obtain ⟨u,hu,ru⟩:=rv.get hx;obtain ⟨⟨old,he⟩,hit⟩:=st;refine wpAny_pyNext_enum_item he hit p.isList (x:=u) (by simpa using hu) ne λh' yO UL Qo aai kk=>?_
  have k2:∀b o,b∉ [e,it]→s.heap.get? b=some o→h'.get? b=some o:=λb o hb q=>kk b o (λz=>hb (by simp [z])) (λz=>hb (by simp [z])) q
  have I1:Inv X pins σ (upd H s.heap.objs.size (.tup [.int i,x])) {s with heap:=h',toks:=s.toks+1}:=
   I.KC hf k2 (aV _) ⟨by show 2≤sizeLine;decide,[.int i s.toks,u], .cons ⟨_,rfl⟩ (.cons ru .nil),AO Qo⟩
  refine ⟨_,rfl,wpAny_letOwnedTupleGo_enum yO λh2 he2 sb=>?_⟩
  have lt:∀b∈ [e,it],b<s.heap.objs.size:=λb hb=>by
   rcases bV.mp hb with z|z
   ·rw [z];exact Heap.lt_size he
   ·obtain ⟨o,e2,_⟩:=hit
    have z':b=it:=by simpa using z
    rw [z'];exact Heap.lt_size e2
  have UD:∀b∈ [e,it],fY X pins (upd H s.heap.objs.size (.tup [.int i,x])) b:=λb hb=>⟨by rw [ab (di (lt b hb))];exact (hf b hb).1,(hf b hb).2⟩
  refine ⟨.ref s.heap.objs.size,_,I1.BD (t':=s.toks+1) UD (λb o hb q=>sb.extBut b o (λz=>hb (by simp [z])) q),rfl,⟨_,x,rfl,I.hok.fresh (aV _),rfl,λys hy=>by rw [I.xY hy hq];exact hx⟩,⟨⟨u,?_⟩,UL.extBut sb.extBut (Ne.symm ne)⟩,λb hb=>(UD b hb).1⟩
  have z:((i+1:Nat):Int)=(i:Int)+1:=by omega
  rw [z];exact he2
 done:=by
  intro X hP hw hK hc i pins s σ H E I hf st hg;subst hP hw hK;obtain ⟨xs,hq,hx⟩:=hg;obtain ⟨its,rv,p,hz⟩:=I.list hq;have hl:=rv.length;obtain ⟨⟨old,he⟩,hit⟩:=st;exact wpAny_pyNext_enum_end (I.ok.hd hc) he hit p.isList (by simp;omega) λh' eb=>⟨rfl,I.BD (t':=s.toks) hf λb o hb q=>eb b o (λz=>hb (by simp [z])) q⟩
 self:=λ_ _ _ _ _ st h=>by
  obtain ⟨⟨old,he⟩,_⟩:=st;exact wpAny_pyIter_enum he h
section
variable {X:Cx}
def Qx(K:PySem.W.Frag)(ta:TA):TI:=λσ H R=>ta σ H λvs H1=>∃a,vs= [.ref a]∧(∃xs,H1 a=some (.lst xs))∧R (Ff K a) H1
theorem vA{a:Expr}{ta:TA}{p pos:Pos}{es:List Expr}{k1}{tp:Pos}(hg:Gl X "enumerate")(hm:X.mg "enumerate"=none)(ha:PA X [a] ta)(hs:starEach [a] X.env= [(false,eval a X.env)]:=by rfl):
  PI X (.Tuple es k1 tp) (.Call (.Name "enumerate" p) [a] [] pos) (Qx X.K ta):=by
 intro pins s σ H R I h;refine Call_ (kM I hg hm boot_enumerate (PyProof.Rows.callWith_type1 (thn (ha pos pins s σ H _ I h) λus s1 ⟨vs,H1,I1,r1,q1⟩=>?_) hs rfl));obtain ⟨l,e,⟨xs,hl⟩,q⟩:=q1;subst e;obtain ⟨u,rfl,ru⟩:=r1.one;cases ru;obtain ⟨z,its,n,rv,hlen,e⟩:=I1.mw hl;refine call_enumerate_1 e λh' he hit fS kk=>?_;refine wpAny_pyIter_enum he ?_;have mn:s1.heap.objs.size+1≠s1.heap.objs.size:=Nat.succ_ne_self _;refine ⟨s1.heap.objs.size+1,[s1.heap.objs.size+1,s1.heap.objs.size],_,_,H1,rfl,I1.kept (t':=s1.toks) kk,DX l _ _ mn,⟨⟨_,he⟩,hit⟩,λb hb=>?_,q⟩
 have Ct:s1.heap.objs.size≤b:=by
  rcases bV.mp hb with z|z
  ·rw [z];exact kv _
  ·have z':b=s1.heap.objs.size:=by simpa using z
   rw [z'];exact aV _
 exact I1.Ii Ct (I1.hok.fresh Ct)
end
end L2
namespace Wb
abbrev W:=List (List Nat)
def row(w:W)(p:Nat):List Nat:=w.getD p []
inductive Reach (w:W):Nat→Nat→Prop
 |refl (p):Reach w p p
 |step {p q r}:Reach w p q→r∈row w q→Reach w p r
structure Good (w:W):Prop where
 rng:∀p q,q∈row w p→q<w.length
 irr:∀p,p∉row w p
 nod:∀p,(row w p).Nodup
 sym:∀p q,q∈row w p→p∈row w q
 con:∀p,p<w.length→Reach w 0 p
theorem cQ{w:W}{p q:Nat}(h:q∈row w p):p<w.length:=by
 apply Classical.byContradiction;intro hn;unfold row at h;rw [eS,gf (by omega)] at h
 simp at h
theorem Bi{w:W}{p:Nat}(h:p<w.length):w[p]? =some (row w p):=by
 unfold row;rw [eS,dh h];rfl
theorem Mz{w:W}{p:Nat}{r:List Nat}(h:w[p]? =some r):row w p=r:=by
 unfold row;rw [eS,h];rfl
theorem Kg{w:W}{p:Nat}(h:w.length≤p):row w p= []:=by
 unfold row;rw [eS,gf h];rfl
theorem Reach.trans{w:W}{p q r:Nat}(h:Reach w p q)(h':Reach w q r):Reach w p r:=by
 induction h' with
 |refl=>exact h
 |step _ hr ih=>exact .step ih hr
theorem Reach.symm{w:W}(hs:∀p q,q∈row w p→p∈row w q){p q:Nat}(h:Reach w p q):Reach w q p:=by
 induction h with
 |refl=>exact .refl _
 |step _ hr ih=>exact (Reach.step (.refl _) (hs _ _ hr)).trans ih
theorem Reach.mono{w w':W}(hm:∀p q,q∈row w p→q∈row w' p){p q:Nat}(h:Reach w p q):Reach w' p q:=by
 induction h with
 |refl=>exact .refl _
 |step _ hr ih=>exact .step ih (hm _ _ hr)
def ins{α:Type}(xs:List α)(i:Nat)(x:α):List α:=xs.take i++x::xs.drop i
theorem nA{α:Type}(xs:List α)(i:Nat)(x:α):(ins xs i x).Perm (x::xs):=by
 unfold ins;have h:= @List.perm_middle _ x (xs.take i) (xs.drop i);rw [kq] at h;exact h
theorem cy{α:Type}{xs:List α}{i:Nat}{x a:α}:a∈ins xs i x↔a=x∨a∈xs:=by
 rw [(nA xs i x).mem_iff,bV]
theorem pz{α:Type}{xs:List α}{i:Nat}{x:α}(h:xs.Nodup)(hx:x∉xs):(ins xs i x).Nodup:=by
 rw [(nA xs i x).nodup_iff,fz];exact ⟨hx,h⟩
theorem uX{α:Type}(xs:List α)(i:Nat)(x:α):(ins xs i x).length=xs.length+1:=by
 rw [(nA xs i x).length_eq];rfl
theorem ins_map{α β:Type}(f:α→β)(xs:List α)(i:Nat)(x:α):(ins xs i x).map f=ins (xs.map f) i (f x):=by
 unfold ins;simp [List.map_take,List.map_drop]
theorem fK{w:W}{p x:Nat}{r:List Nat}(h:p<w.length):row (w.set p r) x=if p=x then r else row w x:=by
 unfold row;rw [eS,qU]
 by_cases e:p=x
 ·rw [if_pos e,if_pos e,if_pos h];rfl
 ·rw [if_neg e,if_neg e,eS]
theorem yl{w:W}{r:List Nat}{x:Nat}:row (w++ [r]) x=if x=w.length then r else row w x:=by
 unfold row;rw [eS,List.getElem?_append]
 split
 ·rw [if_neg (by omega),eS]
 ·split
  ·rename_i h e;subst e;simp
  ·rename_i h e
   rw [eS,gf (by simp;omega),gf (by omega)]
theorem FG:Good [[]]:=by
 have hr:∀p,row [[]] p= []:=λp=>by
  unfold row;cases p with
  |zero=>rfl
  |succ n=>simp
 refine ⟨λp q h=>?_,λp h=>?_,λp=>?_,λp q h=>?_,λp h=>?_⟩
 ·rw [hr] at h;cases h
 ·rw [hr] at h;cases h
 ·rw [hr];exact kr
 ·rw [hr] at h;cases h
 ·have:p=0:=by simp at h;exact h
  subst this;exact .refl _
def leaf(w:W)(p i:Nat):W:=(w.set p (ins (row w p) i w.length))++ [[p]]
theorem nE(w:W)(p i:Nat):(leaf w p i).length=w.length+1:=by unfold leaf;simp
theorem yk{w:W}{p i x:Nat}(h:p<w.length):row (leaf w p i) x=if x=w.length then [p] else if p=x then ins (row w p) i w.length else row w x:=by
 unfold leaf;rw [yl,gm,fK h]
theorem uO{w:W}{p i:Nat}(g:Good w)(h:p<w.length):Good (leaf w p i):=by
 have hr:=λx=>yk (i:=i) (x:=x) h;have nl:∀x,w.length∉row w x:=λx hx=>m9 _ (g.rng _ _ hx)
 have mono:∀x q,q∈row w x→q∈row (leaf w p i) x:=λx q hq=>by
  have:=cQ hq
  rw [hr,if_neg (by omega)]
  split
  ·rename_i e;subst e;exact cy.mpr (.inr hq)
  ·exact hq
 refine ⟨λx q hx=>?_,λx hx=>?_,λx=>?_,λx q hx=>?_,λx hx=>?_⟩
 ·rw [hr] at hx;rw [nE]
  split at hx
  ·simp at hx;omega
  ·split at hx
   ·rcases cy.mp hx with e|e
    ·omega
    ·have:=g.rng _ _ e;omega
   ·have:=g.rng _ _ hx;omega
 ·rw [hr] at hx
  split at hx
  ·simp at hx;omega
  ·split at hx
   ·rcases cy.mp hx with e|e
    ·omega
    ·rename_i e2;subst e2;exact g.irr _ e
   ·exact g.irr _ hx
 ·rw [hr];split
  ·simp
  ·split
   ·exact pz (g.nod _) (nl _)
   ·exact g.nod _
 ·rw [hr] at hx
  split at hx
  ·have e:q=p:=by simpa using hx
   subst e
   rename_i e
   rw [hr,if_neg (by omega),if_pos rfl,e]
   exact cy.mpr (.inl rfl)
  ·split at hx
   ·rename_i e;subst e
    rcases cy.mp hx with e|e
    ·rw [hr,if_pos e];simp
    ·exact mono _ _ (g.sym _ _ e)
   ·exact mono _ _ (g.sym _ _ hx)
 ·rw [nE] at hx
  by_cases e:x=w.length
  ·refine Reach.step ((g.con p h).mono mono) ?_
   rw [hr,if_neg (by omega),if_pos rfl,e]
   exact cy.mpr (.inl rfl)
  ·exact (g.con x (by omega)).mono mono
def lP(w:W)(p i u j:Nat):W:=(w.set p (ins (row w p) i u)).set u (ins (row w u) j p)
theorem qL(w:W)(p i u j:Nat):(lP w p i u j).length=w.length:=by unfold lP;simp
theorem Kh{w:W}{p i u j x:Nat}(hp:p<w.length)(hu:u<w.length):row (lP w p i u j) x=if u=x then ins (row w u) j p else if p=x then ins (row w p) i u else row w x:=by
 unfold lP;rw [fK (by simpa using hu),fK hp]
theorem xM{w:W}{p i u j:Nat}(g:Good w)(hp:p<w.length)(hu:u<w.length)(ne:u≠p)(nt:u∉row w p):Good (lP w p i u j):=by
 have hr:=λx=>Kh (i:=i) (j:=j) (x:=x) hp hu;have nt':p∉row w u:=λh=>nt (g.sym _ _ h)
 have mono:∀x q,q∈row w x→q∈row (lP w p i u j) x:=λx q hq=>by
  rw [hr]
  split
  ·rename_i e;subst e;exact cy.mpr (.inr hq)
  ·split
   ·rename_i e;subst e;exact cy.mpr (.inr hq)
   ·exact hq
 refine ⟨λx q hx=>?_,λx hx=>?_,λx=>?_,λx q hx=>?_,λx hx=>?_⟩
 ·rw [hr] at hx;rw [qL]
  split at hx
  ·rcases cy.mp hx with e|e
   ·omega
   ·exact g.rng _ _ e
  ·split at hx
   ·rcases cy.mp hx with e|e
    ·omega
    ·exact g.rng _ _ e
   ·exact g.rng _ _ hx
 ·rw [hr] at hx
  split at hx
  ·rename_i e2;subst e2
   rcases cy.mp hx with e|e
   ·exact ne e
   ·exact g.irr _ e
  ·split at hx
   ·rename_i e2;subst e2
    rcases cy.mp hx with e|e
    ·exact ne e.symm
    ·exact g.irr _ e
   ·exact g.irr _ hx
 ·rw [hr];split
  ·exact pz (g.nod _) nt'
  ·split
   ·exact pz (g.nod _) nt
   ·exact g.nod _
 ·rw [hr] at hx
  split at hx
  ·rename_i e2;subst e2
   rcases cy.mp hx with e|e
   ·subst e;rw [hr,if_neg ne,if_pos rfl];exact cy.mpr (.inl rfl)
   ·exact mono _ _ (g.sym _ _ e)
  ·split at hx
   ·rename_i e2;subst e2
    rcases cy.mp hx with e|e
    ·subst e;rw [hr,if_pos rfl];exact cy.mpr (.inl rfl)
    ·exact mono _ _ (g.sym _ _ e)
   ·exact mono _ _ (g.sym _ _ hx)
 ·rw [qL] at hx;exact (g.con x hx).mono mono
theorem FH{w w':W}{ord:Nat→Nat}(g:Good w)(hl:w'.length=w.length)(into:∀p,p<w.length→ord p<w.length)
  (inj:∀p q,p<w.length→q<w.length→ord p=ord q→p=q) (sur:∀y,y<w.length→∃p,p<w.length∧ord p=y)
  (hZ:∀p,p<w.length→(row w' (ord p)).Perm ((row w p).map ord)):Good w':=by
 have mem:∀p q,p<w.length→(q∈row w' (ord p)↔∃a,a∈row w p∧ord a=q):=λp q hp=>by
  rw [(hZ p hp).mem_iff,bz]
 have reach:∀{p q},Reach w p q→Reach w' (ord p) (ord q):=λ {p q} h=>by
  induction h with
  |refl=>exact .refl _
  |step _ hr ih=>exact .step ih ((mem _ _ (cQ hr)).mpr ⟨_,hr,rfl⟩)
 refine ⟨λy q hy=>?_,λy hy=>?_,λy=>?_,λy q hy=>?_,λy hy=>?_⟩
 ·obtain ⟨p,hp,rfl⟩:=sur y (by have:=cQ hy;omega)
  obtain ⟨a,ha,rfl⟩:=(mem p q hp).mp hy;rw [hl];exact into a (g.rng _ _ ha)
 ·obtain ⟨p,hp,rfl⟩:=sur y (by have:=cQ hy;omega)
  obtain ⟨a,ha,e⟩:=(mem p _ hp).mp hy
  have:=inj a p (g.rng _ _ ha) hp e
  subst this;exact g.irr _ ha
 ·by_cases hy:y<w.length
  ·obtain ⟨p,hp,rfl⟩:=sur y hy
   rw [(hZ p hp).nodup_iff];unfold List.Nodup;rw [iH];refine List.Pairwise.imp_of_mem ?_ (g.nod p);intro a b ha hb ne e;exact ne (inj a b (g.rng _ _ ha) (g.rng _ _ hb) e)
  ·rw [Kg (by omega)];exact kr
 ·obtain ⟨p,hp,rfl⟩:=sur y (by have:=cQ hy;omega)
  obtain ⟨a,ha,rfl⟩:=(mem p q hp).mp hy;exact (mem a _ (g.rng _ _ ha)).mpr ⟨p,g.sym _ _ ha,rfl⟩
 ·rw [hl] at hy
  obtain ⟨p,hp,rfl⟩:=sur y hy;obtain ⟨z,hz,e0⟩:=sur 0 (by omega)
  have h1:=reach (((g.con z hz).symm g.sym).trans (g.con p hp));rw [e0] at h1;exact h1
def aI(l:List Nat)(x:Nat):Nat:=l.getD ((l.idxOf x+1)%l.length) 0
def bC(w:W)(d:Nat×Nat):Nat×Nat:=(d.2,aI (row w d.2) d.1)
def aE(w:W)(d:Nat×Nat):Prop:=d.2∈row w d.1
theorem g7{l:List Nat}{x:Nat}(h:x∈l):l[(l.idxOf x+1)%l.length]? =some (aI l x):=by
 have hp:0<l.length:=BM h;unfold aI;rw [eS,dh (Nat.mod_lt _ hp)];rfl
theorem DP{l:List Nat}{x:Nat}(h:x∈l):aI l x∈l:=dD (g7 h)
theorem Jx{a b n:Nat}(ha:a<n)(hb:b<n)(e:(a+1)%n=(b+1)%n):a=b:=by
 by_cases h1:a+1=n
 ·by_cases h2:b+1=n
  ·omega
  ·rw [h1,Nat.mod_self,wD (by omega)] at e;omega
 ·by_cases h2:b+1=n
  ·rw [h2,Nat.mod_self,wD (by omega)] at e;omega
  ·rw [wD (by omega),wD (by omega)] at e;omega
theorem vV{l:List Nat}{x y:Nat}(nd:l.Nodup)(hx:x∈l)(hy:y∈l)(e:aI l x=aI l y):x=y:=by
 have hp:0<l.length:=BM hx;have h1:=g7 hx;have h2:=g7 hy;rw [e] at h1;have lx:=qR.mpr hx;have ly:=qR.mpr hy;obtain ⟨a1,b1⟩:=cF.mp h1;obtain ⟨a2,b2⟩:=cF.mp h2;have q:=(List.getElem_inj nd).mp (b1.trans b2.symm);have q2:=Jx lx ly q;have e1:=tF lx;have e2:=tF ly;rw [←e1,←e2];simp only [q2]
theorem Gj{w:W}{d:Nat×Nat}(g:Good w)(h:aE w d):aE w (bC w d):=DP (g.sym _ _ h)
theorem kc{w:W}{d e:Nat×Nat}(g:Good w)(h:aE w d)(h':aE w e)(q:bC w d=bC w e):d=e:=by
 have e2:d.2=e.2:=congrArg Prod.fst q;have e1:aI (row w d.2) d.1=aI (row w e.2) e.1:=congrArg Prod.snd q;rw [←e2] at e1;have h1:d.1∈row w d.2:=g.sym _ _ h;have h2:e.1∈row w d.2:=by rw [e2];exact g.sym _ _ h'
 exact Prod.ext (vV (g.nod _) h1 h2 e1) e2
def aQ(w:W):List (Nat×Nat):=(List.range w.length).flatMap λp=>(row w p).map λq=>(p,q)
theorem aK{w:W}{d:Nat×Nat}:d∈aQ w↔aE w d:=by
 unfold aQ aE;rw [List.mem_flatMap]
 constructor
 ·rintro ⟨p,_,h⟩
  obtain ⟨q,hq,rfl⟩:=bz.mp h;exact hq
 ·intro h
  exact ⟨d.1,gP.mpr (cQ h),bz.mpr ⟨d.2,h,rfl⟩⟩
theorem bg{α:Type} [DecidableEq α]:∀{l m:List α},l.Nodup→(∀x∈l,x∈m)→l.length≤m.length
 | [],_,_,_=>cS _
 |a::r,m,nd,h=>by
  have n6:=fz.mp nd;have am:=h a cC;have ih:=bg (l:=r) (m:=m.erase a) n6.2 λx hx=>(List.mem_erase_of_ne (λ(e:x=a)=>n6.1 (by rw [←e];exact hx))).mpr (h x (cA _ hx))
  rw [List.length_erase_of_mem am] at ih
  have:=BM am
  simp only [cp];omega
theorem bU{w:W}(g:Good w)(p:Nat):(row w p).length≤w.length:=by
 have:=bg (m:=List.range w.length) (g.nod p) λx hx=>gP.mpr (g.rng _ _ hx)
 simpa using this
theorem xG{α β:Type}{f:α→List β}{k:Nat}:∀{l:List α},(∀x∈l,(f x).length≤k)→(l.flatMap f).length≤l.length*k
 | [],_=>by simp
 |a::r,h=>by
  have ih:=xG (f:=f) (k:=k) (l:=r) λx hx=>h x (cA _ hx)
  have:=h a cC
  rw [yx,dS,cp,Nat.succ_mul];omega
theorem kD{w:W}(g:Good w):(aQ w).length≤w.length*w.length:=by
 have:=xG (f:=λp=>(row w p).map λq=>(p,q)) (k:=w.length) (l:=List.range w.length) λx _=>by rw [aN];exact bU g x
 rw [iG] at this;exact this
def bH(w:W):Nat→Nat×Nat→Nat×Nat
 |0,d=>d
 |n+1,d=>bC w (bH w n d)
theorem eF{w:W}{d:Nat×Nat}(g:Good w)(h:aE w d):∀n,aE w (bH w n d)
 |0=>h
 |n+1=>Gj g (eF g h n)
theorem eC{w:W}{d:Nat×Nat}(m:Nat):∀n,bH w (n+m) d=bH w n (bH w m d)
 |0=>by rw [ng];rfl
 |n+1=>by rw [Nat.succ_add];show bC w (bH w (n+m) d)=bC w (bH w n (bH w m d));rw [eC m n]
theorem uZ{w:W}{d e:Nat×Nat}(g:Good w)(h:aE w d)(h':aE w e):∀n,bH w n d=bH w n e→d=e
 |0,q=>q
 |n+1,q=>uZ g h h' n (kc g (eF g h n) (eF g h' n) q)
def walk(w:W)(d:Nat×Nat)(k:Nat):List (Nat×Nat):=(List.range k).map λi=>bH w i d
theorem vZ(w:W)(d:Nat×Nat)(k:Nat):walk w d (k+1)=walk w d k++ [bH w k d]:=by
 unfold walk;rw [List.range_succ,dP];rfl
theorem fu(w:W)(d:Nat×Nat)(k:Nat):(walk w d k).length=k:=by unfold walk;simp
theorem pN{w:W}{d:Nat×Nat}(g:Good w)(h:aE w d){k:Nat}:∀e∈walk w d k,aE w e:=λe he=>by
 obtain ⟨i,_,rfl⟩:=bz.mp he;exact eF g h i
theorem tm{w:W}{d:Nat×Nat}(g:Good w)(h:aE w d){k:Nat}(hk:∀j,0<j→j<k→bH w j d≠d):(walk w d k).Nodup:=by
 unfold walk List.Nodup;rw [iH];refine List.Pairwise.imp_of_mem ?_ List.pairwise_lt_range;intro i j hi hj lt e;have yW:=gP.mp hj;have e2:bH w i d=bH w i (bH w (j-i) d):=by rw [←eC (j-i) i,show i+(j-i)=j by omega];exact e
 exact hk (j-i) (by omega) (by omega) (uZ g h (eF g h _) i e2).symm
theorem vY{w:W}{d:Nat×Nat}(g:Good w)(h:aE w d){k:Nat}(hk:∀j,0<j→j<k→bH w j d≠d):k≤(aQ w).length:=by
 have:=bg (m:=aQ w) (tm g h hk) λe he=>aK.mpr (pN g h e he)
 rwa [fu] at this
theorem Ae{w:W}(g:Good w){S:Nat→Prop}(h0:S 0)(hc:∀p q,S p→q∈row w p→S q):∀p,p<w.length→S p:=λp hp=>by
 have:∀{a b},Reach w a b→S a→S b:=λ {a b} h ha=>by
  induction h with
  |refl=>exact ha
  |step _ hr ih=>exact hc _ _ ih hr
 exact this (g.con p hp) h0
def lexLe(a b:Nat×Nat):Prop:=a.1<b.1∨(a.1=b.1∧a.2≤b.2)
theorem nG{a b:Nat×Nat}(h:lexLe a b)(h':lexLe b a):a=b:=by
 unfold lexLe at h h';exact Prod.ext (by omega) (by omega)
def fP(rows:Nat→List Nat)(n:Nat):List (Nat×Nat):=(List.range n).flatMap λp=>((rows p).filter λq=>decide (p<q)).map λq=>(p,q)
theorem mD{α β:Type}{R:β→β→Prop}{f:α→List β}:∀{l:List α},(∀x∈l,(f x).Pairwise R)→l.Pairwise (λa b=>∀x∈f a,∀y∈f b,R x y)→(l.flatMap f).Pairwise R
 | [],_,_=>List.Pairwise.nil
 |a::r,h,p=>by
  have p':=List.pairwise_cons.mp p;rw [yx,BO];refine ⟨h a cC,mD (λx hx=>h x (cA _ hx)) p'.2,λx hx y hy=>?_⟩;obtain ⟨b,hb,F3⟩:=List.mem_flatMap.mp hy;exact p'.1 b hb x hx y F3
end Wb
namespace L2
open PySem PySem.Spec PyProof.Rows
section
variable {X:Cx}
theorem Vals.ins{x:V}{u:Value}(r:RelV x u){xs:List V}{us:List Value}(i:Nat)(h:Vals xs us):Vals (Wb.ins xs i x) (Wb.ins us i u):=(h.take i).append (.cons r (h.drop i))
def Ka:V→List V→Hp→VK→Prop:=λx vs H Q=>∃l xs i y,x= .ref l∧vs= [.int i,y]∧H l=some (.lst xs)∧0≤i∧i≤xs.length∧xs.length<sizeLine∧Q .aM (upd H l (.lst (Wb.ins xs i.toNat y)))
theorem kP:BV X "list.insert" Ka:=by
 intro pins s σ H x vs v us Q I rx rv h;obtain ⟨l,xs,i,y,rfl,rfl,hH,h0,h1,hz,q⟩:=h;cases rx;obtain ⟨u1,u2,rfl,⟨t,rfl⟩,ru⟩:=rv.two;obtain ⟨z,its,n,r,hl,e⟩:=I.mw hH;have bG:=iO
 have UE:¬(!Builtin.List.listFitsIndex i)=true:=by
  rw [fitsIndex_both (by omega) (by omega)]
  exact cZ
 refine call_meets F.slot_list_insert ⟨_,e,rfl⟩ F.entry_list_insert (F.args_list_insert_3 _ _ _) (AutoSeq1.list_insert_list_int_val_1 l its.toArray n i t u2 UE (by rw [cn];omega)) ⟨e,?_⟩
 refine ⟨.aM,_,I.xZ (its':=Wb.ins its i.toNat u2) hH e ?_ (r.ins ru i.toNat) ?_,rfl,q⟩
 ·have hi:¬i<0:=by omega
  have hm:min i.toNat its.length=i.toNat:=by omega
  simp only [hi,if_false,cn,hm];apply Array.toList_inj.mp;unfold Wb.ins;simp;exact mZ (by rw [iJ];omega)
 ·rw [Wb.uX];omega
def Mv(K:PySem.W.Frag):V→List V→Hp→VK→Prop:=λx vs H Q=>∃(l:Addr)(xs:List V)(y:V)(j:Nat)(z:V),x= .ref l∧vs= [y]∧H l=some (.lst xs)∧gz y=true∧xs.all gz=true∧xs[j]? =some z∧oT z y=true∧
 (∀(m:Nat) z,m<j→xs[m]? =some z→oT z y=false)∧Q (.int j) H
theorem nJ:BV X "list.index" (Mv X.K):=by
 intro pins s σ H x vs v us Q I rx rv h;obtain ⟨l,xs,y,j,z,rfl,rfl,hH,fy,fs,hz,ez,yY,q⟩:=h;cases rx;obtain ⟨u,rfl,ru⟩:=rv.one;obtain ⟨fS,its,n,r,hl,e⟩:=I.mw hH;obtain ⟨w,hw,vG⟩:=r.get hz
 have hj:j<its.toArray.size:=by
  obtain ⟨h1,_⟩:=cF.mp hw;simpa using h1
 have flat:∀(m:Nat) z,xs[m]? =some z→gz z=true:=λm z h=>(List.all_eq_true.mp fs) z (dD h)
 have hwj:its.toArray[j]=w:=by
  obtain ⟨h1,h2⟩:=cF.mp hw;simpa using h2
 have bG:=iO
 have yW:j<xs.length:=by
  obtain ⟨h1,_⟩:=cF.mp hz;exact h1
 refine call_meets F.slot_list_index ⟨_,e,rfl⟩ F.entry_list_index (F.args_list_index_2 _ _) (SeqAt.list_indexAt l its.toArray n none #[] u (n4 y) j hj (by omega) ?_ ?_) ⟨e,λw hw=>iX ru fy r fs w (by simpa using hw),?_⟩
 ·rw [hwj,t6 vG (flat j z hz)];exact ez
 ·intro m hm Qf
  have AG:m<its.length:=by simpa using hm
  obtain ⟨zm,Qw⟩:∃zm,xs[m]? =some zm:=⟨_,dh (by omega)⟩
  obtain ⟨wm,hwm,rwm⟩:=r.get Qw
  have ZK:its.toArray[m]=wm:=by
   obtain ⟨h1,h2⟩:=cF.mp hwm;simpa using h2
  rw [ZK,t6 rwm (flat m zm Qw)];exact yY m zm Qf Qw
 ·exact ⟨.int j,H,I.tok _,⟨_,rfl⟩,q⟩
end
mutual
inductive Dp (K:PySem.W.Frag) (H:Hp):V→PyData→Prop
 |aM:Dp K H .aM .none
 |bl (b:Bool):Dp K H (.bl b) (.bool b)
 |int (i:Int):Dp K H (.int i) (.int i)
 |str (x:Str) (h:PyData.strOk x=true):Dp K H (.str x) (.str x)
 |lst {a:Addr} {xs:List V} {ds:List PyData}:aH K H a xs→eJ K H xs ds→Dp K H (.ref a) (.list ds)
 |tup {a:Addr} {xs:List V} {ds:List PyData}:dX K H a xs→eJ K H xs ds→Dp K H (.ref a) (.tuple ds)
inductive eJ (K:PySem.W.Frag) (H:Hp):List V→List PyData→Prop
 |nil:eJ K H [] []
 |cons {v:V} {vs:List V} {d:PyData} {ds:List PyData}:Dp K H v d→eJ K H vs ds→eJ K H (v::vs) (d::ds)
end
section
variable {X:Cx} {pins:List (Addr×Obj)} {σ:St} {H:Hp} {s:Shared}
mutual
theorem Dp.reads(I:Inv X pins σ H s):∀{v:V}{d:PyData}{u:Value},Dp X.K H v d→RelV v u→(∃as,Reads s.heap u d as)∧d.canLay0=true
 |_,_,_, .aM,r=>by cases r;exact ⟨⟨_, .none⟩,rfl⟩
 |_,_,_, .bl b,r=>by cases r;exact ⟨⟨_, .bool b⟩,rfl⟩
 |_,_,_, .int i,r=>by obtain ⟨t,rfl⟩:=r;exact ⟨⟨_, .int i t⟩,rfl⟩
 |_,_,_, .str x h,r=>by obtain ⟨t,rfl⟩:=r;exact ⟨⟨_, .str x t⟩,by simpa [PyData.canLay0] using h⟩
 |_,_,_, .lst h a,r=>by
  cases r;obtain ⟨its,rv,pl,hz⟩:=I.list h;obtain ⟨⟨as,ra⟩,c⟩:=eJ.reads I a rv;obtain ⟨o,ho,hc,n,hd⟩:=pl.isList;exact ⟨⟨_, .list ho hc hd (by simpa using ra)⟩,by simpa [PyData.canLay0] using c⟩
 |_,_,_, .tup h a,r=>by
  cases r;obtain ⟨its,rv,pl,hz⟩:=I.tuple h;obtain ⟨⟨as,ra⟩,c⟩:=eJ.reads I a rv;obtain ⟨o,ho,hc,n,hd⟩:=pl;exact ⟨⟨_, .tuple ho hc hd (by simpa using ra)⟩,by simpa [PyData.canLay0] using c⟩
theorem eJ.reads(I:Inv X pins σ H s):∀{vs:List V}{ds:List PyData}{us:List Value},eJ X.K H vs ds→Vals vs us→(∃as,ReadsAll s.heap us ds as)∧PyData.canLayAll0 ds=true
 |_,_,_, .nil, .nil=>⟨⟨_, .nil⟩,by simp [PyData.canLayAll0]⟩
 |_,_,_, .cons a as, .cons r rs=>by
  obtain ⟨⟨x,h1⟩,c1⟩:=Dp.reads I a r;obtain ⟨⟨y,h2⟩,c2⟩:=eJ.reads I as rs;exact ⟨⟨_, .cons h1 h2⟩,by simp [PyData.canLayAll0,c1,c2]⟩
end
end
section
variable {X:Cx}
def Xd(K:PySem.W.Frag):R2:=λx y H Q=>∃d e,Dp K H x d∧Dp K H y e∧d.depth≤64∧Q (.bl (PyData.eqv d e)) H
def Xf(K:PySem.W.Frag):R2:=λx y H Q=>∃d e,Dp K H x d∧Dp K H y e∧d.depth≤64∧Q (.bl (!PyData.eqv d e)) H
theorem Mb(hu:X.A.units+64<cLine):OpR X (compareOp .Eq) (Xd X.K):=by
 intro pins s σ H x y v u Q I rx ry h;obtain ⟨d,e,hd,he,hz,q⟩:=h;obtain ⟨⟨as,r1⟩,c1⟩:=hd.reads I rx;obtain ⟨⟨bs,r2⟩,c2⟩:=he.reads I ry;exact SeqAt.compareEq_reads r1 r2 c1 c2 (by have:=Nat.min_le_left d.depth e.depth;omega) ⟨.bl _,H,I,rfl,q⟩
theorem zx(hu:X.A.units+64<cLine):OpR X (compareOp .NotEq) (Xf X.K):=by
 intro pins s σ H x y v u Q I rx ry h;obtain ⟨d,e,hd,he,hz,q⟩:=h;obtain ⟨⟨as,r1⟩,c1⟩:=hd.reads I rx;obtain ⟨⟨bs,r2⟩,c2⟩:=he.reads I ry;exact SeqAt.compareNe_reads r1 r2 c1 c2 (by have:=Nat.min_le_left d.depth e.depth;omega) ⟨.bl _,H,I,rfl,q⟩
end
def nD(n:Nat):PyData:= .int n
def lA(r:List Nat):PyData:= .list (r.map nD)
def lG(d:Nat×Nat):PyData:= .tuple [.int d.1, .int d.2]
theorem hU{α:Type}{f:α→PyData}(hf:∀a b,PyData.eqv (f a) (f b)=true↔a=b):∀xs ys:List α,PyData.eqvAll (xs.map f) (ys.map f)=true↔xs=ys
 | [],[]=>by simp [PyData.eqvAll]
 | [],_::_=>by simp [PyData.eqvAll]
 |_::_,[]=>by simp [PyData.eqvAll]
 |a::xs,b::ys=>by
  have ih:=hU hf xs ys;simp [PyData.eqvAll,hf,ih]
theorem Ln(a b:Nat):PyData.eqv (nD a) (nD b)=true↔a=b:=by
 simp [nD,PyData.eqv];omega
theorem rA(a b:List Nat):PyData.eqv (lA a) (lA b)=true↔a=b:=by
 unfold lA;rw [PyData.eqv];exact hU Ln a b
theorem xE(a b:Nat×Nat):PyData.eqv (lG a) (lG b)=true↔a=b:=by
 unfold lG;obtain ⟨a1,a2⟩:=a;obtain ⟨b1,b2⟩:=b;simp [PyData.eqv,PyData.eqvAll];omega
theorem fD{α:Type}{f:α→PyData}{k:Nat}(hf:∀a,(f a).depth≤k):∀xs:List α,PyData.depthAll (xs.map f)≤k
 | []=>by simp [PyData.depthAll]
 |a::xs=>by
  have:=hf a
  have ih:=fD hf xs;simp [PyData.depthAll];omega
theorem sA(a:List Nat):(lA a).depth≤2:=by
 unfold lA;rw [PyData.depth]
 have:=fD (f:=nD) (k:=1) (λn=>by simp [nD,PyData.depth]) a
 omega
theorem sC(a:Nat×Nat):(lG a).depth≤2:=by simp [lG,PyData.depth,PyData.depthAll]
def mU(w:List (List Nat)):PyData:= .list (w.map lA)
theorem nr(a b:List (List Nat)):PyData.eqv (mU a) (mU b)=true↔a=b:=by
 unfold mU;rw [PyData.eqv];exact hU rA a b
theorem sD(a:List (List Nat)):(mU a).depth≤3:=by
 unfold mU;rw [PyData.depth]
 have:=fD (f:=lA) (k:=2) sA a
 omega
end L2
namespace L2
open PySem PySem.Spec PyProof.Rows
theorem Vals.of_get:∀{xs:List V}{us:List Value},xs.length=us.length→(∀(k:Nat) x u,xs[k]? =some x→us[k]? =some u→RelV x u)→Vals xs us
 | [],[],_,_=> .nil
 | [],_::_,h,_=>by simp at h
 |_::_,[],h,_=>by simp at h
 |x::xs,u::us,h,r=> .cons (r 0 x u rfl rfl) (Vals.of_get (by simpa using h) λk y w h1 h2=>r (k+1) y w (by simpa using h1) (by simpa using h2))
section
variable {X:Cx}
theorem pS:bZ X (.builtin "isinstance") (λxs H Q=>∃(x:V)(n:String)(t:Value)(b:Bool),xs= [x, .ty n]∧jb X.K H x t∧PySem.W.kitOne X.K t (.type n)=some b∧Q (.bl b) H):=by
 intro pins s σ H xs us Q I rv h;obtain ⟨x,n,t,b,rfl,ty,e,q⟩:=h;obtain ⟨u1,u2,rfl,r1,r2⟩:=rv.two;cases r2;exact uY I r1 ty e λtk=>⟨.bl b,H,I.tok _,rfl,q⟩
theorem wM:bZ X (.builtin "sorted") (λxs H Q=>∃(p:Addr)(ns:List Int),xs= [.ref p]∧aH X.K H p (ns.map V.int)∧ns.length<64∧∀(q:Addr)(ms:List Int),H q=none→ms.Perm ns→ms.Pairwise (·≤·)→Q (.ref q) (upd H q (.lst (ms.map V.int)))):=by
 intro pins s σ H xs us Q I rv h;obtain ⟨p,ns,rfl,hp,hz,q⟩:=h;obtain ⟨u,rfl,ru⟩:=rv.one;cases ru;obtain ⟨its,r,pl,_⟩:=I.list hp;have hl:=r.length;rw [aN] at hl;refine sorted_ints pl.isList (intsAre_of r) (by omega) λout ms hI mq hs=>?_
 obtain ⟨e,he⟩:=sortedAll_at s.heap its out;have fr:H (s.heap.objs.size+1)=none:=I.hok.fresh (kv _);have Lu:=mq.length_eq;have bE:64≤sizeLine:=by decide
 refine ⟨.ref (s.heap.objs.size+1),_,I.laid (t':=s.toks) (λb o hb=>sortedAll_old hb) (kv _) (o:= .lst (ms.map V.int)) ⟨by rw [aN];omega,out.toList,e,pL hI,by simpa using he⟩,rfl,q _ ms fr mq hs⟩
def kX(i:Int)(n:Nat):List V:=(List.range n).map λ(k:Nat)=>V.int (i+(k:Int))
theorem ux(hc:X.calm=true):bZ X (.type "list") (λxs H Q=>∃(p:Addr)(i j:Int),xs= [.ref p]∧H p=some (.rng i j)∧-(2^62)≤i∧i<2^62∧-(2^62)≤j∧j<2^62∧(j-i).toNat≤1000∧
  ∀q,H q=none→Q (.ref q) (upd H q (.lst (kX i (j-i).toNat)))):=by
 intro pins s σ H xs us Q I rv h;obtain ⟨p,i,j,rfl,hp,h1,h2,h3,h4,hz,q⟩:=h;obtain ⟨u,rfl,ru⟩:=rv.one;cases ru;obtain ⟨t,u,v,e⟩:=(show cL X.prog X.w H s.heap p (.rng i j) from I.hok p _ hp);refine call_list_range (n:=(j-i).toNat) (I.ok.hd hc) e (small_one h1 h2 h3 h4) ?_ (by omega) λh' tk acc c kk hS NS=>?_
 ·rw [rangeSize_one];split<;>omega
 ·have bE:1000≤sizeLine:=by decide
  refine ⟨.ref s.heap.objs.size,_,I.laid kk (aV _) (o:= .lst (kX i (j-i).toNat)) ⟨by unfold kX;simp;omega,acc.toList,c,?_,by simpa using hS⟩,rfl,q _ (I.hok.fresh (aV _))⟩
  refine Vals.of_get (by unfold kX;simp [NS.1]) λk x w hx hw=>?_
  unfold kX at hx;rw [bW] at hx;obtain ⟨t',Qo⟩:=NS.2 k w (by rw [←eU];exact hw)
  have hk:(List.range (j-i).toNat)[k]? =some k:=by
   cases q:(List.range (j-i).toNat)[k]? with
   |none=>rw [q] at hx;cases hx
   |some z=>
    obtain ⟨a,b⟩:=cF.mp q;rw [List.getElem_range] at b;rw [b]
  rw [hk] at hx;cases hx;exact ⟨t',by rw [Qo,Int.mul_one]⟩
end
theorem uB(elt t0 i0 t1 i1:Expr)(f0 f1:List Expr)(scope:Scope)(pos:Pos)(it acc:Value)(env:Env):
  compTurn (.ListComp elt [⟨t0,i0,f0,0⟩,⟨t1,i1,f1,0⟩] scope pos) 0 it acc env=(do
   standAt i0.pos
   match ←pyNext it with
   |none=>pure (.done .next)
   |some v=>
    letOwnedTupleGo t0 it v
    assign t0 env v
    let ok ←forIn f0 true λc r=>if r=true then do let ok ←isTrue c env (eval c env);pure (ForInStep.yield ok) else pure (ForInStep.yield r)
    if ok=true then
     let x ←eval i1 env
     standAt i1.pos
     let x ←foldedSetIterable i1 env x
     let Jg ←holding [x] (pyIter x)
     let _ ←runOwn (.compStart (.ListComp elt [⟨t0,i0,f0,0⟩,⟨t1,i1,f1,0⟩] scope pos) 1 Jg acc env) env
     again (.compLoop (.ListComp elt [⟨t0,i0,f0,0⟩,⟨t1,i1,f1,0⟩] scope pos) 0 it acc env)
    else again (.compLoop (.ListComp elt [⟨t0,i0,f0,0⟩,⟨t1,i1,f1,0⟩] scope pos) 0 it acc env)):=by rfl
theorem uC(elt t0 i0 t1 i1:Expr)(f0 f1:List Expr)(scope:Scope)(pos:Pos)(it acc:Value)(env:Env):
  compTurn (.ListComp elt [⟨t0,i0,f0,0⟩,⟨t1,i1,f1,0⟩] scope pos) 1 it acc env=(do
   standAt i1.pos
   match ←pyNext it with
   |none=>pure (.done .next)
   |some v=>
    letOwnedTupleGo t1 it v
    assign t1 env v
    let ok ←forIn f1 true λc r=>if r=true then do let ok ←isTrue c env (eval c env);pure (ForInStep.yield ok) else pure (ForInStep.yield r)
    if ok=true then
     (do let _ ←call (.builtin "list.append") [acc,←eval elt env])
     again (.compLoop (.ListComp elt [⟨t0,i0,f0,0⟩,⟨t1,i1,f1,0⟩] scope pos) 1 it acc env)
    else again (.compLoop (.ListComp elt [⟨t0,i0,f0,0⟩,⟨t1,i1,f1,0⟩] scope pos) 1 it acc env)):=by rfl
section
variable {X XC:Cx} {elt i0 t0 i1 t1:Expr} {f0 f1:List Expr} {scope:Scope} {pos:Pos} {wi gJ:TI} {g g1:TG} {tt e8:TT} {te:TE} {src:List (Option Nat)} {NC:List Str}
theorem tN{it acc:Value}{env:Env}{R:Result→Shared→Prop}{s:Shared}{A:Around}
  (h0:codeAny (model X.prog X.w) A (.compLoop (.ListComp elt [⟨t0,i0,f0,0⟩,⟨t1,i1,f1,0⟩] scope pos) 1 it acc env) R s)
  (hp:∀(Q:Value→Shared→Prop)(E:Value→Shared→Prop),Q it s→wpAny (model X.prog X.w) A (pyIter it) Q E s):
  codeAny (model X.prog X.w) A (.compStart (.ListComp elt [⟨t0,i0,f0,0⟩,⟨t1,i1,f1,0⟩] scope pos) 1 it acc env) R s:=by
 refine codeAny_of_tree ?_;show wpAny _ _ ((compStart (.ListComp elt [⟨t0,i0,f0,0⟩,⟨t1,i1,f1,0⟩] scope pos) 1 it acc env).onRaise (λx=>do noteFrame x env;standAt theWindowsPlace)) _ _ s
 refine wpAny_notedAt ?_;unfold compStart;show wpAny _ _ (ask>>=_) _ _ s;refine wpAny_bind (wpAny_askSetting (wpAny_ite ?_))
 split
 ·first
   |exact wpAny_bind (wpAny_pure (wpAny_pure ⟨rfl,h0⟩))
   |exact wpAny_pure ⟨rfl,h0⟩
 ·refine wpAny_bind (wpAny_rule ?_)
  show wpAny _ _ (standAt i1.pos>>=_) _ _ s;exact wpAny_bind (wpAny_standAt (wpAny_bind (hp _ _ (wpAny_pure ⟨rfl,h0⟩))))
theorem Af{pins:List (Addr×Obj)}{s:Shared}{σ:St}{H:Hp}{it D:Addr}{fp:List Addr}{tn:Nat→Heap→Prop}{J:It}{R:Result→Shared→Prop}{N:St→Hp→Prop}
  (LC:XC.xe=λ_ _=>False) (hc:XC.calm=true) (I:Inv XC pins σ H s) (T:Turn XC.prog XC.w XC.K t1 J fp it tn) (st:tn 0 s.heap) (f2:∀b∈fp,fY XC pins H b)
  (hg:PG XC t1 g1) (ht:oM XC f1 e8) (he:PE XC elt te)
  (hW:∃W:Nat→Nat→St→Hp→Prop,(∃m,W 0 m σ H)∧∀i m cD H2,W i m cD H2→(J.stop i H2∧N cD H2)∨
   (J.go i H2∧∃N1:St→Hp→Prop,(∀ay H',N1 ay H'→∃m',m'<m∧W (i+1) m' ay H')∧∀x H3,J.yld i H2 x H3→g1 x cD H3 λcU H4=>e8 cU H4 λb H5=>
    if b=true then te cU H5 λv H6=>∃ys,H6 D=some (.lst ys)∧ys.length<sizeLine∧N1 cU (upd H6 D (.lst (ys++ [v]))) else N1 cU H5))
  (hR:∀ay H' s',Inv XC pins ay H' s'→N ay H'→R (.ok .next) s'):
  codeAny (model XC.prog XC.w) XC.A (.compStart (.ListComp elt [⟨t0,i0,f0,0⟩,⟨t1,i1,f1,0⟩] scope pos) 1 (.ref it) (.ref D) XC.env) R s:=by
 obtain ⟨W,⟨m0,w0⟩,turn⟩:=hW
 have jw:∀{α:Type}{t:Sem α}{Q:α→Shared→Prop}{E:Value→Shared→Prop}{s:Shared},wpAny (model XC.prog XC.w) XC.A t Q XC.xe s→wpAny (model XC.prog XC.w) XC.A t Q E s:=λ {α t Q E s} h=>
  wpAny_mono h (λ_ _ q=>q) λ_ _ f=>by rw [LC] at f;exact f.elim
 have stat:∀{H':Hp},(∀b∈fp,H' b=none)→∀b∈fp,fY XC pins H' b:=λhn b hb=>⟨hn b hb,(f2 b hb).2⟩
 have loop:codeAny (model XC.prog XC.w) XC.A (.compLoop (.ListComp elt [⟨t0,i0,f0,0⟩,⟨t1,i1,f1,0⟩] scope pos) 1 (.ref it) (.ref D) XC.env) R s:=by
  refine codeAny_loop rfl (λn s'=>∃i ay H',Inv XC pins ay H' s'∧tn i s'.heap∧(∀b∈fp,H' b=none)∧W i n ay H') (λn s' hI=>?_) m0 ⟨0,σ,H,I,st,λb hb=>(f2 b hb).1,w0⟩;obtain ⟨i,ay,H',I5,tY,oV,w5⟩:=hI;show wpAny _ XC.A ((compTurn (.ListComp elt [⟨t0,i0,f0,0⟩,⟨t1,i1,f1,0⟩] scope pos) 1 (.ref it) (.ref D) XC.env).onRaise (λx=>do noteFrame x XC.env;theTreesLotGoes x)) _ _ s'
  refine wpAny_noted ?_;rw [uC];refine wpAny_bind (wpAny_standAt (wpAny_bind ?_))
  rcases turn i n ay H' w5 with ⟨stop,qn⟩ | ⟨go,N1,hN,step⟩
  ·refine thn (T.done XC rfl rfl rfl hc i pins s' ay H' _ I5 (stat oV) tY stop) λr s6 ⟨hr,I6⟩=>?_
   subst hr;exact wpAny_pure (hR ay H' s6 I6 qn)
  ·refine thn (T.item XC rfl rfl rfl hc i pins s' ay H' _ I5 (stat oV) tY go) λr s6 ⟨u,hr,h6⟩=>?_
   subst hr;refine wpAny_bind (thn h6 λ_ s7 ⟨x,H7,I7,r7,y7,vS,Ik⟩=>?_);have GY:=I7.pinned (stat Ik) (T.obj _ _ vS)
   have nextT:∀{gr:St}{H8:Hp}{s8:Shared},Inv XC (pins++kU fp s7.heap) gr H8 s8→N1 gr H8→∃m,m<n∧∃i ay H',Inv XC pins ay H' s8∧tn i s8.heap∧(∀b∈fp,H' b=none)∧W i m ay H':=λ {gr H8 s8} I8 n8=>by
    obtain ⟨m',hm,w8⟩:=hN gr H8 n8;refine ⟨m',hm,i+1,gr,H8,I8.i6,T.keep _ _ _ vS λb hb o e=>(I8.pin (b,o) (cY _ (cY _ (dU hb e)))).1,λb hb=>?_,w8⟩;obtain ⟨o,e,d⟩:=T.obj _ _ vS b hb;exact (I8.pin (b,o) (cY _ (cY _ (dU hb e)))).2.1
   refine wpAny_bind (jw (thn (hg _ s7 ay H7 x u _ GY r7 (step x H7 y7)) λ_ s8 ⟨gr,H8,I8,q8⟩=>?_));refine wpAny_bind (jw (thn (ht _ s8 gr H8 _ I8 q8) λb s9 ⟨H9,I9,q9⟩=>?_));cases b with
   |false=>
    rw [if_neg cZ] at q9;exact wpAny_pure ⟨rfl,nextT I9 q9⟩
   |true=>
    rw [if_pos rfl] at q9;refine wpAny_bind (wpAny_bind (jw (thn (he _ s9 gr H9 _ I9 q9) λy zE ⟨v,yA,OE,Q9,ys,hD,hz,Q7⟩=>?_)));refine wpAny_bind (jw (thn (fW _ zE gr yA (.ref D) [v] _ [y] (λ_ H'=>N1 gr H') OE rfl (.cons Q9 .nil) ⟨_,ys,v,rfl,rfl,hD,hz,Q7⟩) λ_ Dz ⟨_,Fe,GX,_,Q8⟩=>?_));exact wpAny_pure (wpAny_pure ⟨rfl,nextT GX Q8⟩)
 exact tN (X:=XC) loop λQ E q=>T.self _ 0 _ _ _ st q
def tIn(g1:TG)(e8:TT)(te:TE)(D:Addr)(J:It)(N:St→Hp→Prop):St→Hp→Prop:=λσ H=>
 ∃W:Nat→Nat→St→Hp→Prop,(∃m,W 0 m σ H)∧∀i m cD H2,W i m cD H2→(J.stop i H2∧N cD H2)∨
  (J.go i H2∧∃N1:St→Hp→Prop,(∀ay H',N1 ay H'→∃m',m'<m∧W (i+1) m' ay H')∧∀x H3,J.yld i H2 x H3→g1 x cD H3 λcU H4=>e8 cU H4 λb H5=>
   if b=true then te cU H5 λv H6=>∃ys,H6 D=some (.lst ys)∧ys.length<sizeLine∧N1 cU (upd H6 D (.lst (ys++ [v]))) else N1 cU H5)
def X6(g:TG)(tt:TT)(gJ:TI)(g1:TG)(e8:TT)(te:TE)(D:Addr)(J:It)(Q:VK)(σ:St)(H:Hp):Prop:=
 ∃W:Nat→Nat→St→Hp→Prop,(∃m,W 0 m σ H)∧∀i m cD H2,W i m cD H2→
  (J.stop i H2∧Q (.ref D) H2)∨
  (J.go i H2∧∃N:St→Hp→Prop,(∀ay H',N ay H'→∃m',m'<m∧W (i+1) m' ay H')∧∀x H3,J.yld i H2 x H3→g x cD H3 λcU H4=>tt cU H4 λb H5=>
   if b=true then gJ cU H5 λJ1 H6=>tIn g1 e8 te D J1 N cU H6 else N cU H5)
def OA(wi:TI)(g:TG)(tt:TT)(gJ:TI)(g1:TG)(e8:TT)(te:TE)(src:List (Option Nat)):TE:=λσ H Q=>wi σ H λJ H1=>∀D,H1 D=none→X6 g tt gJ g1 e8 te D J Q (mR src σ) (upd H1 D (.lst []))
theorem Mh(hc:X.calm=true)(c:bp X scope)(fv:dj scope X.N src NC)(hi:PI X t0 i0 wi)
  (hg:∀ex s H,PG (cW X scope NC ex s H) t0 g) (ht:∀ex s H,oM (cW X scope NC ex s H) f0 tt) (wR:∀ex s H,PI (cW X scope NC ex s H) t1 i1 gJ) (P5:∀ex s H,PG (cW X scope NC ex s H) t1 g1)
  (Qp:∀ex s H,oM (cW X scope NC ex s H) f1 e8) (he:∀ex s H,PE (cW X scope NC ex s H) elt te)
  (hs:∀x,foldedSetIterable i0 X.env x=pure x:=by intro _;rfl) (F2:∀env x,foldedSetIterable i1 env x=pure x:=by intro _ _;rfl):
  PE X (.ListComp elt [⟨t0,i0,f0,0⟩,⟨t1,i1,f1,0⟩] scope pos) (OA wi g tt gJ g1 e8 te src):=by
 intro pins s σ H Q I h;rw [eval_ListComp];refine wpAny_comprehension_free (use:=none) rfl hs (gS (c.cells I.ok)) c.kind c.names (thn (hi pins s σ H _ I h) λv s1 h1=>thn h1 λF6 s2 h2=>?_);obtain ⟨it,fp,tn,J,H2,rfl,I2,T,jU,f2,hW⟩:=h2;obtain ⟨W,⟨m0,w0⟩,turn⟩:=hW s2.heap.objs.size I2.fresh;have I3:Inv X pins σ (upd H2 s2.heap.objs.size (.lst [])) {s2 with heap:=s2.heap.push {cls:= .type "list",data:= .seq ([]:List Value).toArray}}:=I2.Ju (its:= []) (t':=s2.toks) .nil (cS _)
 have QG:∀b∈fp,b<s2.heap.objs.size:=λb hb=>by
  obtain ⟨o,e,_⟩:=T.obj _ _ jU b hb;exact Heap.lt_size e
 have f3:∀b∈fp,fY X pins (upd H2 s2.heap.objs.size (.lst [])) b:=λb hb=>⟨by rw [ab (di (QG b hb))];exact (f2 b hb).1,(f2 b hb).2⟩
 refine wpAny_newObj_type ?_
 suffices key:∀s3:Shared,Inv X pins σ (upd H2 s2.heap.objs.size (.lst [])) s3→(∀b o,s2.heap.get? b=some o→s3.heap.get? b=some o)→
   wpAny (model X.prog X.w) X.A (newFunctionEnv scope X.env.globals (jd X.env scope.names []) [] X.env.qual none .none (some X.env)) (λsj BA=>
    codeAny (model X.prog X.w) X.A (.compStart (.ListComp elt [⟨t0,i0,f0,0⟩,⟨t1,i1,f1,0⟩] scope pos) 0 (.ref it) (.ref s2.heap.objs.size) {sj with scope:=relabel scope X.env}) (compPost (model X.prog X.w) X.A X.xe none (EP X pins σ Q) (.ref s2.heap.objs.size) sj.locals) BA) X.xe s3 from
  key _ I3 λb o e=>Heap.get?_push_of_some _ e
 intro s3 I3 Rw;have tX:tn 0 s3.heap:=T.keep _ _ _ jU λb _ o e=>Rw b o e
 have CV:∀b∈fp,b<s3.heap.objs.size:=λb hb=>by
  obtain ⟨o,e,_⟩:=T.obj _ _ tX b hb;exact Heap.lt_size e
 generalize Ul:upd H2 s2.heap.objs.size (.lst [])=H3 at I3 f3 w0;refine wpAny_newFunctionEnv c.nocell (by intro y hy;simp at hy) (λh1 yZ y3=>?_) c.kind
 have I4:=xr (src:=src) (NC:=NC) (ex:=fp) (tk:=s3.toks+([]:List (Str×Value)).length) I3 c fv f3 CV yZ y3;have Ku:tn 0 h1:=T.keep _ _ _ tX λb hb o e=>y3.extBut b o (di (CV b hb)) (Heap.get?_push_of_some _ e);generalize hX:cW X scope NC fp s3 H3=XC at I4
 have stat:∀{H':Hp},(∀b∈fp,H' b=none)→∀b∈fp,fY XC [] H' b:=λ {H'} hn b hb=>by
  subst hX;refine ⟨hn b hb,di (CV b hb),λz=>?_, .inl hb,λx d e=>?_,λp hp=>absurd (show p∈([]:List (Addr×Obj)) from hp) (by simp)⟩
  ·exact (I4.ok.exfs b hb) z
  ·exact (I4.ok.exf b hb).2 x d e
 have FQ:XC.calm=true:=by subst hX;exact hc
 have eP:XC.prog=X.prog:=by subst hX;rfl
 have ew:XC.w=X.w:=by subst hX;rfl
 have eK:XC.K=X.K:=by subst hX;rfl
 have eA:XC.A=X.A:=by subst hX;rfl
 have LC:XC.xe=λ_ _=>False:=by subst hX;rfl
 have P6:PG XC t0 g:=by subst hX;exact hg _ _ _
 have Qq:oM XC f0 tt:=by subst hX;exact ht _ _ _
 have hiC:PI XC t1 i1 gJ:=by subst hX;exact wR _ _ _
 have UI:PG XC t1 g1:=by subst hX;exact P5 _ _ _
 have Va:oM XC f1 e8:=by subst hX;exact Qp _ _ _
 have PX:PE XC elt te:=by subst hX;exact he _ _ _
 have jw:∀{α:Type}{t:Sem α}{Q:α→Shared→Prop}{E:Value→Shared→Prop}{s:Shared},wpAny (model XC.prog XC.w) XC.A t Q XC.xe s→wpAny (model X.prog X.w) X.A t Q E s:=λ {α t Q E s} h=>by
  rw [←eP,←ew,←eA];exact wpAny_mono h (λ_ _ q=>q) λ_ _ f=>by rw [LC] at f;exact f.elim
 have loop:codeAny (model X.prog X.w) X.A (.compLoop (.ListComp elt [⟨t0,i0,f0,0⟩,⟨t1,i1,f1,0⟩] scope pos) 0 (.ref it) (.ref s2.heap.objs.size) XC.env) (compPost (model X.prog X.w) X.A X.xe none (EP X pins σ Q) (.ref s2.heap.objs.size) s3.heap.objs.size)
   {s3 with heap:=h1,toks:=s3.toks+([]:List (Str×Value)).length}:=by
  refine codeAny_loop rfl (λn s'=>∃i ay H',Inv XC [] ay H' s'∧tn i s'.heap∧(∀b∈fp,H' b=none)∧W i n ay H') (λn s' hI=>?_) m0 ⟨0,_,_,I4,Ku,λb hb=>(f3 b hb).1,w0⟩;obtain ⟨i,ay,H',I5,tY,oV,w5⟩:=hI;show wpAny _ X.A ((compTurn (.ListComp elt [⟨t0,i0,f0,0⟩,⟨t1,i1,f1,0⟩] scope pos) 0 (.ref it) (.ref s2.heap.objs.size) XC.env).onRaise (λx=>do noteFrame x XC.env;theTreesLotGoes x)) _ _ s'
  refine wpAny_noted ?_;rw [uB];refine wpAny_bind (wpAny_standAt (wpAny_bind ?_))
  rcases turn i n ay H' w5 with ⟨stop,qn⟩ | ⟨go,N,hN,step⟩
  ·have hd:=T.done XC eP ew eK FQ i [] s' ay H' (notedBy (model X.prog X.w) X.A XC.env λe s'=>compPost (model X.prog X.w) X.A X.xe none (EP X pins σ Q) (.ref s2.heap.objs.size) s3.heap.objs.size (.error e) s') I5 (stat oV) tY stop
   rw [eA] at hd;refine thn hd λr s6 ⟨hr,I6⟩=>?_;subst hr;refine wpAny_pure ?_;subst hX;obtain ⟨m,hn,_⟩:=I6.loc;exact ⟨m,hn,λh' sb=>⟨.ref s2.heap.objs.size,H',comp_back I3 f3 I6 sb,rfl,qn⟩⟩
  ·have hd:=T.item XC eP ew eK FQ i [] s' ay H' (notedBy (model X.prog X.w) X.A XC.env λe s'=>compPost (model X.prog X.w) X.A X.xe none (EP X pins σ Q) (.ref s2.heap.objs.size) s3.heap.objs.size (.error e) s') I5 (stat oV) tY go
   rw [eA] at hd;refine thn hd λr s6 ⟨u,hr,h6⟩=>?_;subst hr;refine wpAny_bind (thn h6 λ_ s7 ⟨x,H7,I7,r7,y7,vS,Ik⟩=>?_);have GY:=I7.pinned (stat Ik) (T.obj _ _ vS)
   have nextT:∀{gr:St}{H8:Hp}{s8:Shared},Inv XC ([]++kU fp s7.heap) gr H8 s8→N gr H8→∃m,m<n∧∃i ay H',Inv XC [] ay H' s8∧tn i s8.heap∧(∀b∈fp,H' b=none)∧W i m ay H':=λ {gr H8 s8} I8 n8=>by
    obtain ⟨m',hm,w8⟩:=hN gr H8 n8;refine ⟨m',hm,i+1,gr,H8,I8.i6,T.keep _ _ _ vS λb hb o e=>(I8.pin (b,o) (cY _ (cY _ (dU hb e)))).1,λb hb=>?_,w8⟩;obtain ⟨o,e,d⟩:=T.obj _ _ vS b hb;exact (I8.pin (b,o) (cY _ (cY _ (dU hb e)))).2.1
   refine wpAny_bind (jw (thn (P6 _ s7 ay H7 x u _ GY r7 (step x H7 y7)) λ_ s8 ⟨gr,H8,I8,q8⟩=>?_));refine wpAny_bind (jw (thn (Qq _ s8 gr H8 _ I8 q8) λb s9 ⟨H9,I9,q9⟩=>?_));cases b with
   |false=>
    rw [if_neg cZ] at q9;exact wpAny_pure ⟨by subst hX;rfl,nextT I9 q9⟩
   |true=>
    rw [if_pos rfl] at q9;refine wpAny_bind (jw (thn (hiC _ s9 gr H9 _ I9 q9) λv1 zE ZZ=>?_));refine wpAny_bind (wpAny_standAt (wpAny_bind (wpAny_of_eq (F2 _ v1) (wpAny_bind (wpAny_holding (jw (thn ZZ λF6 Dz Z0=>?_)))))));obtain ⟨Jg,fp1,tn1,J1,Fe,rfl,GX,T1,XR,ZL,hin⟩:=Z0;refine wpAny_bind (wpAny_runOwn ?_);have tr:∀(cd:Code)(R:Result→Shared→Prop),codeAny (model XC.prog XC.w) XC.A cd R Dz→codeAny (model X.prog X.w) X.A cd R Dz:=λcd R h=>by rw [eP,ew,eA] at h;exact h
    exact tr _ _ (Af LC FQ GX T1 XR ZL UI Va PX hin λay H' s' Yr LZ=>wpAny_pure ⟨by subst hX;rfl,nextT Yr LZ⟩)
 subst hX;exact codeAny_compStart_list loop (T.self _ 0 _ _ _ Ku loop)
end
end L2
namespace KS
open PySem PySem.W PyProof.Rows
section
variable {prog:Program} {w:World} {A:Around} {E:Value→Shared→Prop} {s:Shared}
theorem Br{a:Addr}{vs:List Value}{n:Nat}{G:PySem.Fin→Shared→Prop}(ho:s.heap.get? a=some (seqObj "list" vs.toArray n))(h2:vs.length<2)
  (h:G (.done (.ret .none)) {s with heap:=sortedHeap s.heap a vs vs.toArray}):wpAny (model prog w) A (Builtin.«list.sort» ⟨[.ref a],[]⟩) G E s:=by
 rw [list_sort_plain];have la:a<s.heap.objs.size:=Heap.lt_size ho;refine wpAny_bind (listItems_at ho rfl (wpAny_bind (listUpdate_at ho rfl ?_)));obtain ⟨e1,wW⟩:∃k,(s.heap.update a (Obj.mapSeq λ_=> #[])).get? a=some (seqObj "list" #[] k):=⟨_,get?_update_seq ho (λ_=> #[])⟩;refine wpAny_bind (seqEpoch_at wW rfl (wpAny_bind (wpAny_newTuple (wpAny_bind (wpAny_newList (wpAny_holding ?_))))));have IS:(((s.heap.update a (Obj.mapSeq λ_=> #[])).push (seqObj "tuple" vs.toArray 0)).push (seqObj "list" #[] 0)).get? a=some (seqObj "list" #[] e1):=Heap.get?_push_of_some _ (Heap.get?_push_of_some _ wW);show wpAny (model prog w) A _ G E {s with heap:=((s.heap.update a (Obj.mapSeq λ_=> #[])).push (seqObj "tuple" vs.toArray 0)).push (seqObj "list" #[] 0)}
 dsimp only;have lz:vs.toArray.size<2:=by simpa using h2
 rw [if_pos lz,if_pos lz];refine wpAny_bind (wpAny_pure ?_);rw [StateT.run_pure];refine wpAny_bind (wpAny_pure ?_);dsimp only
 have ez:(arrOf (SortSt.mk' general' (vs.toArray.zip vs.toArray) #[] 7 none)).map (·.2)=vs.toArray:=by
  show (vs.toArray.zip vs.toArray).map (·.2)=vs.toArray;apply Array.toList_inj.mp;simp [List.map_snd_zip]
 refine wpAny_bind (seqEpoch_at IS rfl (wpAny_bind (listUpdate_at IS rfl ?_ (hsz2:=by rw [ez];rw [sizeLine_eq];omega))))
 simp only [bne_self_eq_false,fN,if_false];have h':=h;unfold sortedHeap at h';rw [ez];exact wpAny_pure h'
theorem oG{l:Addr}{vs:List Value}{G:Value→Shared→Prop}(hl:s.heap.IsList l vs.toArray)(h2:vs.length<2)(h:G (.ref (s.heap.objs.size+1)) {s with heap:=sortedAll s.heap vs vs.toArray}):
  wpAny (model prog w) A (call (.builtin "sorted") [.ref l]) G E s:=by
 refine Calls.call_function_entry kind_sorted plain_sorted entry_sorted (args_sorted1 (.ref l)) ?_;unfold Builtin.«sorted»;have l2:vs.length≤sizeLine:=by rw [sizeLine_eq];omega
 refine wpAny_bind (m:=checkCount "sorted" 1 1 _) (wpAny_pure (wpAny_bind (collect_list hl (wpAny_bind (wpAny_newList ?_ l2)) l2)));have z1:((s.heap.push (seqObj "list" #[] 0)).update s.heap.objs.size (Obj.mapSeq (·++vs.toArray))).objs.size=s.heap.objs.size+1:=by rw [Heap.size_update,size_push']
 have z2:(((s.heap.push (seqObj "list" #[] 0)).update s.heap.objs.size (Obj.mapSeq (·++vs.toArray))).push (seqObj "list" vs.toArray 0)).get? (s.heap.objs.size+1)=some (seqObj "list" vs.toArray 0):=by
  rw [←z1];exact Heap.get?_push_size _ rfl
 show wpAny (model prog w) _ _ _ E {s with heap:=((s.heap.push (seqObj "list" #[] 0)).update s.heap.objs.size (Obj.mapSeq (·++vs.toArray))).push (seqObj "list" vs.toArray 0)}
 rw [z1];exact wpAny_bind (wpAny_holding (wpAny_call_entry slot_list_sort ⟨_,z2,rfl⟩ entry_list_sort (Br z2 h2 ⟨_,rfl,wpAny_pure ⟨_,rfl,h⟩⟩) (args_list_sort _)))
end
end KS
namespace L2
open PySem PySem.Spec PyProof.Rows
section
variable {X:Cx} {pins:List (Addr×Obj)} {σ:St} {H:Hp} {s:Shared} {h':Heap}
end
def gG(k:Nat×Nat):List V:= [.int (k.1:Nat), .int (k.2:Nat)]
def oN(H:Hp)(L:List (Addr×(Nat×Nat))):Prop:=∀p∈L,H p.1=some (.tup (gG p.2))
def ji(a b:Nat×Nat):Bool:=if a.1=b.1 then decide (a.2<b.2) else decide (a.1<b.1)
theorem rJ(x y:Nat×Nat):ji x y=true↔x.1<y.1∨(x.1=y.1∧x.2<y.2):=by
 unfold ji
 by_cases e:x.1=y.1
 ·rw [if_pos e,decide_eq_true_iff]
  omega
 ·rw [if_neg e,decide_eq_true_iff]
  omega
theorem F9(x y z:Nat×Nat)(h:ji x z=true):ji x y=true∨ji y z=true:=by
 rw [rJ] at*;rw [rJ];omega
theorem Jp(x y z:Nat×Nat)(h:ji x y=true)(h':ji y z=true):ji x z=true:=by
 rw [rJ] at*;omega
theorem u9{a b:Nat×Nat}(h:ji b a=false):Wb.lexLe a b:=by
 unfold ji at h;unfold Wb.lexLe
 by_cases e:b.1=a.1
 ·rw [if_pos e] at h
  have:=of_decide_eq_false h
  right;omega
 ·rw [if_neg e] at h
  have:=of_decide_eq_false h
  left;omega
theorem LM{prog:Program}{w:World}{A:Around}{E:Value→Shared→Prop}{s:Shared}{x y:Addr}{a1 a2 b1 b2:Int}{t1 t2 u1 u2:Tok}{C:Bool→Shared→Prop}
  (hx:IsTup s.heap x [.int a1 t1, .int a2 t2].toArray) (hy:IsTup s.heap y [.int b1 u1, .int b2 u2].toArray)
  (h:C (if a1=b1 then decide (a2<b2) else decide (a1<b1)) s):wpAny (model prog w) A (keyLt' (tuples' true) (.ref x) (.ref y)) C E s:=by
 obtain ⟨ox,hox,_,nx,dx⟩:=hx;obtain ⟨oy,hoy,_,ny,dy⟩:=hy;refine PySem.W.kat_lt hox dx hoy dy ?_;refine PySem.W.kat_cons (SeqAt.EqAt.int_int a1 t1 b1 u1 prog w _ _ ?_)
 by_cases e1:a1=b1
 ·rw [if_pos e1] at h
  rw [show (a1==b1)=true by simpa using e1]
  refine PySem.W.kat_yes (PySem.W.kat_cons (SeqAt.EqAt.int_int a2 t2 b2 u2 prog w _ _ ?_))
  by_cases e2:a2=b2
  ·rw [show (a2==b2)=true by simpa using e2]
   refine PySem.W.kat_yes (PySem.W.kat_nil ?_);rw [show decide (a2<b2)=false by simp;omega] at h
   simpa using h
  ·rw [show (a2==b2)=false by simpa using e2]
   refine PySem.W.kat_no (PySem.W.kat_one _ _ ?_);exact lt_int h
 ·rw [if_neg e1] at h
  rw [show (a1==b1)=false by simpa using e1]
  exact PySem.W.kat_no (oneLt_int h)
section
variable {X:Cx}
theorem pM:∀{as:List Addr}{us:List Value},Vals (as.map V.ref) us→us=as.map Value.ref
 | [],_, .nil=>rfl
 |a::as,_, .cons r t=>by cases r;rw [pM t];rfl
theorem pD:∀as:List Addr,Vals (as.map V.ref) (as.map Value.ref)
 | []=> .nil
 |a::as=> .cons rfl (pD as)
theorem Gp{pins:List (Addr×Obj)}{σ:St}{H:Hp}{s:Shared}{a:Addr}{k:Nat×Nat}(I:Inv X pins σ H s)(h:H a=some (.tup (gG k))):
  ∃t u,IsTup s.heap a [.int (k.1:Nat) t, .int (k.2:Nat) u].toArray:=by
 obtain ⟨its,r,p,_⟩:=I.tuple (dX.of h);obtain ⟨u1,u2,rfl,⟨t,rfl⟩,⟨u,rfl⟩⟩:=Vals.two r;exact ⟨t,u,p⟩
end
end L2
set_option maxHeartbeats 4000000
namespace L2
open PySem
theorem bp.of{X:Cx}{scope:Scope}(sc:Scope)(e:X.env.scope=sc)(k:scope.kind= .function)(a:∀x∈scope.names,x.2= .local→scope.names.lookup x.1=some .local)(b:∀x∈scope.names,x.2≠ .cell)
  (c:∀x∈scope.names,x.2= .free→sc.names.lookup x.1=some .cell∨sc.names.lookup x.1=some .free):bp X scope:=⟨k,a,b,λx hx hf=>by rw [←e] at c;exact c x hx hf⟩
theorem xJ{K:PySem.W.Frag}{a:Addr}{xs:List V}{g:TG}{tb:TS}{D:Ends}{σ:St}{H:Hp}(Pv:Nat→St→Hp→Prop)(h0:Pv 0 σ H)(hl:∀i σ H,i≤xs.length→Pv i σ H→aH K H a xs)
  (hs:∀(i:Nat) x t σ H,xs[i]? =some x→H t=none→Pv i σ H→g (.ref t) σ (upd H t (.tup [.int (i:Int),x])) λcD H2=>tb {D with nx:=Pv (i+1),ct:=Pv (i+1),bk:=D.nx} cD H2) (hd:∀σ H,Pv xs.length σ H→D.nx σ H):
  ∃W:Nat→Nat→St→Hp→Prop,(∃m,W 0 m σ H)∧∀i m σ H,W i m σ H→
   ((Ff K a).stop i H∧D.nx σ H)∨((Ff K a).go i H∧∃N:St→Hp→Prop,(∀ay H',N ay H'→∃m',m'<m∧W (i+1) m' ay H')∧∀x H',(Ff K a).yld i H x H'→g x σ H' λcD H2=>tb {D with nx:=N,ct:=N,bk:=D.nx} cD H2):=by
 refine ⟨λi m σ H=>m=xs.length-i∧i≤xs.length∧Pv i σ H,⟨xs.length,by simp,cS _,h0⟩,?_⟩
 rintro i m σ H ⟨rfl,hi,p⟩;have q:=hl i σ H hi p
 by_cases bG:i<xs.length
 ·refine .inr ⟨⟨xs,xs[i],q,by simp [bG]⟩,Pv (i+1),λay H' p'=>⟨xs.length-(i+1),by omega,rfl,bG,p'⟩,λx H' y=>?_⟩
  obtain ⟨t,v,rfl,ht,rfl,hv⟩:=y;exact hs i v t σ H (hv xs q) ht p
 ·have e:i=xs.length:=by omega
  subst e;exact .inl ⟨⟨xs,q,aV _⟩,hd σ H p⟩
theorem xQ{X:Cx}{K:PySem.W.Frag}(e:X.K=K:=by rfl):wI X (EK K):=by rw [←e];exact bx
theorem AR{X:Cx}{K:PySem.W.Frag}(e:X.K=K:=by rfl):wI X (Ow K):=by rw [←e];exact Ez
theorem C6{X:Cx}{K:PySem.W.Frag}(e:X.K=K:=by rfl):OpR X (compareOp .NotIn) (Mu K true):=by rw [←e];exact oq
structure bX (K:PySem.W.Frag) (mg:Str→Option Value) (x:Str) (st:Stmt) (ps:List Str) where
 f:Addr
 fd:FuncData
 F:wH K x x st f fd
 b:Binds K fd ps []
 m:mg x=some (.ref f)
theorem av{H:Hp}{p:Addr}(h:H p=none)(o:HO):aC H (upd H p o):=λb u q=>by rw [ab (ah q h)];exact q
theorem small{n:Nat}(h:n≤1000):n≤sizeLine:=Nat.le_of_lt (bF h)
end L2
namespace TS
open PySem PyProof.Rows
def eB:Bool→Keyed→Array Keyed→Nat→Nat→Nat→StateT SortSt Sem (Option Nat):=sortPriv%PySem.Builtin.gallop
def nI:Array Keyed→Array Keyed→StateT SortSt Sem (Array Keyed):=sortPriv%PySem.Builtin.mergeLo
def nH:Array Keyed→Array Keyed→StateT SortSt Sem (Array Keyed):=sortPriv%PySem.Builtin.mergeHi
def setMinGallop':Nat→StateT SortSt Sem Unit:=sortPriv%PySem.Builtin.setMinGallop
def jc(left:Bool)(key:Keyed)(arr:Array Keyed)(base i:Nat):StateT SortSt Sem (Option Bool):=do
 let x ←elem' arr (base+i)
 if left then lt' x key else return (←lt' key x).map (!·)
theorem AA(left:Bool)(key:Keyed)(arr:Array Keyed)(base n hint:Nat):eB left key arr base n hint=(do
 let mut lastofs:=0
 let mut ofs:=1
 let mut lo:=0
 let mut hi:=0
 let some right ←jc left key arr base hint|return none
 if right then
  let qm:=n-hint
  for _ in [0:n] do
   if ofs≥qm then break
   let some more ←jc left key arr base (hint+ofs) |return none
   if !more then break
   lastofs:=ofs
   ofs:=2*ofs+1
  lo:=hint+lastofs+1
  hi:=hint+min ofs qm
 else
  let qm:=hint+1
  for _ in [0:n] do
   if ofs≥qm then break
   let some found ←jc left key arr base (hint-ofs) |return none
   if found then break
   lastofs:=ofs
   ofs:=2*ofs+1
  lo:=hint+1-min ofs qm
  hi:=hint-lastofs
 for _ in [0:n] do
  if lo≥hi then break
  let m:=lo+(hi-lo) / 2
  let some more ←jc left key arr base m|return none
  if more then lo:=m+1 else hi:=m
 return some hi):=rfl
def gn(O:KeyOrd)(key:Keyed→O.α)(S:Keyed→Prop)(k0:SortKind)(M:Model)(A:Around)(E:Value→Shared→Prop)(s:Shared):Prop:=
 ∀(x y:Keyed)(st:SortSt)(Q:Option Bool→SortSt→Prop),S x→S y→kindOf st=k0→Q (some (O.blt (key x) (key y))) st→wpS M A E s (lt' x y) Q st
section
variable {O:KeyOrd} {key:Keyed→O.α} {S:Keyed→Prop} {k0:SortKind} {M:Model} {A:Around} {E:Value→Shared→Prop} {s:Shared} {st:SortSt}
def dk(O:KeyOrd)(key:Keyed→O.α)(left:Bool)(k x:Keyed):Bool:=if left then O.blt (key x) (key k) else !O.blt (key k) (key x)
theorem aU{arr:Array Keyed}{i:Nat}{x:Keyed}{Q:Keyed→SortSt→Prop}(h:arr[i]? =some x)(q:Q x st):wpS M A E s (elem' arr i) Q st:=by
 rw [elem'_eq,h];exact wpS_pure q
theorem jJ(C:gn O key S k0 M A E s){left:Bool}{k x:Keyed}{arr:Array Keyed}{base i:Nat}{Q:Option Bool→SortSt→Prop}(hx:arr[base+i]? =some x)(sk:S k)(sx:S x)(hk:kindOf st=k0)
  (q:Q (some (dk O key left k x)) st):wpS M A E s (jc left k arr base i) Q st:=by
 unfold jc;refine wpS_bind (aU hx ?_);unfold dk at q;cases left with
 |true=>exact C _ _ _ _ sx sk hk q
 |false=>exact wpS_bind (C _ _ _ _ sk sx hk (wpS_pure q))
structure Seg (S:Keyed→Prop) (arr:Array Keyed) (base n:Nat) (g:Nat→Keyed):Prop where
 at_:∀i,i<n→arr[base+i]? =some (g i)
 mem:∀i,i<n→S (g i)
theorem gd(C:gn O key S k0 M A E s){left:Bool}{k:Keyed}{arr:Array Keyed}{base n hint:Nat}{g:Nat→Keyed}{Q:Option Nat→SortSt→Prop}(G:Seg S arr base n g)(sk:S k)(hk:kindOf st=k0)(hh:hint<n)
  (mono:∀i j,i≤j→j<n→dk O key left k (g j)=true→dk O key left k (g i)=true)
  (q:∀p,p≤n→(∀i,i<p→dk O key left k (g i)=true)→(∀i,p≤i→i<n→dk O key left k (g i)=false)→Q (some p) st):wpS M A E s (eB left k arr base n hint) Q st:=by
 rw [AA];refine wpS_bind (jJ C (G.at_ _ hh) sk (G.mem _ hh) hk ?_)
 have CY:∀i j,i≤j→j<n→dk O key left k (g i)=false→dk O key left k (g j)=false:=λi j dm hj h=>by
  cases e:dk O key left k (g j) with
  |false=>rfl
  |true=>rw [mono i j dm hj e] at h;cases h
 have fin:∀lo hi,lo≤hi→hi≤n→(∀i,i<lo→dk O key left k (g i)=true)→(∀i,hi≤i→i<n→dk O key left k (g i)=false)→
   wpS M A E s (do
    let mut lo:=lo
    let mut hi:=hi
    for _ in [0:n] do
     if lo≥hi then break
     let m:=lo+(hi-lo) / 2
     let some more ←jc left k arr base m|return none
     if more then lo:=m+1 else hi:=m
    return some hi) Q st:=by
  intro lo hi hle hn h1 h2;dsimp only
  refine wpS_bind (wpS_mono (wpS_forRange (I:=λx c ag=>ag=st∧∃lo hi,c=(none,lo,hi)∧lo≤hi∧hi≤n∧hi-lo≤n-x∧(∀i,i<lo→dk O key left k (g i)=true)∧(∀i,hi≤i→i<n→dk O key left k (g i)=false))
   (Q:=λc ag=>ag=st∧∃hi,c=(none,hi,hi)∧hi≤n∧(∀i,i<hi→dk O key left k (g i)=true)∧(∀i,hi≤i→i<n→dk O key left k (g i)=false)) ?step ?fin ⟨rfl,lo,hi,rfl,hle,hn,by omega,h1,h2⟩) ?post)
  case fin=>
   rintro c ag ⟨rfl,lo,hi,rfl,a1,a2,a3,a4,a5⟩
   have:lo=hi:=by omega
   subst this;exact ⟨rfl,lo,rfl,a2,a4,a5⟩
  case step=>
   rintro x c ag _ hx ⟨rfl,lo,hi,rfl,a1,a2,a3,a4,a5⟩;dsimp only
   by_cases lN:lo≥hi
   ·rw [if_pos lN]
    have:lo=hi:=by omega
    subst this;exact wpS_pure ⟨rfl,lo,rfl,a2,a4,a5⟩
   ·rw [if_neg lN]
    have hm:lo+(hi-lo) / 2<n:=by omega
    refine wpS_bind (jJ C (G.at_ _ hm) sk (G.mem _ hm) hk ?_);cases e:dk O key left k (g (lo+(hi-lo) / 2)) with
    |true=>
     dsimp only;rw [if_pos rfl];exact wpS_pure ⟨rfl,_,_,rfl,by omega,a2,by omega,λi hi=>mono _ _ (by omega) hm e,a5⟩
    |false=>
     dsimp only;rw [if_neg (by decide)]
     exact wpS_pure ⟨rfl,_,_,rfl,by omega,by omega,by omega,a4,λi h1 h2=>CY _ _ h1 h2 e⟩
  case post=>
   rintro c ag ⟨rfl,hi,rfl,b1,b2,b3⟩;exact wpS_pure (q _ b1 b2 b3)
 dsimp only;cases e0:dk O key left k (g hint) with
 |true=>
  rw [if_pos rfl]
  refine wpS_bind (wpS_mono (wpS_forRange (I:=λx c ag=>ag=st∧∃la o,c=(none,la,o)∧la<o∧x<o∧hint+la<n∧dk O key left k (g (hint+la))=true)
   (Q:=λc ag=>ag=st∧∃la o,c=(none,la,o)∧la<o∧hint+la<n∧dk O key left k (g (hint+la))=true∧(n-hint≤o∨(hint+o<n∧dk O key left k (g (hint+o))=false))) ?step ?fin2 ⟨rfl,0,1,rfl,by omega,by omega,by omega,e0⟩) ?post)
  case fin2=>
   rintro c ag ⟨rfl,la,o,rfl,a1,a2,a3,a4⟩;exact ⟨rfl,la,o,rfl,a1,a3,a4, .inl (by omega)⟩
  case step=>
   rintro x c ag _ hx ⟨rfl,la,o,rfl,a1,a2,a3,a4⟩;dsimp only
   by_cases lN:o≥n-hint
   ·rw [if_pos lN]
    exact wpS_pure ⟨rfl,la,o,rfl,a1,a3,a4, .inl lN⟩
   ·rw [if_neg lN]
    have hm:hint+o<n:=by omega
    refine wpS_bind (jJ C (G.at_ _ hm) sk (G.mem _ hm) hk ?_);cases e:dk O key left k (g (hint+o)) with
    |true=>
     dsimp only;rw [if_neg (by decide)]
     exact wpS_pure ⟨rfl,_,_,rfl,by omega,by omega,hm,e⟩
    |false=>
     dsimp only;rw [if_pos (by decide)]
     exact wpS_pure ⟨rfl,la,o,rfl,a1,a3,a4, .inr ⟨hm,e⟩⟩
  case post=>
   rintro c ag ⟨rfl,la,o,rfl,b1,b2,b3,b4⟩;refine fin (hint+la+1) (hint+min o (n-hint)) (by omega) (by omega) (λi hi=>mono _ _ (by omega) b2 b3) (λi h1 h2=>?_)
   rcases b4 with b4| ⟨b4,b5⟩
   ·omega
   ·exact CY _ _ (by omega) h2 b5
 |false=>
  rw [if_neg (by decide)]
  refine wpS_bind (wpS_mono (wpS_forRange (I:=λx c ag=>ag=st∧∃la o,c=(none,la,o)∧la<o∧x<o∧la≤hint∧dk O key left k (g (hint-la))=false)
   (Q:=λc ag=>ag=st∧∃la o,c=(none,la,o)∧la<o∧la≤hint∧dk O key left k (g (hint-la))=false∧(hint+1≤o∨(o≤hint∧dk O key left k (g (hint-o))=true))) ?step ?fin2 ⟨rfl,0,1,rfl,by omega,by omega,by omega,e0⟩) ?post)
  case fin2=>
   rintro c ag ⟨rfl,la,o,rfl,a1,a2,a3,a4⟩;exact ⟨rfl,la,o,rfl,a1,a3,a4, .inl (by omega)⟩
  case step=>
   rintro x c ag _ hx ⟨rfl,la,o,rfl,a1,a2,a3,a4⟩;dsimp only
   by_cases lN:o≥hint+1
   ·rw [if_pos lN]
    exact wpS_pure ⟨rfl,la,o,rfl,a1,a3,a4, .inl lN⟩
   ·rw [if_neg lN]
    have hm:hint-o<n:=by omega
    refine wpS_bind (jJ C (G.at_ _ hm) sk (G.mem _ hm) hk ?_);cases e:dk O key left k (g (hint-o)) with
    |true=>
     dsimp only;rw [if_pos rfl];exact wpS_pure ⟨rfl,la,o,rfl,a1,a3,a4, .inr ⟨by omega,e⟩⟩
    |false=>
     dsimp only;rw [if_neg (by decide)]
     exact wpS_pure ⟨rfl,_,_,rfl,by omega,by omega,by omega,e⟩
  case post=>
   rintro c ag ⟨rfl,la,o,rfl,b1,b2,b3,b4⟩;refine fin (hint+1-min o (hint+1)) (hint-la) (by omega) (by omega) (λi hi=>?_) (λi h1 h2=>CY _ _ h1 h2 b3)
   rcases b4 with b4| ⟨b4,b5⟩
   ·omega
   ·exact mono _ _ (by omega) (by omega) b5
end
section
variable {O:KeyOrd} {key:Keyed→O.α} {S:Keyed→Prop} {k0:SortKind} {M:Model} {A:Around} {E:Value→Shared→Prop} {s:Shared} {st bD:SortSt}
def ky(O:KeyOrd)(key:Keyed→O.α)(xs:Array Keyed)(i:Nat):O.α:=key (xs[i]?.getD (.none, .none))
theorem gX{xs ys:Array Keyed}{i j:Nat}(h:xs[i]? =ys[j]?):ky O key xs i=ky O key ys j:=by unfold ky;rw [h]
def iM(O:KeyOrd)(key:Keyed→O.α)(xs:Array Keyed)(a b:Nat):Prop:=∀i j,a≤i→i≤j→j<b→O.kle (ky O key xs i) (ky O key xs j)
def Fd(O:KeyOrd)(key:Keyed→O.α)(xs:Array Keyed)(a b:Nat):Prop:=∀i j,a≤i→i≤j→j<b→O.kle (ky O key xs j) (ky O key xs i)
structure gq (bD st:SortSt) (lo hi:Nat):Prop where
 perm:(arrOf st).Perm (arrOf bD)
 kind:kindOf st=kindOf bD
 failed:failedOf st=failedOf bD
 pend:pendingOf st=pendingOf bD
 out:∀i,i<lo∨hi≤i→(arrOf st)[i]? =(arrOf bD)[i]?
theorem gq.refl(st:SortSt)(lo hi:Nat):gq st st lo hi:=⟨.refl _,rfl,rfl,rfl,λ_ _=>rfl⟩
theorem gq.trans{zJ jU:SortSt}{lo hi:Nat}(a:gq bD zJ lo hi)(b:gq zJ jU lo hi):gq bD jU lo hi:=
 ⟨b.perm.trans a.perm,b.kind.trans a.kind,b.failed.trans a.failed,b.pend.trans a.pend,λi h=>(b.out i h).trans (a.out i h)⟩
theorem gq.size{lo hi:Nat}(a:gq bD st lo hi):(arrOf st).size=(arrOf bD).size:=a.perm.size_eq
theorem gq.mirror{lo hi i j:Nat}(fj:lo≤i)(hj:j≤hi)(hs:j≤(arrOf st).size):gq st (setArr st (mirror (arrOf st) i j ((j-i) / 2))) lo hi:=
 ⟨mirror_perm _ _ _ _,rfl,rfl,rfl,λk h=>by
  show (PyProof.Rows.mirror (arrOf st) i j ((j-i) / 2))[k]? =_;rw [getElem?_mirror_all hs,if_neg (by omega)]⟩
theorem gq.bubble{lo hi src d:Nat}(hd:d≤src)(h1:lo≤src-d)(h2:src<hi)(hs:src<(arrOf st).size):gq st (setArr st (bubble (arrOf st) src d)) lo hi:=
 ⟨bubble_perm _ _ _,rfl,rfl,rfl,λk h=>by
  show (PyProof.Rows.bubble (arrOf st) src d)[k]? =_;rw [getElem?_bubble hs d hd,if_neg (by omega),if_neg (by omega)]⟩
theorem ph{xs:Array Keyed}{i j:Nat}(hj:j≤xs.size)(k:Nat):ky O key (mirror xs i j ((j-i) / 2)) k=if i≤k∧k<j then ky O key xs (i+j-1-k) else ky O key xs k:=by
 have e:=getElem?_mirror_all (i:=i) hj k
 by_cases h1:i≤k∧k<j
 ·rw [if_pos h1] at e ⊢;exact gX e
 ·rw [if_neg h1] at e ⊢;exact gX e
theorem fG{xs:Array Keyed}{i j:Nat}(hj:j≤xs.size)(heq:∀k,i≤k→k<j→ky O key xs k=ky O key xs (j-1))(k:Nat):ky O key (mirror xs i j ((j-i) / 2)) k=ky O key xs k:=by
 rw [ph hj]
 split
 ·rw [heq _ (by omega) (by omega),heq k (by omega) (by omega)]
 ·rfl
theorem u0{xs:Array Keyed}{src d:Nat}(hs:src<xs.size)(hd:d≤src)(k:Nat):
  ky O key (bubble xs src d) k=if k=src-d then ky O key xs src else if src-d<k∧k≤src then ky O key xs (k-1) else ky O key xs k:=by
 have e:=getElem?_bubble hs d hd k
 by_cases h1:k=src-d
 ·rw [if_pos h1] at e ⊢;exact gX e
 ·rw [if_neg h1] at e ⊢
  by_cases h2:src-d<k∧k≤src
  ·rw [if_pos h2] at e ⊢;exact gX e
  ·rw [if_neg h2] at e ⊢;exact gX e
structure Ok (S:Keyed→Prop) (k0:SortKind) (st:SortSt):Prop where
 mem:∀p,p∈(arrOf st).toList→S p
 kind:kindOf st=k0
theorem Ok.step{lo hi:Nat}(o:Ok S k0 bD)(a:gq bD st lo hi):Ok S k0 st:=
 ⟨λp hp=>o.mem p ((E6.mp a.perm).mem_iff.mp hp),a.kind.trans o.kind⟩
theorem Ok.at{i:Nat}(o:Ok S k0 st)(hi:i<(arrOf st).size):(arrOf st)[i]? =some ((arrOf st)[i]?.getD (.none, .none))∧S ((arrOf st)[i]?.getD (.none, .none)):=by
 have e:(arrOf st)[i]? =some (arrOf st)[i]:=getElem?_pos _ i hi;rw [e];exact ⟨rfl,o.mem _ (by simp)⟩
theorem mW(C:gn O key S k0 M A E s){i j:Nat}{Q:Option Bool→SortSt→Prop}(o:Ok S k0 st)(hi:i<(arrOf st).size)(hj:j<(arrOf st).size)
  (q:Q (some (O.blt (ky O key (arrOf st) i) (ky O key (arrOf st) j))) st):wpS M A E s (ltAt' i j) Q st:=by
 rw [ltAt'_eq];obtain ⟨e1,s1⟩:=o.at hi;obtain ⟨e2,s2⟩:=o.at hj;refine wpS_bind (wpS_get (wpS_bind (aU e1 (wpS_bind (aU e2 (C _ _ _ _ s1 s2 o.kind q))))))
theorem wpS_binarySort(C:gn O key S k0 M A E s){lo n ok:Nat}{Q:Bool→SortSt→Prop}(o:Ok S k0 st)(hn:lo+n≤(arrOf st).size)(hok:ok≤n)(hs:iM O key (arrOf st) lo (lo+ok))
  (h:∀ag,gq st ag lo (lo+n)→iM O key (arrOf ag) lo (lo+n)→Q true ag):wpS M A E s (binarySort' lo n ok) Q st:=by
 rw [binarySort'_eq]
 refine wpS_bind (wpS_mono (wpS_forRange (I:=λk c ag=>c=(none,())∧gq st ag lo (lo+n)∧iM O key (arrOf ag) lo (lo+min k n))
  (Q:=λc ag=>c=(none,())∧gq st ag lo (lo+n)∧iM O key (arrOf ag) lo (lo+n)) ?step ?fin ?init) ?post)
 case post=>
  rintro c ag ⟨rfl,jv,fk⟩;exact wpS_pure (h ag jv fk)
 case init=>
  refine ⟨rfl, .refl _ _ _,λi j hi dm hj=>?_⟩
  by_cases h1:ok=0
  ·have:i=j:=by omega
   subst this;exact KeyOrd.kle_refl _
  ·exact hs i j hi dm (by omega)
 case fin=>
  rintro c ag ⟨hc,jv,fk⟩;refine ⟨hc,jv,?_⟩
  rwa [show min (max (max ok 1) n) n=n by omega] at fk
 case step=>
  rintro k c ag hak hkn ⟨rfl,jv,fk⟩;rw [show min k n=k by omega] at fk
  have o':=o.step jv;have fS:=jv.size;have hk:lo+k<(arrOf ag).size:=by omega
  refine wpS_bind (wpS_mono (wpS_forRange (I:=λx c cz=>cz=ag∧∃l r,c=(none,l,r)∧l≤r∧r≤k∧r-l≤k-x∧
    (∀i,i<l→O.kle (ky O key (arrOf ag) (lo+i)) (ky O key (arrOf ag) (lo+k)))∧(∀i,r≤i→i<k→O.klt (ky O key (arrOf ag) (lo+k)) (ky O key (arrOf ag) (lo+i))))
   (Q:=λc cz=>cz=ag∧∃l r,c=(none,l,r)∧l≤k∧
    (∀i,i<l→O.kle (ky O key (arrOf ag) (lo+i)) (ky O key (arrOf ag) (lo+k)))∧(∀i,l≤i→i<k→O.klt (ky O key (arrOf ag) (lo+k)) (ky O key (arrOf ag) (lo+i)))) ?istep ?ifin ?iinit) ?ipost)
  case iinit=>exact ⟨rfl,0,k,rfl,by omega,by omega,by omega,λi hi=>by omega,λi h1 h2=>by omega⟩
  case ifin=>
   rintro c cz ⟨rfl,l,r,rfl,hlr,Ql,hm,AF,Cy⟩
   have:l=r:=by omega
   subst this;exact ⟨rfl,l,l,rfl,Ql,AF,Cy⟩
  case istep=>
   rintro x c cz _ hxk ⟨rfl,l,r,rfl,hlr,Ql,hm,AF,Cy⟩;dsimp only
   by_cases lN:l≥r
   ·rw [if_pos lN]
    have:l=r:=by omega
    subst this;exact wpS_pure ⟨rfl,l,l,rfl,Ql,AF,Cy⟩
   ·rw [if_neg lN]
    refine wpS_bind (mW C o' hk (by omega) ?_)
    cases mm:O.blt (ky O key (arrOf cz) (lo+k)) (ky O key (arrOf cz) (lo+(l+r) / 2))
    case true=>
     simp only [if_true];refine wpS_pure ⟨rfl,l,(l+r) / 2,rfl,by omega,by omega,by omega,AF,λi h1 h2=>?_⟩
     exact KeyOrd.klt_of_klt_of_kle mm (fk _ _ (by omega) (by omega) (by omega))
    case false=>
     simp only [fN,if_false];refine wpS_pure ⟨rfl,(l+r) / 2+1,r,rfl,by omega,by omega,by omega,λi h1=>?_,Cy⟩
     exact KeyOrd.kle_trans (fk (lo+i) (lo+(l+r) / 2) (by omega) (by omega) (by omega)) (show O.kle _ _ from mm)
  case ipost=>
   rintro c cz ⟨rfl,l,r,rfl,hlk,AF,Cy⟩;show wpS _ _ _ _ (do moveDown' (lo+k) (lo+l);pure (ForInStep.yield (none,()))) _ _
   rw [moveDown'_eq];have ed:lo+k-(lo+l)=k-l:=by omega
   refine wpS_bind (wpS_modify (wpS_pure ⟨rfl,jv.trans (gq.bubble (by omega) (by omega) (by omega) hk),?_⟩))
   rw [show min (k+1) n=k+1 by omega]
   intro i j hi dm hj;show O.kle (ky O key (bubble (arrOf cz) (lo+k) (lo+k-(lo+l))) i) (ky O key (bubble (arrOf cz) (lo+k) (lo+k-(lo+l))) j);rw [u0 hk (by omega),u0 hk (by omega),show lo+k-(lo+k-(lo+l))=lo+l by omega]
   have UR:∀a,lo≤a→a<lo+l→O.kle (ky O key (arrOf cz) a) (ky O key (arrOf cz) (lo+k)):=λa h1 h2=>by
    have:=AF (a-lo) (by omega);rwa [show lo+(a-lo)=a by omega] at this
   have UK:∀a,lo+l≤a→a<lo+k→O.klt (ky O key (arrOf cz) (lo+k)) (ky O key (arrOf cz) a):=λa h1 h2=>by
    have:=Cy (a-lo) (by omega) (by omega);rwa [show lo+(a-lo)=a by omega] at this
   repeat' split
   all_goals first
    | (exfalso;omega)
    |exact KeyOrd.kle_refl _
    |exact UR _ (by omega) (by omega)
    |exact KeyOrd.kle_of_klt (UK _ (by omega) (by omega))
    |exact fk _ _ (by omega) (by omega) (by omega)
end
def z6(lo a aR:Nat):StateT SortSt Sem AscSt:=
 forIn [a:aR] ((none,a):AscSt) λ_ __s=>do
  let __x ←ltAt' (lo+__s.snd) (lo+__s.snd-1)
  match __x with
  |some vN=>if vN=true then pure (ForInStep.done (none,__s.snd)) else pure (ForInStep.yield (none,__s.snd+1))
  |_=>pure (ForInStep.done (some none,__s.snd))
def tailL(lo n aR:Nat):StateT SortSt Sem (Option Nat):=do
 reverseSlice' lo (lo+n)
 let __s ←z6 lo n aR
 match __s.fst with
 |some r=>pure r
 |none=>pure (some __s.snd)
def yK(lo n aR:Nat):StateT SortSt Sem DescSt:=
 forIn [n:aR] ((none,n,0):DescSt) λ_ __s=>do
  let __x ←ltAt' (lo+__s.snd.fst) (lo+__s.snd.fst-1)
  match __x with
  |some vN=>
   if vN=true then
    if __s.snd.snd>0 then do
     reverseSlice' (lo+__s.snd.fst-(__s.snd.snd+1)) (lo+__s.snd.fst)
     pure (ForInStep.yield (none,__s.snd.fst+1,0))
    else pure (ForInStep.yield (none,__s.snd.fst+1,0))
   else do
    let __x ←ltAt' (lo+__s.snd.fst-1) (lo+__s.snd.fst)
    match __x with
    |some LQ=>
     if LQ=true then pure (ForInStep.done (none,__s.snd.fst,__s.snd.snd))
     else pure (ForInStep.yield (none,__s.snd.fst+1,__s.snd.snd+1))
    |_=>pure (ForInStep.done (some none,__s.snd.fst,__s.snd.snd))
  |_=>pure (ForInStep.done (some none,__s.snd.fst,__s.snd.snd))
def descP(lo n aR:Nat):StateT SortSt Sem (Option Nat):=do
 liftM (rule "list.sort.descending-run")
 let __s ←yK lo (n+1) aR
 match __s.fst with
 |some r=>pure r
 |none=>
  if __s.snd.snd>0 then do
   reverseSlice' (lo+__s.snd.fst-(__s.snd.snd+1)) (lo+__s.snd.fst)
   tailL lo __s.snd.fst aR
  else tailL lo __s.snd.fst aR
theorem wO(lo aR:Nat):countRun' lo aR=(do
  let __s ←z6 lo 1 aR
  match __s.fst with
  |some r=>pure r
  |none=>
   if (__s.snd==aR)=true then pure (some __s.snd)
   else if __s.snd>1 then do
    let __x ←ltAt' lo (lo+__s.snd-1)
    match __x with
    |some Ox=>if Ox=true then pure (some __s.snd) else do
      reverseSlice' lo (lo+__s.snd)
      descP lo __s.snd aR
    |_=>pure none
   else descP lo __s.snd aR):=by
 rw [countRun'_eq];dsimp only;unfold descP tailL yK z6
 congr 1
 funext __s
 obtain ⟨r,n⟩:=__s;cases r with
 |some r=>rfl
 |none=>
  dsimp only
  split
  ·rfl
  ·split
   ·congr 1
    funext x
    cases x with
    |none=>rfl
    |some Ox=>
     dsimp only
     split
     ·rfl
     ·congr 1
      funext _r
      (congr 1;funext _u;congr 1;congr 1;funext s2;obtain ⟨r2,n2,q2⟩:=s2;cases r2 with
 |some r2=>rfl
 |none=>(dsimp only;split;(congr 1;funext _v;(congr 1;funext _w;congr 1;(funext s3;obtain ⟨r3,n3⟩:=s3;cases r3<;>rfl)));(congr 1;funext _w;congr 1;(funext s3;obtain ⟨r3,n3⟩:=s3;cases r3<;>rfl))))
   ·(congr 1;funext _u;congr 1;congr 1;funext s2;obtain ⟨r2,n2,q2⟩:=s2;cases r2 with
 |some r2=>rfl
 |none=>(dsimp only;split;(congr 1;funext _v;(congr 1;funext _w;congr 1;(funext s3;obtain ⟨r3,n3⟩:=s3;cases r3<;>rfl)));(congr 1;funext _w;congr 1;(funext s3;obtain ⟨r3,n3⟩:=s3;cases r3<;>rfl))))
section
variable {O:KeyOrd} {key:Keyed→O.α} {S:Keyed→Prop} {k0:SortKind} {prog:Program} {w:World} {A:Around} {E:Value→Shared→Prop} {s:Shared} {st bD:SortSt}
theorem yr(C:gn O key S k0 (model prog w) A E s){lo a aR:Nat}{Q:AscSt→SortSt→Prop}(o:Ok S k0 st)(hn:lo+aR≤(arrOf st).size)(ha:1≤a)(han:a≤aR)(hs:iM O key (arrOf st) lo (lo+a))
  (h:∀n,a≤n→n≤aR→iM O key (arrOf st) lo (lo+n)→(n=aR∨O.klt (ky O key (arrOf st) (lo+n)) (ky O key (arrOf st) (lo+n-1)))→Q (none,n) st):
  wpS (model prog w) A E s (z6 lo a aR) Q st:=by
 unfold z6;refine wpS_forRange (I:=λx c ag=>ag=st∧c=(none,x)∧iM O key (arrOf st) lo (lo+x)) ?step ?fin ⟨rfl,rfl,hs⟩
 case fin=>
  rintro c ag ⟨rfl,rfl,fk⟩;rw [show max a aR=aR by omega] at fk ⊢
  exact h aR han (aV _) fk (.inl rfl)
 case step=>
  rintro x c ag Us hxn ⟨rfl,rfl,fk⟩;dsimp only;refine wpS_bind (mW C o (by omega) (by omega) ?_)
  cases mm:O.blt (ky O key (arrOf ag) (lo+x)) (ky O key (arrOf ag) (lo+x-1))
  case true=>
   simp only [if_true];exact wpS_pure (h x Us (by omega) fk (.inr mm))
  case false=>
   simp only [fN,if_false];refine wpS_pure ⟨rfl,rfl,λi j hi dm hj=>?_⟩
   by_cases IH:j<lo+x
   ·exact fk i j hi dm IH
   ·have yW:j=lo+x:=by omega
    subst yW
    by_cases fj:i=lo+x
    ·subst fj;exact KeyOrd.kle_refl _
    ·exact KeyOrd.kle_trans (fk i (lo+x-1) hi (by omega) (by omega)) mm
theorem qO{i j:Nat}{Q:Unit→SortSt→Prop}(h:Q () (setArr st (mirror (arrOf st) i j ((j-i) / 2)))):wpS (model prog w) A E s (reverseSlice' i j) Q st:=by
 rw [reverseSlice'_eq];exact wpS_modify h
theorem wg(C:gn O key S k0 (model prog w) A E s){lo n aR:Nat}{Q:Option Nat→SortSt→Prop}(o:Ok S k0 st)(hn:lo+aR≤(arrOf st).size)(h1:1≤n)(yX:n≤aR)(hs:Fd O key (arrOf st) lo (lo+n))
  (h:∀m ag,gq st ag lo (lo+aR)→1≤m→m≤aR→iM O key (arrOf ag) lo (lo+m)→Q (some m) ag):wpS (model prog w) A E s (tailL lo n aR) Q st:=by
 unfold tailL;have fS:lo+n≤(arrOf st).size:=by omega
 refine wpS_bind (qO ?_);have hB:gq st (setArr st (mirror (arrOf st) lo (lo+n) ((lo+n-lo) / 2))) lo (lo+aR):=gq.mirror (aV _) (by omega) fS
 refine wpS_bind (yr C (o.step hB) (by rw [hB.size];exact hn) h1 yX ?_ λm hm1 FZ hsm _=>wpS_pure (h m _ hB (by omega) FZ hsm))
 intro i j hi dm hj;show O.kle (ky O key (mirror (arrOf st) lo (lo+n) ((lo+n-lo) / 2)) i) (ky O key (mirror (arrOf st) lo (lo+n) ((lo+n-lo) / 2)) j);rw [ph fS,ph fS,if_pos (by omega),if_pos (by omega)]
 exact hs _ _ (by omega) (by omega) (by omega)
theorem D2(C:gn O key S k0 (model prog w) A E s){lo n aR:Nat}{Q:DescSt→SortSt→Prop}(o:Ok S k0 st)(hn:lo+aR≤(arrOf st).size)(h1:1≤n)(yX:n≤aR)(hs:Fd O key (arrOf st) lo (lo+n))
  (h:∀m mz ag,gq st ag lo (lo+aR)→n≤m→m≤aR→Fd O key (arrOf ag) lo (lo+m)→mz+1≤m→(∀i,lo+m-(mz+1)≤i→i<lo+m→ky O key (arrOf ag) i=ky O key (arrOf ag) (lo+m-1))→Q (none,m,mz) ag):
  wpS (model prog w) A E s (yK lo n aR) Q st:=by
 unfold yK
 refine wpS_forRange (I:=λx c ag=>∃mz,c=(none,x,mz)∧gq st ag lo (lo+aR)∧Fd O key (arrOf ag) lo (lo+x)∧mz+1≤x∧
   (∀i,lo+x-(mz+1)≤i→i<lo+x→ky O key (arrOf ag) i=ky O key (arrOf ag) (lo+x-1))) ?step ?fin ⟨0,rfl, .refl _ _ _,hs,by omega,λi h1 h2=>by congr 1;omega⟩
 case fin=>
  rintro c ag ⟨mz,rfl,jv,fk,hq,he⟩;rw [show max n aR=aR by omega] at fk hq he ⊢
  exact h aR mz ag jv yX (aV _) fk hq he
 case step=>
  rintro x c ag Us hxn ⟨mz,rfl,jv,fk,hq,he⟩;dsimp only;have o':=o.step jv;have hz:=jv.size;have fS:lo+x≤(arrOf ag).size:=by omega
  refine wpS_bind (mW C o' (by omega) (by omega) ?_)
  cases mm:O.blt (ky O key (arrOf ag) (lo+x)) (ky O key (arrOf ag) (lo+x-1))
  case true=>
   simp only [if_true]
   have Kw:∀xs:Array Keyed,(∀k,ky O key xs k=ky O key (arrOf ag) k)→Fd O key xs lo (lo+(x+1)):=by
    intro xs hk i j hi dm hj;rw [hk,hk]
    by_cases IH:j<lo+x
    ·exact fk i j hi dm IH
    ·have yW:j=lo+x:=by omega
     subst yW
     by_cases fj:i=lo+x
     ·subst fj;exact KeyOrd.kle_refl _
     ·exact KeyOrd.kle_trans (KeyOrd.kle_of_klt mm) (fk i (lo+x-1) hi (by omega) (by omega))
   by_cases AH:mz>0
   ·rw [if_pos AH]
    refine wpS_bind (qO (wpS_pure ⟨0,rfl,jv.trans (gq.mirror (by omega) (by omega) fS),Kw _ (fG fS he),by omega,λi h1 h2=>by congr 1;omega⟩))
   ·rw [if_neg AH]
    exact wpS_pure ⟨0,rfl,jv,Kw _ (λ_=>rfl),by omega,λi h1 h2=>by congr 1;omega⟩
  case false=>
   simp only [fN,if_false];refine wpS_bind (mW C o' (by omega) (by omega) ?_)
   cases IL:O.blt (ky O key (arrOf ag) (lo+x-1)) (ky O key (arrOf ag) (lo+x))
   case true=>
    simp only [if_true];exact wpS_pure (h x mz ag jv (by omega) (by omega) fk hq he)
   case false=>
    simp only [fN,if_false];have NT:ky O key (arrOf ag) (lo+x)=ky O key (arrOf ag) (lo+x-1):=O.total _ _ mm IL;refine wpS_pure ⟨mz+1,rfl,jv,λi j hi dm hj=>?_,by omega,λi h1 h2=>?_⟩
    ·by_cases IH:j<lo+x
     ·exact fk i j hi dm IH
     ·have yW:j=lo+x:=by omega
      subst yW
      by_cases fj:i=lo+x
      ·subst fj;exact KeyOrd.kle_refl _
      ·rw [NT];exact fk i (lo+x-1) hi (by omega) (by omega)
    ·rw [show lo+(x+1)-1=lo+x by omega]
     by_cases hix:i=lo+x
     ·subst hix;rfl
     ·rw [NT];exact he i (by omega) (by omega)
theorem v8(C:gn O key S k0 (model prog w) A E s){lo n aR:Nat}{Q:Option Nat→SortSt→Prop}(o:Ok S k0 st)(hn:lo+aR≤(arrOf st).size)(yX:n+1≤aR)(hs:Fd O key (arrOf st) lo (lo+(n+1)))
  (h:∀m ag,gq st ag lo (lo+aR)→1≤m→m≤aR→iM O key (arrOf ag) lo (lo+m)→Q (some m) ag):wpS (model prog w) A E s (descP lo n aR) Q st:=by
 unfold descP;refine wpS_bind (wpS_lift (wpAny_rule ⟨rfl,?_⟩));refine wpS_bind (D2 C o hn (by omega) yX hs λm mz ag jv hm1 FZ fk hq he=>?_)
 dsimp only;have hz:=jv.size;have fS:lo+m≤(arrOf ag).size:=by omega
 by_cases AH:mz>0
 ·rw [if_pos AH]
  have PB:gq ag (setArr ag (mirror (arrOf ag) (lo+m-(mz+1)) (lo+m) ((lo+m-(lo+m-(mz+1))) / 2))) lo (lo+aR):=gq.mirror (by omega) (by omega) fS
  refine wpS_bind (qO (wg C (o.step (jv.trans PB)) (by rw [PB.size];omega) (by omega) FZ ?_ λm' cz hS=>h m' cz ((jv.trans PB).trans hS)))
  intro i j hi dm hj;show O.kle (ky O key (mirror (arrOf ag) _ _ _) j) (ky O key (mirror (arrOf ag) _ _ _) i);rw [fG fS he,fG fS he];exact fk i j hi dm hj
 ·rw [if_neg AH]
  exact wg C (o.step jv) (by omega) (by omega) FZ fk λm' cz hS=>h m' cz (jv.trans hS)
theorem wpS_countRun(C:gn O key S k0 (model prog w) A E s){lo aR:Nat}{Q:Option Nat→SortSt→Prop}(o:Ok S k0 st)(hn:lo+aR≤(arrOf st).size)(h1:1≤aR)
  (h:∀m ag,gq st ag lo (lo+aR)→1≤m→m≤aR→iM O key (arrOf ag) lo (lo+m)→Q (some m) ag):wpS (model prog w) A E s (countRun' lo aR) Q st:=by
 rw [wO];refine wpS_bind (yr C o hn (aV 1) h1 (λi j hi dm hj=>by have:i=j:=(by omega);subst this;exact KeyOrd.kle_refl _) λn Lv wV LA hor=>?_)
 dsimp only
 by_cases yX:n=aR
 ·rw [if_pos (by simpa using yX)]
  exact wpS_pure (h n st (.refl _ _ _) Lv wV LA)
 ·rw [if_neg (by simpa using yX)]
  have bG:O.klt (ky O key (arrOf st) (lo+n)) (ky O key (arrOf st) (lo+n-1)):=hor.resolve_left yX
  by_cases UJ:n>1
  ·rw [if_pos UJ]
   refine wpS_bind (mW C o (by omega) (by omega) ?_)
   cases Qm:O.blt (ky O key (arrOf st) lo) (ky O key (arrOf st) (lo+n-1))
   case true=>
    simp only [if_true];exact wpS_pure (h n st (.refl _ _ _) Lv wV LA)
   case false=>
    simp only [fN,if_false];have fS:lo+n≤(arrOf st).size:=by omega
    have iE:∀k,lo≤k→k<lo+n→ky O key (arrOf st) k=ky O key (arrOf st) (lo+n-1):=by
     intro k tQ hk;have a1:=LA lo k (by omega) tQ hk
     have a2:=LA k (lo+n-1) tQ (by omega) (by omega)
     exact KeyOrd.kle_antisymm a2 (KeyOrd.kle_trans Qm a1)
    have hB:gq st (setArr st (mirror (arrOf st) lo (lo+n) ((lo+n-lo) / 2))) lo (lo+aR):=gq.mirror (aV _) (by omega) fS
    refine wpS_bind (qO (v8 C (o.step hB) (by rw [hB.size];omega) (by omega) ?_ λm' cz hS=>h m' cz (hB.trans hS)))
    intro i j hi dm hj;show O.kle (ky O key (mirror (arrOf st) _ _ _) j) (ky O key (mirror (arrOf st) _ _ _) i);rw [fG fS iE,fG fS iE]
    by_cases hjn:j<lo+n
    ·rw [iE i hi (by omega),iE j (by omega) hjn];exact KeyOrd.kle_refl _
    ·have yW:j=lo+n:=by omega
     subst yW
     by_cases fj:i=lo+n
     ·subst fj;exact KeyOrd.kle_refl _
     ·rw [iE i hi (by omega)];exact KeyOrd.kle_of_klt bG
  ·rw [if_neg UJ]
   have UU:n=1:=by omega
   subst UU;refine v8 C o hn (by omega) ?_ h
   intro i j hi dm hj
   by_cases fj:i=j
   ·subst fj;exact KeyOrd.kle_refl _
   ·have hi0:i=lo:=by omega
    have hj1:j=lo+1:=by omega
    subst hi0;subst hj1;exact KeyOrd.kle_of_klt bG
end
section lists
variable (O:KeyOrd) (key:Keyed→O.α)
def LE(x y:Keyed):Prop:=O.kle (key x) (key y)
structure MI (l o ra rb:List Keyed):Prop where
 perm:(o++(ra++rb)).Perm l
 so:o.Pairwise (LE O key)
 sa:ra.Pairwise (LE O key)
 sb:rb.Pairwise (LE O key)
 le:∀x∈o,∀y∈ra++rb,LE O key x y
def Res(l r:List Keyed):Prop:=r.Perm l∧r.Pairwise (LE O key)
variable {O key}
theorem MI.kN{l o xs ra rb:List Keyed}(m:MI O key l o (xs++ra) rb)(h:∀x∈xs,∀y∈rb,LE O key x y):MI O key l (o++xs) ra rb:=by
 obtain ⟨sx,sr,sxr⟩:=BO.mp m.sa;refine ⟨by simpa [m7] using m.perm,BO.mpr ⟨m.so,sx,λx hx y hy=>m.le x hx y (by simp [hy])⟩,sr,m.sb,λx hx y hy=>?_⟩
 rcases cw.mp hx with z|z
 ·refine m.le x z y ?_
  rcases cw.mp hy with u|u<;>simp [u]
 ·rcases cw.mp hy with u|u
  ·exact sxr x z y u
  ·exact h x z y u
theorem MI.swap{l o ra rb:List Keyed}(m:MI O key l o ra rb):MI O key l o rb ra:=
 ⟨(List.Perm.append_left o wC).trans m.perm,m.so,m.sb,m.sa,λx hx y hy=>m.le x hx y (by rcases cw.mp hy with u|u<;>simp [u])⟩
theorem MI.kO{l o xs ra rb:List Keyed}(m:MI O key l o ra (xs++rb))(h:∀x∈xs,∀y∈ra,LE O key x y):MI O key l (o++xs) ra rb:=(m.swap.kN h).swap
theorem MI.Ax{l o ra:List Keyed}(m:MI O key l o ra []):Res O key l (o++ra):=
 ⟨by simpa using m.perm,BO.mpr ⟨m.so,m.sa,λx hx y hy=>m.le x hx y (by simp [hy])⟩⟩
theorem MI.y9{l o ra rb:List Keyed}(m:MI O key l o ra rb)(h:∀y∈rb,∀x∈ra,LE O key y x):Res O key l (o++rb++ra):=by
 have m':MI O key l o ra (rb++ []):=by rw [iK];exact m
 exact (m'.kO h).Ax
end lists
def zf(a b:Array Keyed)(mg ac bc ia:Nat)(out:Array Keyed)(ib:Nat):StateT SortSt Sem (ForInStep (Option (Array Keyed)×Array Keyed×Nat×Nat×Nat×Nat×Nat)):=do
 let __do_lift ←elem' a ia
 let out:Array Keyed:=out.push __do_lift
 let ia:Nat:=ia+1
 if (ia+1==a.size)=true then pure (ForInStep.done (some (out++b.extract ib b.size++a.extract ia a.size),out,ia,ib,mg,ac,bc))
 else if (decide (ac<7)&&decide (bc<7))=true then pure (ForInStep.done (none,out,ia,ib,mg,ac,bc))
 else pure (ForInStep.yield (none,out,ia,ib,mg,ac,bc))
def rM(a b:Array Keyed)(mg ac bc ib:Nat)(out:Array Keyed)(ia:Nat):StateT SortSt Sem (ForInStep (Option (Array Keyed)×Array Keyed×Nat×Nat×Nat×Nat×Nat)):=do
 let __do_lift ←elem' b ib
 let out:Array Keyed:=out.push __do_lift
 let ib:Nat:=ib+1
 if (ib==b.size)=true then pure (ForInStep.done (some (out++a.extract ia a.size++b.extract ib b.size),out,ia,ib,mg,ac,bc))
 else do
  let __do_lift ←elem' a ia
  let __x ←eB true __do_lift b ib (b.size-ib) 0
  match __x with
  |some k=>
   if k>0 then
    if (ib+k==b.size)=true then pure (ForInStep.done (some (out++b.extract ib (ib+k)++a.extract ia a.size++b.extract (ib+k) b.size),out++b.extract ib (ib+k),ia,ib+k,mg,ac,k))
    else zf a b mg ac k ia (out++b.extract ib (ib+k)) (ib+k)
   else zf a b mg ac k ia out ib
  |_=>pure (ForInStep.done (some (out++a.extract ia a.size++b.extract ib b.size),out,ia,ib,mg,ac,bc))
def pk(a b:Array Keyed)(bc ac ia ib:Nat)(out:Array Keyed)(mg:Nat):StateT SortSt Sem (ForInStep (Option (Array Keyed)×Array Keyed×Nat×Nat×Nat×Nat×Nat)):=do
 setMinGallop' mg
 let __do_lift ←elem' b ib
 let __x ←eB false __do_lift a ia (a.size-ia) 0
 match __x with
 |some k=>
  if k>0 then
   if (ia+k+1==a.size)=true then pure (ForInStep.done (some (out++a.extract ia (ia+k)++b.extract ib b.size++a.extract (ia+k) a.size),out++a.extract ia (ia+k),ia+k,ib,mg,k,bc))
   else if (ia+k==a.size)=true then pure (ForInStep.done (some (out++a.extract ia (ia+k)++a.extract (ia+k) a.size++b.extract ib b.size),out++a.extract ia (ia+k),ia+k,ib,mg,k,bc))
   else rM a b mg k bc ib (out++a.extract ia (ia+k)) (ia+k)
  else rM a b mg k bc ib out ia
 |_=>pure (ForInStep.done (some (out++a.extract ia a.size++b.extract ib b.size),out,ia,ib,mg,ac,bc))
def zh(a b:Array Keyed)(__s:Option (Array Keyed)×Array Keyed×Nat×Nat×Nat×Nat×Nat):StateT SortSt Sem (ForInStep (Option (Array Keyed)×Array Keyed×Nat×Nat×Nat×Nat×Nat)):=
 if __s.2.2.2.2.1>1 then pk a b __s.2.2.2.2.2.2 __s.2.2.2.2.2.1 __s.2.2.1 __s.2.2.2.1 __s.2.1 (__s.2.2.2.2.1-1) else pk a b __s.2.2.2.2.2.2 __s.2.2.2.2.2.1 __s.2.2.1 __s.2.2.2.1 __s.2.1 __s.2.2.2.2.1
def zg(a b:Array Keyed)(mg:Nat)(__s:Option (Array Keyed)×Array Keyed×Nat×Nat×Nat×Nat):StateT SortSt Sem (ForInStep (Option (Array Keyed)×Array Keyed×Nat×Nat×Nat×Nat)):=do
 let y ←elem' b __s.2.2.2.1
 let x ←elem' a __s.2.2.1
 let __x ←lt' y x
 match __x with
 |some B2=>
  if B2=true then do
   let y ←elem' b __s.2.2.2.1
   if (__s.2.2.2.1+1==b.size)=true then pure (ForInStep.done (some (__s.2.1.push y++a.extract __s.2.2.1 a.size++b.extract (__s.2.2.2.1+1) b.size),__s.2.1.push y,__s.2.2.1,__s.2.2.2.1+1,0,__s.2.2.2.2.2+1))
   else if __s.2.2.2.2.2+1≥mg then pure (ForInStep.done (none,__s.2.1.push y,__s.2.2.1,__s.2.2.2.1+1,0,__s.2.2.2.2.2+1))
   else pure (ForInStep.yield (none,__s.2.1.push y,__s.2.2.1,__s.2.2.2.1+1,0,__s.2.2.2.2.2+1))
  else do
   let x ←elem' a __s.2.2.1
   if (__s.2.2.1+1+1==a.size)=true then pure (ForInStep.done (some (__s.2.1.push x++b.extract __s.2.2.2.1 b.size++a.extract (__s.2.2.1+1) a.size),__s.2.1.push x,__s.2.2.1+1,__s.2.2.2.1,__s.2.2.2.2.1+1,0))
   else if __s.2.2.2.2.1+1≥mg then pure (ForInStep.done (none,__s.2.1.push x,__s.2.2.1+1,__s.2.2.2.1,__s.2.2.2.2.1+1,0))
   else pure (ForInStep.yield (none,__s.2.1.push x,__s.2.2.1+1,__s.2.2.2.1,__s.2.2.2.2.1+1,0))
 |_=>pure (ForInStep.done (some (__s.2.1++a.extract __s.2.2.1 a.size++b.extract __s.2.2.2.1 b.size),__s.2.1,__s.2.2.1,__s.2.2.2.1,__s.2.2.2.2.1,__s.2.2.2.2.2))
def qk(a b:Array Keyed)(__s:Option (Array Keyed)×Array Keyed×Nat×Nat×Nat):StateT SortSt Sem (ForInStep (Option (Array Keyed)×Array Keyed×Nat×Nat×Nat)):=do
 let __t ←forIn [0:a.size+b.size] (none,__s.2.1,__s.2.2.1,__s.2.2.2.1,0,0) λ_ c=>zg a b __s.2.2.2.2 c
 match __t.1 with
 |some r=>pure (ForInStep.done (some r,__t.2.1,__t.2.2.1,__t.2.2.2.1,__s.2.2.2.2))
 |none=>do
  liftM (rule "list.sort.gallop")
  let __u ←forIn [0:a.size+b.size] (none,__t.2.1,__t.2.2.1,__t.2.2.2.1,__s.2.2.2.2+1,__t.2.2.2.2.1,__t.2.2.2.2.2) λ_ c=>zh a b c
  match __u.1 with
  |some r=>pure (ForInStep.done (some r,__u.2.1,__u.2.2.1,__u.2.2.2.1,__u.2.2.2.2.1))
  |none=>do
   setMinGallop' (__u.2.2.2.2.1+1)
   pure (ForInStep.yield (none,__u.2.1,__u.2.2.1,__u.2.2.2.1,__u.2.2.2.2.1+1))
theorem cM{α β:Type}{m m':StateT SortSt Sem α}{f f':α→StateT SortSt Sem β}(h:m=m')(g:∀x,f x=f' x):m>>=f=m'>>=f':=by rw [h,show f=f' from funext g]
theorem yN{β:Type}{n:Nat}{c0:β}{f f':Nat→β→StateT SortSt Sem (ForInStep β)}(h:∀i c,f i c=f' i c):forIn [0:n] c0 f=forIn [0:n] c0 f':=by rw [show f=f' from funext λi=>funext (h i)]
theorem eO{α:Type}{c:Prop} [Decidable c] {x y x' y':α} (h:c→x=x') (g:¬c→y=y'):(if c then x else y)=if c then x' else y':=by
 by_cases e:c
 ·rw [if_pos e,if_pos e];exact h e
 ·rw [if_neg e,if_neg e];exact g e
theorem w9(a b:Array Keyed):nI a b=(do
 rule "list.sort.merge-lo"
 let total:=a.size+b.size
 let done (out:Array Keyed) (ia ib:Nat):=out++a.extract ia a.size++b.extract ib b.size
 let qg (out:Array Keyed) (ia ib:Nat):=out++b.extract ib b.size++a.extract ia a.size
 let mut out:Array Keyed:= #[←elem' b 0]
 let mut ia:=0
 let mut ib:=1
 if ib==b.size then return done out ia ib
 if ia+1==a.size then return qg out ia ib
 let mut minGallop:=gallopOf (←get)
 for _ in [0:total] do
  let mut acount:=0
  let mut bcount:=0
  for _ in [0:total] do
   let some B2 ←lt' (←elem' b ib) (←elem' a ia) |return done out ia ib
   if B2 then
    out:=out.push (←elem' b ib);ib:=ib+1;bcount:=bcount+1;acount:=0
    if ib==b.size then return done out ia ib
    if bcount≥minGallop then break
   else
    out:=out.push (←elem' a ia);ia:=ia+1;acount:=acount+1;bcount:=0
    if ia+1==a.size then return qg out ia ib
    if acount≥minGallop then break
  rule "list.sort.gallop"
  minGallop:=minGallop+1
  for _ in [0:total] do
   if minGallop>1 then minGallop:=minGallop-1
   setMinGallop' minGallop
   let some k ←eB false (←elem' b ib) a ia (a.size-ia) 0|return done out ia ib
   acount:=k
   if k>0 then
    out:=out++a.extract ia (ia+k);ia:=ia+k
    if ia+1==a.size then return qg out ia ib
    if ia==a.size then return done out ia ib
   out:=out.push (←elem' b ib);ib:=ib+1
   if ib==b.size then return done out ia ib
   let some k ←eB true (←elem' a ia) b ib (b.size-ib) 0|return done out ia ib
   bcount:=k
   if k>0 then
    out:=out++b.extract ib (ib+k);ib:=ib+k
    if ib==b.size then return done out ia ib
   out:=out.push (←elem' a ia);ia:=ia+1
   if ia+1==a.size then return qg out ia ib
   if acount<7&&bcount<7 then break
  minGallop:=minGallop+1
  setMinGallop' minGallop
 unsupported "internal:list.sort.merge-bound"):=rfl
theorem zl(a b:Array Keyed):nI a b=(do
 liftM (rule "list.sort.merge-lo")
 let y ←elem' b 0
 if (1==b.size)=true then pure (#[y]++a.extract 0 a.size++b.extract 1 b.size)
 else if (0+1==a.size)=true then pure (#[y]++b.extract 1 b.size++a.extract 0 a.size)
 else do
  let __do_lift ←get
  let __s ←forIn [0:a.size+b.size] (none, #[y],0,1,gallopOf __do_lift) λ_ c=>qk a b c
  match __s.1 with
  |some r=>pure r
  |none=>liftM (unsupported (α:=Array Keyed) "internal:list.sort.merge-bound")):=by
 rw [w9];dsimp only;refine cM rfl λ_=>cM rfl λy=>?_;refine congrArg (ite _ _) (congrArg (ite _ _) ?_);refine cM rfl λg=>cM (yN λ_ c=>?_) λu=>?_
 ·unfold qk
  refine cM (yN λ_ t=>?_) λt=>?_
  ·unfold zg
   refine cM rfl λ_=>cM rfl λ_=>cM rfl λz=>?_;cases z<;>rfl
  ·obtain ⟨t1,t2⟩:=t
   cases t1 with
   |some r=>rfl
   |none=>
    dsimp only;refine cM rfl λ_=>cM (yN λ_ u=>?_) λu=>?_
    ·unfold zh
     have jp:∀mg,pk a b u.2.2.2.2.2.2 u.2.2.2.2.2.1 u.2.2.1 u.2.2.2.1 u.2.1 mg=pk a b u.2.2.2.2.2.2 u.2.2.2.2.2.1 u.2.2.1 u.2.2.2.1 u.2.1 mg:=λ_=>rfl;refine eO (λ_=>?_) (λ_=>?_)
     all_goals
      unfold pk;refine cM rfl λ_=>cM rfl λ_=>cM rfl λz=>?_;cases z with
      |none=>rfl
      |some k=>
       dsimp only;refine eO (λ_=>?_) (λ_=>?_)
       ·refine eO (λ_=>rfl) (λ_=>eO (λ_=>rfl) (λ_=>?_))
        unfold rM;refine cM rfl λ_=>eO (λ_=>rfl) (λ_=>cM rfl λ_=>cM rfl λz=>?_);cases z with
        |none=>rfl
        |some k=>rfl
       ·unfold rM
        refine cM rfl λ_=>eO (λ_=>rfl) (λ_=>cM rfl λ_=>cM rfl λz=>?_);cases z with
        |none=>rfl
        |some k=>rfl
    ·obtain ⟨u1,u2⟩:=u
     cases u1<;>rfl
 ·obtain ⟨u1,u2⟩:=u
  cases u1<;>rfl
structure GS (st ag:SortSt):Prop where
 arr:arrOf ag=arrOf st
 kind:kindOf ag=kindOf st
 failed:failedOf ag=failedOf st
 pend:pendingOf ag=pendingOf st
theorem GS.refl(st:SortSt):GS st st:=⟨rfl,rfl,rfl,rfl⟩
theorem GS.trans{a b c:SortSt}(x:GS a b)(y:GS b c):GS a c:=⟨y.arr.trans x.arr,y.kind.trans x.kind,y.failed.trans x.failed,y.pend.trans x.pend⟩
theorem qH(g:Nat):setMinGallop' g=modify λs=>SortSt.mk' (kindOf s) (arrOf s) (pendingOf s) g (failedOf s):=rfl
theorem ext_toList(xs:Array Keyed)(i j:Nat):(xs.extract i j).toList=(xs.toList.drop i).take (j-i):=by
 rw [Array.toList_extract]
theorem j1(xs:Array Keyed)(i:Nat):(xs.extract i xs.size).toList=xs.toList.drop i:=by
 rw [ext_toList,mZ (by simp)]
theorem drop_cons{xs:Array Keyed}{i:Nat}{x:Keyed}(h:xs[i]? =some x):xs.toList.drop i=x::xs.toList.drop (i+1):=by
 have h':xs.toList[i]? =some x:=by rw [←h];simp
 obtain ⟨bG,e⟩:=cF.mp h';rw [qQ bG,e]
theorem lW(l:List Keyed)(i k:Nat):l.drop i=(l.drop i).take k++l.drop (i+k):=by
 rw [←wk,kq]
theorem dN{l:List Keyed}{i k:Nat}{x:Keyed}(h:x∈(l.drop i).take k):∃j,j<k∧i+j<l.length∧l[i+j]? =some x:=by
 obtain ⟨j,hj⟩:=gL h;rw [zX] at hj
 split at hj
 ·rename_i c
  rw [wB] at hj;exact ⟨j,c,(cF.mp hj).1,hj⟩
 ·cases hj
theorem fU{l:List Keyed}{i:Nat}{x:Keyed}(h:x∈l.drop i):∃j,i+j<l.length∧l[i+j]? =some x:=by
 obtain ⟨j,hj⟩:=gL h;rw [wB] at hj;exact ⟨j,(cF.mp hj).1,hj⟩
section
variable {O:KeyOrd} {key:Keyed→O.α} {S:Keyed→Prop} {k0:SortKind} {M:Model} {A:Around} {E:Value→Shared→Prop} {s:Shared} {st bD:SortSt}
theorem nX{g:Nat}{Q:Unit→SortSt→Prop}(h:∀ag,GS st ag→Q () ag):wpS M A E s (setMinGallop' g) Q st:=by
 rw [qH];exact wpS_modify (h _ ⟨rfl,rfl,rfl,rfl⟩)
structure lK (O:KeyOrd) (key:Keyed→O.α) (S:Keyed→Prop) (a b:Array Keyed):Prop where
 ma:∀x∈a.toList,S x
 mb:∀x∈b.toList,S x
 sa:a.toList.Pairwise (LE O key)
 sb:b.toList.Pairwise (LE O key)
 na:1≤a.size
 nb:1≤b.size
 first:∀y,b[0]? =some y→∀x∈a.toList,LE O key y x
 last:∀x,a[a.size-1]? =some x→∀y∈b.toList,LE O key y x
theorem lK.y9{a b:Array Keyed}(T:lK O key S a b){ia ib:Nat}(h:ia+1=a.size):∀y∈b.toList.drop ib,∀x∈a.toList.drop ia,LE O key y x:=λy hy x hx=>by
 obtain ⟨j,hj,e⟩:=fU hx;rw [cu] at hj
 have:ia+j=a.size-1:=by omega
 rw [this] at e;exact T.last x (by rw [←e];simp) y (List.mem_of_mem_drop hy)
theorem fo{l:List Keyed}(h:l.Pairwise (LE O key)){i j:Nat}{x y:Keyed}(dm:i≤j)(hx:l[i]? =some x)(hy:l[j]? =some y):LE O key x y:=by
 by_cases e:i=j
 ·subst e
  rw [hx] at hy;cases hy;exact KeyOrd.kle_refl _
 ·obtain ⟨h1,e1⟩:=cF.mp hx
  obtain ⟨h2,e2⟩:=cF.mp hy;rw [←e1,←e2];exact wu.mp h i j h1 h2 (by omega)
theorem nV{xs:Array Keyed}(m:∀x∈xs.toList,S x){i n:Nat}(h:i+n≤xs.size):Seg S xs i n (λj=>xs[i+j]?.getD (.none, .none)):=
 ⟨λj hj=>by
  have:i+j<xs.size:=by omega
  rw [getElem?_pos xs (i+j) this];rfl,λj hj=>by
  have:i+j<xs.size:=by omega
  rw [getElem?_pos xs (i+j) this];exact m _ (by simp)⟩
theorem aY{xs:Array Keyed}{i:Nat}(h:i<xs.size):∃x,xs[i]? =some x∧x∈xs.toList∧xs.toList[i]? =some x:=by
 refine ⟨xs[i],getElem?_pos xs i h,by simp,?_⟩
 rw [eU];exact getElem?_pos xs i h
theorem j8{xs:Array Keyed}{i:Nat}{x:Keyed}(h:xs[i]? =some x):xs.toList[i]? =some x:=by rw [eU];exact h
theorem jy{xs:Array Keyed}{i:Nat}{x:Keyed}(h:xs.toList[i]? =some x):xs[i]? =some x:=by rw [←eU];exact h
structure IV (O:KeyOrd) (key:Keyed→O.α) (a b out:Array Keyed) (ia ib:Nat):Prop where
 mi:MI O key (a.toList++b.toList) out.toList (a.toList.drop ia) (b.toList.drop ib)
 ha:ia<a.size
 hb:ib<b.size
theorem IV.rW{a b out:Array Keyed}{ia ib:Nat}{y:Keyed}(v:MI O key (a.toList++b.toList) out.toList (a.toList.drop ia) (b.toList.drop ib))(hy:b[ib]? =some y)(h:∀x∈a.toList.drop ia,LE O key y x):
  MI O key (a.toList++b.toList) (out.push y).toList (a.toList.drop ia) (b.toList.drop (ib+1)):=by
 rw [drop_cons hy] at v;rw [yy];exact MI.kO (xs:= [y]) v λx hx=>by rw [eE.mp hx];exact h
theorem IV.rV{a b out:Array Keyed}{ia ib:Nat}{x:Keyed}(v:MI O key (a.toList++b.toList) out.toList (a.toList.drop ia) (b.toList.drop ib))(hx:a[ia]? =some x)(h:∀y∈b.toList.drop ib,LE O key x y):
  MI O key (a.toList++b.toList) (out.push x).toList (a.toList.drop (ia+1)) (b.toList.drop ib):=by
 rw [drop_cons hx] at v;rw [yy];exact MI.kN (xs:= [x]) v λx hx=>by rw [eE.mp hx];exact h
theorem IV.kO{a b out:Array Keyed}{ia ib k:Nat}(v:MI O key (a.toList++b.toList) out.toList (a.toList.drop ia) (b.toList.drop ib))(h:∀y∈(b.toList.drop ib).take k,∀x∈a.toList.drop ia,LE O key y x):
  MI O key (a.toList++b.toList) (out++b.extract ib (ib+k)).toList (a.toList.drop ia) (b.toList.drop (ib+k)):=by
 rw [lW b.toList ib k] at v;rw [gk,ext_toList,show ib+k-ib=k by omega]
 exact MI.kO v h
theorem IV.kN{a b out:Array Keyed}{ia ib k:Nat}(v:MI O key (a.toList++b.toList) out.toList (a.toList.drop ia) (b.toList.drop ib))(h:∀x∈(a.toList.drop ia).take k,∀y∈b.toList.drop ib,LE O key x y):
  MI O key (a.toList++b.toList) (out++a.extract ia (ia+k)).toList (a.toList.drop (ia+k)) (b.toList.drop ib):=by
 rw [lW a.toList ia k] at v;rw [gk,ext_toList,show ia+k-ia=k by omega]
 exact MI.kN v h
theorem IV.rp{a b out:Array Keyed}{ia ib:Nat}(v:MI O key (a.toList++b.toList) out.toList (a.toList.drop ia) (b.toList.drop ib))(h:ib=b.size):Res O key (a.toList++b.toList) (out++a.extract ia a.size++b.extract ib b.size).toList:=by
 have e:b.toList.drop ib= []:=wx (by rw [cu];omega)
 rw [gk,gk,j1,j1,e,iK];rw [e] at v;exact v.Ax
theorem IV.rm{a b out:Array Keyed}{ia ib:Nat}(v:MI O key (a.toList++b.toList) out.toList (a.toList.drop ia) (b.toList.drop ib))(h:ia=a.size):Res O key (a.toList++b.toList) (out++a.extract ia a.size++b.extract ib b.size).toList:=by
 have e:a.toList.drop ia= []:=wx (by rw [cu];omega)
 rw [gk,gk,j1,j1,e,iK];rw [e] at v;exact v.swap.Ax
theorem IV.last{a b out:Array Keyed}(T:lK O key S a b){ia ib:Nat}(v:MI O key (a.toList++b.toList) out.toList (a.toList.drop ia) (b.toList.drop ib))(h:ia+1=a.size):Res O key (a.toList++b.toList) (out++b.extract ib b.size++a.extract ia a.size).toList:=by
 rw [gk,gk,j1,j1];exact v.y9 (T.y9 h)
end
section
variable {O:KeyOrd} {key:Keyed→O.α} {S:Keyed→Prop} {k0:SortKind} {M:Model} {A:Around} {E:Value→Shared→Prop} {s:Shared} {st bD:SortSt} {a b:Array Keyed}
def Inv(O:KeyOrd)(key:Keyed→O.α)(a b:Array Keyed)(n:Nat)(out:Array Keyed)(ia ib:Nat):Prop:=MI O key (a.toList++b.toList) out.toList (a.toList.drop ia) (b.toList.drop ib)∧ia+1<a.size∧ib<b.size∧n≤ia+ib
def Fin{ρ:Type}(O:KeyOrd)(key:Keyed→O.α)(a b:Array Keyed)(n:Nat)(c:Option (Array Keyed)×Array Keyed×Nat×Nat×ρ):Prop:=
 (∃r,c.1=some r∧Res O key (a.toList++b.toList) r.toList)∨(c.1=none∧Inv O key a b n c.2.1 c.2.2.1 c.2.2.2.1)
def Out{ρ:Type}(O:KeyOrd)(key:Keyed→O.α)(a b:Array Keyed)(n:Nat)(r:ForInStep (Option (Array Keyed)×Array Keyed×Nat×Nat×ρ)):Prop:=match r with
 | .done c=>Fin O key a b n c
 | .yield c=>c.1=none∧Inv O key a b n c.2.1 c.2.2.1 c.2.2.2.1
def RN{ρ:Type}(O:KeyOrd)(key:Keyed→O.α)(a b:Array Keyed)(n:Nat)(r:ForInStep (Option (Array Keyed)×Array Keyed×Nat×Nat×ρ)):Prop:=match r with
 | .done c=>∃r,c.1=some r∧Res O key (a.toList++b.toList) r.toList
 | .yield c=>c.1=none∧Inv O key a b n c.2.1 c.2.2.1 c.2.2.2.1
theorem we{n mg ac bc ia ib:Nat}{out:Array Keyed}(T:lK O key S a b)(g:GS bD st)(v:MI O key (a.toList++b.toList) out.toList (a.toList.drop ia) (b.toList.drop ib))(ha:ia+1<a.size)(hb:ib<b.size)(hn:n≤ia+ib)
  (hx:∀x,a[ia]? =some x→∀y∈b.toList.drop ib,LE O key x y):wpS M A E s (zf a b mg ac bc ia out ib) (λr ag=>GS bD ag∧Out O key a b n r) st:=by
 unfold zf;obtain ⟨x,ex,mx,_⟩:=aY (xs:=a) (i:=ia) (by omega)
 refine wpS_bind (aU ex ?_);have v':=IV.rV v ex (hx x ex);dsimp only
 by_cases h1:ia+1+1=a.size
 ·rw [if_pos (by simpa using h1)]
  exact wpS_pure ⟨g, .inl ⟨_,rfl,IV.last T v' h1⟩⟩
 ·rw [if_neg (by simpa using h1)]
  have iv:Inv O key a b n (out.push x) (ia+1) ib:=⟨v',by omega,hb,by omega⟩
  by_cases h2:(decide (ac<7)&&decide (bc<7))=true
  ·rw [if_pos h2]
   exact wpS_pure ⟨g, .inr ⟨rfl,iv⟩⟩
  ·rw [if_neg h2]
   exact wpS_pure ⟨g,rfl,iv⟩
theorem wd(C:gn O key S k0 M A E s)(hk:kindOf st=k0){n mg ac bc ia ib:Nat}{out:Array Keyed}(T:lK O key S a b)(g:GS bD st)(v:MI O key (a.toList++b.toList) out.toList (a.toList.drop ia) (b.toList.drop ib))(ha:ia+1<a.size)(hb:ib<b.size)(hn:n≤ia+ib)
  (hy:∀y,b[ib]? =some y→∀x∈a.toList.drop ia,LE O key y x):wpS M A E s (rM a b mg ac bc ib out ia) (λr ag=>GS bD ag∧Out O key a b n r) st:=by
 unfold rM;obtain ⟨y,ey,my,_⟩:=aY (xs:=b) (i:=ib) hb;refine wpS_bind (aU ey ?_);have v':=IV.rW v ey (hy y ey);dsimp only
 by_cases h1:ib+1=b.size
 ·rw [if_pos (by simpa using h1)]
  exact wpS_pure ⟨g, .inl ⟨_,rfl,IV.rp v' h1⟩⟩
 ·rw [if_neg (by simpa using h1)]
  obtain ⟨x,ex,mx,lx⟩:=aY (xs:=a) (i:=ia) (by omega)
  refine wpS_bind (aU ex ?_)
  have xle:∀z∈a.toList.drop ia,LE O key x z:=λz hz=>by
   obtain ⟨j,_,ej⟩:=fU hz;exact fo T.sa (by omega) lx ej
  have z9:∀j z,ib+1+j<b.size→b.toList[ib+1+j]? =some z→b[ib+1+j]?.getD (Value.none,Value.none)=z:=λj z hj e=>by rw [jy e];rfl
  refine wpS_bind (gd C (nV T.mb (i:=ib+1) (n:=b.size-(ib+1)) (by omega)) (T.ma x mx) hk (by omega) (λi j dm hj h=>?_) λp hp pt pf=>?_)
  ·obtain ⟨yi,e1,_,l1⟩:=aY (xs:=b) (i:=ib+1+i) (by omega)
   obtain ⟨yj,e2,_,l2⟩:=aY (xs:=b) (i:=ib+1+j) (by omega)
   unfold dk at h ⊢;rw [if_pos rfl] at h ⊢;rw [e2] at h;rw [e1];exact KeyOrd.klt_of_kle_of_klt (fo T.sb (by omega) l1 l2) h
  ·have lo:∀y∈(b.toList.drop (ib+1)).take p,∀x∈a.toList.drop ia,LE O key y x:=λz hz u hu=>by
    obtain ⟨j,hj,hl,ej⟩:=dN hz;rw [cu] at hl
    have:=pt j hj
    unfold dk at this;rw [if_pos rfl,z9 j z hl ej] at this;exact KeyOrd.kle_trans (KeyOrd.kle_of_klt this) (xle u hu)
   have hi:∀x',a[ia]? =some x'→∀y∈b.toList.drop (ib+1+p),LE O key x' y:=λx' n5 z hz=>by
    rw [ex] at n5;cases n5;obtain ⟨j,hl,ej⟩:=fU hz;rw [cu] at hl
    have:=pf (p+j) (by omega) (by omega)
    unfold dk at this;rw [if_pos rfl,z9 (p+j) z (by omega) (by rw [←ej];congr 1;omega)] at this
    exact this
   dsimp only
   by_cases uT:p>0
   ·rw [if_pos uT]
    have v2:=IV.kO v' lo
    by_cases h2:ib+1+p=b.size
    ·rw [if_pos (by simpa using h2)]
     exact wpS_pure ⟨g, .inl ⟨_,rfl,IV.rp v2 h2⟩⟩
    ·rw [if_neg (by simpa using h2)]
     exact we T g v2 ha (by omega) (by omega) hi
   ·rw [if_neg uT]
    have:p=0:=by omega
    subst this;exact we T g v' ha (by omega) (by omega) hi
theorem wc(C:gn O key S k0 M A E s)(hk:kindOf st=k0){n mg ac bc ia ib:Nat}{out:Array Keyed}(T:lK O key S a b)(g:GS bD st)(iv:Inv O key a b n out ia ib):wpS M A E s (pk a b bc ac ia ib out mg) (λr ag=>GS bD ag∧Out O key a b n r) st:=by
 obtain ⟨v,ha,hb,hn⟩:=iv;unfold pk;refine wpS_bind (nX λzJ g1=>?_);have wU:kindOf zJ=k0:=g1.kind.trans hk;have g':=g.trans g1;obtain ⟨y,ey,my,ly⟩:=aY (xs:=b) (i:=ib) hb;refine wpS_bind (aU ey ?_)
 have yle:∀z∈b.toList.drop ib,LE O key y z:=λz hz=>by
  obtain ⟨j,_,ej⟩:=fU hz;exact fo T.sb (by omega) ly ej
 have og:∀j z,ia+j<a.size→a.toList[ia+j]? =some z→a[ia+j]?.getD (Value.none,Value.none)=z:=λj z hj e=>by rw [jy e];rfl
 refine wpS_bind (gd C (nV T.ma (i:=ia) (n:=a.size-ia) (by omega)) (T.mb y my) wU (by omega) (λi j dm hj h=>?_) λp hp pt pf=>?_)
 ·obtain ⟨xi,e1,_,l1⟩:=aY (xs:=a) (i:=ia+i) (by omega)
  obtain ⟨xj,e2,_,l2⟩:=aY (xs:=a) (i:=ia+j) (by omega)
  unfold dk at h ⊢;rw [if_neg (by decide)] at h ⊢
  rw [e2] at h;rw [e1];have h':O.kle (key xj) (key y):=by unfold KeyOrd.kle;simpa using h
  have:=KeyOrd.kle_trans (fo T.sa (by omega) l1 l2) h'
  unfold KeyOrd.kle at this;simpa using this
 ·have lo:∀x∈(a.toList.drop ia).take p,∀y∈b.toList.drop ib,LE O key x y:=λz hz u hu=>by
   obtain ⟨j,hj,hl,ej⟩:=dN hz;rw [cu] at hl
   have:=pt j hj
   unfold dk at this;rw [if_neg (by decide),og j z hl ej] at this
   have h':O.kle (key z) (key y):=by unfold KeyOrd.kle;simpa using this
   exact KeyOrd.kle_trans h' (yle u hu)
  have hi:∀y',b[ib]? =some y'→∀x∈a.toList.drop (ia+p),LE O key y' x:=λy' lZ z hz=>by
   rw [ey] at lZ;cases lZ;obtain ⟨j,hl,ej⟩:=fU hz;rw [cu] at hl
   have:=pf (p+j) (by omega) (by omega)
   unfold dk at this;rw [if_neg (by decide),og (p+j) z (by omega) (by rw [←ej];congr 1;omega)] at this
   exact KeyOrd.kle_of_klt (show O.blt _ _=true by simpa using this)
  dsimp only
  by_cases uT:p>0
  ·rw [if_pos uT]
   have v2:=IV.kN v lo
   by_cases h2:ia+p+1=a.size
   ·rw [if_pos (by simpa using h2)]
    exact wpS_pure ⟨g', .inl ⟨_,rfl,IV.last T v2 h2⟩⟩
   ·rw [if_neg (by simpa using h2)]
    by_cases h3:ia+p=a.size
    ·rw [if_pos (by simpa using h3)]
     exact wpS_pure ⟨g', .inl ⟨_,rfl,IV.rm v2 h3⟩⟩
    ·rw [if_neg (by simpa using h3)]
     exact wd C wU T g' v2 (by omega) hb (by omega) hi
  ·rw [if_neg uT]
   have:p=0:=by omega
   subst this;exact wd C wU T g' v ha hb hn hi
theorem D6(C:gn O key S k0 M A E s)(hk:kindOf st=k0){n:Nat}(T:lK O key S a b)(g:GS bD st)(c:Option (Array Keyed)×Array Keyed×Nat×Nat×Nat×Nat×Nat)(iv:Inv O key a b n c.2.1 c.2.2.1 c.2.2.2.1):
  wpS M A E s (zh a b c) (λr ag=>GS bD ag∧Out O key a b n r) st:=by
 unfold zh
 by_cases h:c.2.2.2.2.1>1
 ·rw [if_pos h];exact wc C hk T g iv
 ·rw [if_neg h];exact wc C hk T g iv
theorem D5(C:gn O key S k0 M A E s)(hk:kindOf st=k0){n mg:Nat}(T:lK O key S a b)(g:GS bD st)(c:Option (Array Keyed)×Array Keyed×Nat×Nat×Nat×Nat)(iv:Inv O key a b n c.2.1 c.2.2.1 c.2.2.2.1):
  wpS M A E s (zg a b mg c) (λr ag=>GS bD ag∧Out O key a b (n+1) r) st:=by
 obtain ⟨c1,out,ia,ib,ac,bc⟩:=c;obtain ⟨v,ha,hb,hn⟩:=iv;dsimp only at v ha hb hn;unfold zg;dsimp only;obtain ⟨y,ey,my,ly⟩:=aY (xs:=b) (i:=ib) hb;obtain ⟨x,ex,mx,lx⟩:=aY (xs:=a) (i:=ia) (by omega)
 refine wpS_bind (aU ey (wpS_bind (aU ex (wpS_bind (C _ _ _ _ (T.mb y my) (T.ma x mx) hk ?_)))));cases e:O.blt (key y) (key x) with
 |true=>
  dsimp only;rw [if_pos rfl];refine wpS_bind (aU ey ?_)
  have v':=IV.rW v ey λz hz=>by
   obtain ⟨j,_,ej⟩:=fU hz;exact KeyOrd.kle_trans (KeyOrd.kle_of_klt e) (fo T.sa (by omega) lx ej)
  by_cases h1:ib+1=b.size
  ·rw [if_pos (by simpa using h1)]
   exact wpS_pure ⟨g, .inl ⟨_,rfl,IV.rp v' h1⟩⟩
  ·rw [if_neg (by simpa using h1)]
   have iv:Inv O key a b (n+1) (out.push y) ia (ib+1):=⟨v',by omega,by omega,by omega⟩
   by_cases h2:bc+1≥mg
   ·rw [if_pos h2];exact wpS_pure ⟨g, .inr ⟨rfl,iv⟩⟩
   ·rw [if_neg h2];exact wpS_pure ⟨g,rfl,iv⟩
 |false=>
  dsimp only;rw [if_neg (by decide)]
  refine wpS_bind (aU ex ?_)
  have v':=IV.rV v ex λz hz=>by
   obtain ⟨j,_,ej⟩:=fU hz;exact KeyOrd.kle_trans e (fo T.sb (by omega) ly ej)
  by_cases h1:ia+1+1=a.size
  ·rw [if_pos (by simpa using h1)]
   exact wpS_pure ⟨g, .inl ⟨_,rfl,IV.last T v' h1⟩⟩
  ·rw [if_neg (by simpa using h1)]
   have iv:Inv O key a b (n+1) (out.push x) (ia+1) ib:=⟨v',by omega,by omega,by omega⟩
   by_cases h2:ac+1≥mg
   ·rw [if_pos h2];exact wpS_pure ⟨g, .inr ⟨rfl,iv⟩⟩
   ·rw [if_neg h2];exact wpS_pure ⟨g,rfl,iv⟩
theorem Inv.le{n m:Nat}{out:Array Keyed}{ia ib:Nat}(h:Inv O key a b n out ia ib)(hm:m≤n):Inv O key a b m out ia ib:=⟨h.1,h.2.1,h.2.2.1,ku hm h.2.2.2⟩
theorem zQ(C:gn O key S k0 M A E s)(hk:kindOf st=k0){n:Nat}(T:lK O key S a b)(g:GS bD st)(tQ:kindOf bD=k0)(c:Option (Array Keyed)×Array Keyed×Nat×Nat×Nat)(iv:Inv O key a b n c.2.1 c.2.2.1 c.2.2.2.1):
  wpS M A E s (qk a b c) (λr ag=>GS bD ag∧RN O key a b (n+1) r) st:=by
 have U6:0<a.size+b.size:=by have:=T.na;omega
 unfold qk;refine wpS_bind (wpS_mono (wpS_forRange (I:=λ(x:Nat)(c':Option (Array Keyed)×Array Keyed×Nat×Nat×Nat×Nat)(ag:SortSt)=>GS bD ag∧c'.1=none∧Inv O key a b (n+min x 1) c'.2.1 c'.2.2.1 c'.2.2.2.1) (Q:=λc' ag=>GS bD ag∧Fin O key a b (n+1) c') ?step ?fin ⟨g,rfl,iv.le (by omega)⟩) ?post)
 case fin=>
  rintro c' ag ⟨g',h1,h2⟩;exact ⟨g', .inr ⟨h1,h2.le (by omega)⟩⟩
 case step=>
  rintro x c' ag _ _ ⟨g',h1,h2⟩;refine wpS_mono (D5 C (g'.kind.trans tQ) T g' c' h2) λr cz ⟨mh,o⟩=>?_;cases r with
  |done d=>
   refine ⟨mh,?_⟩
   rcases o with o| ⟨o1,o2⟩
   ·exact .inl o
   ·exact .inr ⟨o1,o2.le (by omega)⟩
  |yield d=>exact ⟨mh,o.1,o.2.le (by omega)⟩
 case post=>
  rintro ⟨t1,t2⟩ ag ⟨g',o⟩
  rcases o with ⟨r,e,res⟩ | ⟨e,QC⟩
  ·dsimp only at e
   subst e;exact wpS_pure ⟨g',r,rfl,res⟩
  ·dsimp only at e
   subst e;dsimp only;refine wpS_bind (wpS_lift (wpAny_rule ⟨rfl,?_⟩));refine wpS_bind (wpS_mono (wpS_forRange (I:=λ(x:Nat)(c':Option (Array Keyed)×Array Keyed×Nat×Nat×Nat×Nat×Nat)(ag:SortSt)=>GS bD ag∧c'.1=none∧Inv O key a b (n+1) c'.2.1 c'.2.2.1 c'.2.2.2.1) (Q:=λc' ag=>GS bD ag∧Fin O key a b (n+1) c') ?step2 ?fin2 ⟨g',rfl,QC⟩) ?post2)
   case fin2=>
    rintro c' ag ⟨g',h1,h2⟩;exact ⟨g', .inr ⟨h1,h2⟩⟩
   case step2=>
    rintro x c' ag _ _ ⟨g',h1,h2⟩;refine wpS_mono (D6 C (g'.kind.trans tQ) T g' c' h2) λr cz ⟨mh,o⟩=>?_;cases r with
    |done d=>exact ⟨mh,o⟩
    |yield d=>exact ⟨mh,o⟩
   case post2=>
    rintro ⟨u1,u2⟩ ag ⟨g',o⟩
    rcases o with ⟨r,e,res⟩ | ⟨e,Jj⟩
    ·dsimp only at e
     subst e;exact wpS_pure ⟨g',r,rfl,res⟩
    ·dsimp only at e
     subst e;refine wpS_bind (nX λzJ g1=>wpS_pure ⟨g'.trans g1,rfl,Jj⟩)
theorem zT(C:gn O key S k0 M A E s)(hk:kindOf st=k0)(T:lK O key S a b){Q:Array Keyed→SortSt→Prop}(q:∀r ag,GS st ag→Res O key (a.toList++b.toList) r.toList→Q r ag):wpS M A E s (nI a b) Q st:=by
 rw [zl];refine wpS_bind (wpS_lift (wpAny_rule ⟨rfl,?_⟩));obtain ⟨y,ey,my,ly⟩:=aY (xs:=b) (i:=0) T.nb;refine wpS_bind (aU ey ?_);have v0:MI O key (a.toList++b.toList) (#[]:Array Keyed).toList (a.toList.drop 0) (b.toList.drop 0):=⟨by simp,by simp,by simpa using T.sa,by simpa using T.sb,by simp⟩
 have v1:=IV.rW v0 ey (by simpa using T.first y ey)
 have e1:(#[]:Array Keyed).push y= #[y]:=rfl;rw [e1] at v1
 by_cases h1:1=b.size
 ·rw [if_pos (by simpa using h1)]
  exact wpS_pure (q _ _ (GS.refl _) (IV.rp v1 h1))
 ·rw [if_neg (by simpa using h1)]
  by_cases h2:0+1=a.size
  ·rw [if_pos (by simpa using h2)]
   exact wpS_pure (q _ _ (GS.refl _) (IV.last T v1 h2))
  ·rw [if_neg (by simpa using h2)]
   refine wpS_bind (wpS_get ?_);have na:=T.na;have nb:=T.nb;refine wpS_bind (wpS_mono (wpS_forRange (I:=λ(x:Nat)(c':Option (Array Keyed)×Array Keyed×Nat×Nat×Nat)(ag:SortSt)=>GS st ag∧c'.1=none∧Inv O key a b (x+1) c'.2.1 c'.2.2.1 c'.2.2.2.1) (Q:=λc' ag=>GS st ag∧∃r,c'.1=some r∧Res O key (a.toList++b.toList) r.toList) ?step ?fin ⟨GS.refl _,rfl,v1,by show 0+1<a.size;omega,by show 1<b.size;omega,by show 0+1≤0+1;omega⟩) ?post)
   case fin=>
    rintro c' ag ⟨g',h1,h2⟩
    have:=h2.2.2.2
    have:=h2.2.1
    have:=h2.2.2.1
    omega
   case step=>
    rintro x c' ag _ _ ⟨g',h1,h2⟩;refine wpS_mono (zQ C (g'.kind.trans hk) T g' hk c' h2) λr cz ⟨mh,o⟩=>?_;cases r with
    |done d=>exact ⟨mh,o⟩
    |yield d=>exact ⟨mh,o⟩
   case post=>
    rintro ⟨c1,c2⟩ ag ⟨g',r,e,res⟩;dsimp only at e;subst e;exact wpS_pure (q r ag g' res)
end
theorem w6(a b:Array Keyed):nH a b=(do
 rule "list.sort.merge-hi"
 let total:=a.size+b.size
 let done (out:Array Keyed) (na nb:Nat):=a.extract 0 na++b.extract 0 nb++out.reverse
 let nv (out:Array Keyed) (na nb:Nat):=b.extract 0 nb++a.extract 0 na++out.reverse
 let mut na:=a.size-1
 let mut nb:=b.size
 let mut out:Array Keyed:= #[←elem' a na]
 if na==0 then return done out na nb
 if nb==1 then return nv out na nb
 let mut minGallop:=gallopOf (←get)
 for _ in [0:total] do
  let mut acount:=0
  let mut bcount:=0
  for _ in [0:total] do
   let some BZ ←lt' (←elem' b (nb-1)) (←elem' a (na-1)) |return done out na nb
   if BZ then
    na:=na-1;out:=out.push (←elem' a na);acount:=acount+1;bcount:=0
    if na==0 then return done out na nb
    if acount≥minGallop then break
   else
    nb:=nb-1;out:=out.push (←elem' b nb);bcount:=bcount+1;acount:=0
    if nb==1 then return nv out na nb
    if bcount≥minGallop then break
  rule "list.sort.gallop"
  minGallop:=minGallop+1
  for _ in [0:total] do
   if minGallop>1 then minGallop:=minGallop-1
   setMinGallop' minGallop
   let some at_ ←eB false (←elem' b (nb-1)) a 0 na (na-1) |return done out na nb
   let k:=na-at_
   acount:=k
   if k>0 then
    out:=out++(a.extract at_ na).reverse;na:=at_
    if na==0 then return done out na nb
   nb:=nb-1;out:=out.push (←elem' b nb)
   if nb==1 then return nv out na nb
   let some at_ ←eB true (←elem' a (na-1)) b 0 nb (nb-1) |return done out na nb
   let k:=nb-at_
   bcount:=k
   if k>0 then
    out:=out++(b.extract at_ nb).reverse;nb:=at_
    if nb==1 then return nv out na nb
    if nb==0 then return done out na nb
   na:=na-1;out:=out.push (←elem' a na)
   if na==0 then return done out na nb
   if acount<7&&bcount<7 then break
  minGallop:=minGallop+1
  setMinGallop' minGallop
 unsupported "internal:list.sort.merge-bound"):=rfl
abbrev S7:=Option (Array Keyed)×Nat×Nat×Array Keyed×Nat×Nat×Nat
abbrev S6:=Option (Array Keyed)×Nat×Nat×Array Keyed×Nat×Nat
abbrev S5:=Option (Array Keyed)×Nat×Nat×Array Keyed×Nat
def iu(a b out:Array Keyed)(na nb:Nat):Array Keyed:=a.extract 0 na++b.extract 0 nb++out.reverse
def nz(a b out:Array Keyed)(na nb:Nat):Array Keyed:=b.extract 0 nb++a.extract 0 na++out.reverse
def yT(a b:Array Keyed)(mg ac bc na:Nat)(out:Array Keyed)(nb:Nat):StateT SortSt Sem (ForInStep S7):=do
 let x ←elem' a (na-1)
 if (na-1==0)=true then pure (ForInStep.done (some (iu a b (out.push x) (na-1) nb),na-1,nb,out.push x,mg,ac,bc))
 else if (decide (ac<7)&&decide (bc<7))=true then pure (ForInStep.done (none,na-1,nb,out.push x,mg,ac,bc))
 else pure (ForInStep.yield (none,na-1,nb,out.push x,mg,ac,bc))
def rB(a b:Array Keyed)(mg ac bc nb:Nat)(out:Array Keyed)(na:Nat):StateT SortSt Sem (ForInStep S7):=do
 let y ←elem' b (nb-1)
 if (nb-1==1)=true then pure (ForInStep.done (some (nz a b (out.push y) na (nb-1)),na,nb-1,out.push y,mg,ac,bc))
 else do
  let x ←elem' a (na-1)
  let __x ←eB true x b 0 (nb-1) (nb-1-1)
  match __x with
  |some p=>
   if nb-1-p>0 then
    if (p==1)=true then pure (ForInStep.done (some (nz a b (out.push y++(b.extract p (nb-1)).reverse) na p),na,p,out.push y++(b.extract p (nb-1)).reverse,mg,ac,nb-1-p))
    else if (p==0)=true then pure (ForInStep.done (some (iu a b (out.push y++(b.extract p (nb-1)).reverse) na p),na,p,out.push y++(b.extract p (nb-1)).reverse,mg,ac,nb-1-p))
    else yT a b mg ac (nb-1-p) na (out.push y++(b.extract p (nb-1)).reverse) p
   else yT a b mg ac (nb-1-p) na (out.push y) (nb-1)
  |_=>pure (ForInStep.done (some (iu a b (out.push y) na (nb-1)),na,nb-1,out.push y,mg,ac,bc))
def uP(a b:Array Keyed)(bc ac na nb:Nat)(out:Array Keyed)(mg:Nat):StateT SortSt Sem (ForInStep S7):=do
 setMinGallop' mg
 let y ←elem' b (nb-1)
 let __x ←eB false y a 0 na (na-1)
 match __x with
 |some p=>
  if na-p>0 then
   if (p==0)=true then pure (ForInStep.done (some (iu a b (out++(a.extract p na).reverse) p nb),p,nb,out++(a.extract p na).reverse,mg,na-p,bc))
   else rB a b mg (na-p) bc nb (out++(a.extract p na).reverse) p
  else rB a b mg (na-p) bc nb out na
 |_=>pure (ForInStep.done (some (iu a b out na nb),na,nb,out,mg,ac,bc))
def yV(a b:Array Keyed)(c:S7):StateT SortSt Sem (ForInStep S7):=
 if c.2.2.2.2.1>1 then uP a b c.2.2.2.2.2.2 c.2.2.2.2.2.1 c.2.1 c.2.2.1 c.2.2.2.1 (c.2.2.2.2.1-1) else uP a b c.2.2.2.2.2.2 c.2.2.2.2.2.1 c.2.1 c.2.2.1 c.2.2.2.1 c.2.2.2.2.1
def yU(a b:Array Keyed)(mg:Nat)(c:S6):StateT SortSt Sem (ForInStep S6):=do
 let y ←elem' b (c.2.2.1-1)
 let x ←elem' a (c.2.1-1)
 let __x ←lt' y x
 match __x with
 |some BZ=>
  if BZ=true then do
   let x ←elem' a (c.2.1-1)
   if (c.2.1-1==0)=true then pure (ForInStep.done (some (iu a b (c.2.2.2.1.push x) (c.2.1-1) c.2.2.1),c.2.1-1,c.2.2.1,c.2.2.2.1.push x,c.2.2.2.2.1+1,0))
   else if c.2.2.2.2.1+1≥mg then pure (ForInStep.done (none,c.2.1-1,c.2.2.1,c.2.2.2.1.push x,c.2.2.2.2.1+1,0))
   else pure (ForInStep.yield (none,c.2.1-1,c.2.2.1,c.2.2.2.1.push x,c.2.2.2.2.1+1,0))
  else do
   let y ←elem' b (c.2.2.1-1)
   if (c.2.2.1-1==1)=true then pure (ForInStep.done (some (nz a b (c.2.2.2.1.push y) c.2.1 (c.2.2.1-1)),c.2.1,c.2.2.1-1,c.2.2.2.1.push y,0,c.2.2.2.2.2+1))
   else if c.2.2.2.2.2+1≥mg then pure (ForInStep.done (none,c.2.1,c.2.2.1-1,c.2.2.2.1.push y,0,c.2.2.2.2.2+1))
   else pure (ForInStep.yield (none,c.2.1,c.2.2.1-1,c.2.2.2.1.push y,0,c.2.2.2.2.2+1))
 |_=>pure (ForInStep.done (some (iu a b c.2.2.2.1 c.2.1 c.2.2.1),c.2.1,c.2.2.1,c.2.2.2.1,c.2.2.2.2.1,c.2.2.2.2.2))
def qc(a b:Array Keyed)(__s:S5):StateT SortSt Sem (ForInStep S5):=do
 let __t ←forIn [0:a.size+b.size] ((none,__s.2.1,__s.2.2.1,__s.2.2.2.1,0,0):S6) λ_ c=>yU a b __s.2.2.2.2 c
 match __t.1 with
 |some r=>pure (ForInStep.done (some r,__t.2.1,__t.2.2.1,__t.2.2.2.1,__s.2.2.2.2))
 |none=>do
  liftM (rule "list.sort.gallop")
  let __u ←forIn [0:a.size+b.size] ((none,__t.2.1,__t.2.2.1,__t.2.2.2.1,__s.2.2.2.2+1,__t.2.2.2.2.1,__t.2.2.2.2.2):S7) λ_ c=>yV a b c
  match __u.1 with
  |some r=>pure (ForInStep.done (some r,__u.2.1,__u.2.2.1,__u.2.2.2.1,__u.2.2.2.2.1))
  |none=>do
   setMinGallop' (__u.2.2.2.2.1+1)
   pure (ForInStep.yield (none,__u.2.1,__u.2.2.1,__u.2.2.2.1,__u.2.2.2.2.1+1))
theorem zk(a b:Array Keyed):nH a b=(do
 liftM (rule "list.sort.merge-hi")
 let x ←elem' a (a.size-1)
 if (a.size-1==0)=true then pure (iu a b #[x] (a.size-1) b.size)
 else if (b.size==1)=true then pure (nz a b #[x] (a.size-1) b.size)
 else do
  let __do_lift ←get
  let __s ←forIn [0:a.size+b.size] ((none,a.size-1,b.size, #[x],gallopOf __do_lift):S5) λ_ c=>qc a b c
  match __s.1 with
  |some r=>pure r
  |none=>liftM (unsupported (α:=Array Keyed) "internal:list.sort.merge-bound")):=by
 rw [w6];dsimp only;refine cM rfl λ_=>cM rfl λy=>?_;refine congrArg (ite _ _) (congrArg (ite _ _) ?_);refine cM rfl λg=>cM (yN λ_ c=>?_) λu=>?_
 ·unfold qc
  refine cM (yN λ_ t=>?_) λt=>?_
  ·unfold yU
   refine cM rfl λ_=>cM rfl λ_=>cM rfl λz=>?_;cases z<;>rfl
  ·obtain ⟨t1,t2⟩:=t
   cases t1 with
   |some r=>rfl
   |none=>
    dsimp only;refine cM rfl λ_=>cM (yN λ_ u=>?_) λu=>?_
    ·unfold yV
     refine eO (λ_=>?_) (λ_=>?_)
     all_goals
      unfold uP;refine cM rfl λ_=>cM rfl λ_=>cM rfl λz=>?_;cases z with
      |none=>rfl
      |some k=>
       dsimp only;refine eO (λ_=>?_) (λ_=>?_)
       ·refine eO (λ_=>rfl) (λ_=>?_)
        unfold rB;refine cM rfl λ_=>eO (λ_=>rfl) (λ_=>cM rfl λ_=>cM rfl λz=>?_);cases z with
        |none=>rfl
        |some k=>rfl
       ·unfold rB
        refine cM rfl λ_=>eO (λ_=>rfl) (λ_=>cM rfl λ_=>cM rfl λz=>?_);cases z with
        |none=>rfl
        |some k=>rfl
    ·obtain ⟨u1,u2⟩:=u
     cases u1<;>rfl
 ·obtain ⟨u1,u2⟩:=u
  cases u1<;>rfl
def NK(O:KeyOrd):KeyOrd:={α:=O.α,blt:=λa b=>O.blt b a,irrefl:=O.irrefl,trans:=λa b c h1 h2=>O.trans _ _ _ h2 h1,negTrans:=λa b c h=>(O.negTrans c b a h).symm,total:=λa b h1 h2=>O.total a b h2 h1}
section
variable {O:KeyOrd} {key:Keyed→O.α} {S:Keyed→Prop} {k0:SortKind} {M:Model} {A:Around} {E:Value→Shared→Prop} {s:Shared} {st bD:SortSt} {a b:Array Keyed}
abbrev MJ(O:KeyOrd)(key:Keyed→O.α)(a b out:Array Keyed)(na nb:Nat):Prop:=MI (NK O) key (a.toList++b.toList) out.toList (a.toList.take na).reverse (b.toList.take nb).reverse
theorem rX{l r:List Keyed}(h:Res (NK O) key l r.reverse):Res O key l r:=
 ⟨(List.reverse_perm r).symm.trans h.1,by
   have:=List.pairwise_reverse.mp h.2
   exact this.imp λh=>h⟩
theorem xF(xs:Array Keyed)(n:Nat):(xs.extract 0 n).toList=xs.toList.take n:=by rw [ext_toList];simp
theorem yp{xs:Array Keyed}{n:Nat}{x:Keyed}(hn:1≤n)(h:xs[n-1]? =some x):(xs.toList.take n).reverse=x::(xs.toList.take (n-1)).reverse:=by
 have h':=j8 h;obtain ⟨bG,e⟩:=cF.mp h'
 have:xs.toList.take n=xs.toList.take (n-1)++ [x]:=by
  have:=List.take_succ_eq_append_getElem bG
  rw [show n-1+1=n by omega,e] at this
  exact this
 rw [this,wz];rfl
theorem mS(l:List Keyed){p n:Nat}(h:p≤n):l.take n=l.take p++(l.drop p).take (n-p):=by
 conv=>lhs;rw [←kq p (l.take n)]
 rw [List.take_take,show min p n=p by omega,List.drop_take]
theorem fV{l:List Keyed}{n:Nat}{x:Keyed}(h:x∈l.take n):∃j,j<n∧j<l.length∧l[j]? =some x:=by
 have:=dN (l:=l) (i:=0) (k:=n) (x:=x) (by simpa using h)
 obtain ⟨j,h1,h2,h3⟩:=this;exact ⟨j,h1,by simpa using h2,by simpa using h3⟩
theorem MJ.rV{out:Array Keyed}{na nb:Nat}{x:Keyed}(v:MJ O key a b out na nb)(hn:1≤na)(hx:a[na-1]? =some x)(h:∀y∈b.toList.take nb,LE O key y x):MJ O key a b (out.push x) (na-1) nb:=by
 unfold MJ at v ⊢;rw [yp hn hx] at v;rw [yy];exact MI.kN (xs:= [x]) v λz hz y hy=>by rw [eE.mp hz];exact h y (tH.mp hy)
theorem MJ.rW{out:Array Keyed}{na nb:Nat}{y:Keyed}(v:MJ O key a b out na nb)(hn:1≤nb)(hy:b[nb-1]? =some y)(h:∀x∈a.toList.take na,LE O key x y):MJ O key a b (out.push y) na (nb-1):=by
 unfold MJ at v ⊢;rw [yp hn hy] at v;rw [yy];exact MI.kO (xs:= [y]) v λz hz x hx=>by rw [eE.mp hz];exact h x (tH.mp hx)
theorem MJ.kN{out:Array Keyed}{na nb p:Nat}(v:MJ O key a b out na nb)(hp:p≤na)(h:∀x∈(a.toList.drop p).take (na-p),∀y∈b.toList.take nb,LE O key y x):MJ O key a b (out++(a.extract p na).reverse) p nb:=by
 unfold MJ at v ⊢;rw [mS a.toList hp,wz] at v;rw [gk,BN,ext_toList];exact MI.kN v λx hx y hy=>h x (tH.mp hx) y (tH.mp hy)
theorem MJ.kO{out:Array Keyed}{na nb p:Nat}(v:MJ O key a b out na nb)(hp:p≤nb)(h:∀y∈(b.toList.drop p).take (nb-p),∀x∈a.toList.take na,LE O key x y):MJ O key a b (out++(b.extract p nb).reverse) na p:=by
 unfold MJ at v ⊢;rw [mS b.toList hp,wz] at v;rw [gk,BN,ext_toList];exact MI.kO v λx hx y hy=>h x (tH.mp hx) y (tH.mp hy)
theorem MJ.rm{out:Array Keyed}{nb:Nat}(v:MJ O key a b out 0 nb):Res O key (a.toList++b.toList) (iu a b out 0 nb).toList:=by
 refine rX ?_;unfold iu MJ at*;rw [gk,gk,xF,xF,BN,wo,tI,wz,List.reverse_reverse];rw [wo,List.reverse_nil] at v;exact v.swap.Ax
theorem MJ.rp{out:Array Keyed}{na:Nat}(v:MJ O key a b out na 0):Res O key (a.toList++b.toList) (iu a b out na 0).toList:=by
 refine rX ?_;unfold iu MJ at*;rw [gk,gk,xF,xF,BN,wo,iK,wz,List.reverse_reverse];rw [wo,List.reverse_nil] at v;exact v.Ax
theorem MJ.first(T:lK O key S a b){out:Array Keyed}{na:Nat}(v:MJ O key a b out na 1):Res O key (a.toList++b.toList) (nz a b out na 1).toList:=by
 refine rX ?_;have h:=v.swap.y9 λx hx y hy=>?_
 ·unfold nz
  rw [gk,gk,xF,xF,BN,wz,List.reverse_reverse,wz,←m7];exact h
 ·obtain ⟨j,h1,_,e⟩:=fV (tH.mp hy)
  have:j=0:=by omega
  subst this;exact T.first y (jy e) x (List.mem_of_mem_take (tH.mp hx))
def nY(O:KeyOrd)(key:Keyed→O.α)(a b:Array Keyed)(n:Nat)(na nb:Nat)(out:Array Keyed):Prop:=MJ O key a b out na nb∧1≤na∧na≤a.size∧2≤nb∧nb≤b.size∧n+na+nb≤a.size+b.size
def OG{ρ:Type}(O:KeyOrd)(key:Keyed→O.α)(a b:Array Keyed)(n:Nat)(c:Option (Array Keyed)×Nat×Nat×Array Keyed×ρ):Prop:=
 (∃r,c.1=some r∧Res O key (a.toList++b.toList) r.toList)∨(c.1=none∧nY O key a b n c.2.1 c.2.2.1 c.2.2.2.1)
def GZ{ρ:Type}(O:KeyOrd)(key:Keyed→O.α)(a b:Array Keyed)(n:Nat)(r:ForInStep (Option (Array Keyed)×Nat×Nat×Array Keyed×ρ)):Prop:=match r with
 | .done c=>OG O key a b n c
 | .yield c=>c.1=none∧nY O key a b n c.2.1 c.2.2.1 c.2.2.2.1
def RL{ρ:Type}(O:KeyOrd)(key:Keyed→O.α)(a b:Array Keyed)(n:Nat)(r:ForInStep (Option (Array Keyed)×Nat×Nat×Array Keyed×ρ)):Prop:=match r with
 | .done c=>∃r,c.1=some r∧Res O key (a.toList++b.toList) r.toList
 | .yield c=>c.1=none∧nY O key a b n c.2.1 c.2.2.1 c.2.2.2.1
theorem wb{n mg ac bc na nb:Nat}{out:Array Keyed}(g:GS bD st)(v:MJ O key a b out na nb)(h1:1≤na)(h2:na≤a.size)(h3:2≤nb)(h4:nb≤b.size)(hn:n+na+nb≤a.size+b.size)
  (hx:∀x,a[na-1]? =some x→∀y∈b.toList.take nb,LE O key y x):wpS M A E s (yT a b mg ac bc na out nb) (λr ag=>GS bD ag∧GZ O key a b n r) st:=by
 unfold yT;obtain ⟨x,ex,mx,_⟩:=aY (xs:=a) (i:=na-1) (by omega)
 refine wpS_bind (aU ex ?_);have v':=MJ.rV v h1 ex (hx x ex)
 by_cases e:na-1=0
 ·rw [if_pos (by simpa using e)]
  rw [e] at v' ⊢;exact wpS_pure ⟨g, .inl ⟨_,rfl,v'.rm⟩⟩
 ·rw [if_neg (by simpa using e)]
  have iv:nY O key a b n (na-1) nb (out.push x):=⟨v',by omega,by omega,h3,h4,by omega⟩
  by_cases h2:(decide (ac<7)&&decide (bc<7))=true
  ·rw [if_pos h2]
   exact wpS_pure ⟨g, .inr ⟨rfl,iv⟩⟩
  ·rw [if_neg h2]
   exact wpS_pure ⟨g,rfl,iv⟩
theorem wa(C:gn O key S k0 M A E s)(hk:kindOf st=k0){n mg ac bc na nb:Nat}{out:Array Keyed}(T:lK O key S a b)(g:GS bD st)(v:MJ O key a b out na nb)(h1:1≤na)(h2:na≤a.size)(h3:2≤nb)(h4:nb≤b.size)(hn:n+na+nb≤a.size+b.size)
  (hy:∀y,b[nb-1]? =some y→∀x∈a.toList.take na,LE O key x y):wpS M A E s (rB a b mg ac bc nb out na) (λr ag=>GS bD ag∧GZ O key a b n r) st:=by
 unfold rB;obtain ⟨y,ey,my,_⟩:=aY (xs:=b) (i:=nb-1) (by omega)
 refine wpS_bind (aU ey ?_);have v':=MJ.rW v (by omega) ey (hy y ey)
 by_cases e:nb-1=1
 ·rw [if_pos (by simpa using e)]
  rw [e] at v' ⊢;exact wpS_pure ⟨g, .inl ⟨_,rfl,MJ.first T v'⟩⟩
 ·rw [if_neg (by simpa using e)]
  obtain ⟨x,ex,mx,lx⟩:=aY (xs:=a) (i:=na-1) (by omega)
  refine wpS_bind (aU ex ?_)
  have xge:∀z∈a.toList.take na,LE O key z x:=λz hz=>by
   obtain ⟨j,hj,_,ej⟩:=fV hz;exact fo T.sa (by omega) ej lx
  have z9:∀j z,b.toList[j]? =some z→b[0+j]?.getD (Value.none,Value.none)=z:=λj z e=>by rw [ng,jy e];rfl
  refine wpS_bind (gd C (nV T.mb (i:=0) (n:=nb-1) (by omega)) (T.ma x mx) hk (by omega) (λi j dm hj h=>?_) λp hp pt pf=>?_)
  ·obtain ⟨yi,e1,_,l1⟩:=aY (xs:=b) (i:=0+i) (by omega)
   obtain ⟨yj,e2,_,l2⟩:=aY (xs:=b) (i:=0+j) (by omega)
   unfold dk at h ⊢;rw [if_pos rfl] at h ⊢;rw [e2] at h;rw [e1];exact KeyOrd.klt_of_kle_of_klt (fo T.sb (by omega) l1 l2) h
  ·have hi:∀y∈(b.toList.drop p).take (nb-1-p),∀x∈a.toList.take na,LE O key x y:=λz hz u hu=>by
    obtain ⟨j,hj,hl,ej⟩:=dN hz
    have:=pf (p+j) (by omega) (by omega)
    unfold dk at this;rw [if_pos rfl,z9 (p+j) z ej] at this;exact KeyOrd.kle_trans (xge u hu) this
   have lo:∀x',a[na-1]? =some x'→∀y∈b.toList.take p,LE O key y x':=λx' n5 z hz=>by
    rw [ex] at n5;cases n5;obtain ⟨j,hj,_,ej⟩:=fV hz
    have:=pt j hj
    unfold dk at this;rw [if_pos rfl,z9 j z ej] at this;exact KeyOrd.kle_of_klt this
   dsimp only
   by_cases uT:nb-1-p>0
   ·rw [if_pos uT]
    have v2:=MJ.kO v' hp hi
    by_cases e1:p=1
    ·rw [if_pos (by simpa using e1)]
     subst e1;exact wpS_pure ⟨g, .inl ⟨_,rfl,MJ.first T v2⟩⟩
    ·rw [if_neg (by simpa using e1)]
     by_cases e2:p=0
     ·rw [if_pos (by simpa using e2)]
      subst e2;exact wpS_pure ⟨g, .inl ⟨_,rfl,v2.rp⟩⟩
     ·rw [if_neg (by simpa using e2)]
      exact wb g v2 h1 h2 (by omega) (by omega) (by omega) lo
   ·rw [if_neg uT]
    have:p=nb-1:=by omega
    subst this;exact wb g v' h1 h2 (by omega) (by omega) (by omega) lo
theorem v9(C:gn O key S k0 M A E s)(hk:kindOf st=k0){n mg ac bc na nb:Nat}{out:Array Keyed}(T:lK O key S a b)(g:GS bD st)(iv:nY O key a b n na nb out):wpS M A E s (uP a b bc ac na nb out mg) (λr ag=>GS bD ag∧GZ O key a b n r) st:=by
 obtain ⟨v,h1,h2,h3,h4,hn⟩:=iv;unfold uP;refine wpS_bind (nX λzJ g1=>?_);have wU:kindOf zJ=k0:=g1.kind.trans hk;have g':=g.trans g1;obtain ⟨y,ey,my,ly⟩:=aY (xs:=b) (i:=nb-1) (by omega)
 refine wpS_bind (aU ey ?_)
 have yge:∀z∈b.toList.take nb,LE O key z y:=λz hz=>by
  obtain ⟨j,hj,_,ej⟩:=fV hz;exact fo T.sb (by omega) ej ly
 have og:∀j z,a.toList[j]? =some z→a[0+j]?.getD (Value.none,Value.none)=z:=λj z e=>by rw [ng,jy e];rfl
 refine wpS_bind (gd C (nV T.ma (i:=0) (n:=na) (by omega)) (T.mb y my) wU (by omega) (λi j dm hj h=>?_) λp hp pt pf=>?_)
 ·obtain ⟨xi,e1,_,l1⟩:=aY (xs:=a) (i:=0+i) (by omega)
  obtain ⟨xj,e2,_,l2⟩:=aY (xs:=a) (i:=0+j) (by omega)
  unfold dk at h ⊢;rw [if_neg (by decide)] at h ⊢
  rw [e2] at h;rw [e1];have h':O.kle (key xj) (key y):=by unfold KeyOrd.kle;simpa using h
  have:=KeyOrd.kle_trans (fo T.sa (by omega) l1 l2) h'
  unfold KeyOrd.kle at this;simpa using this
 ·have hi:∀x∈(a.toList.drop p).take (na-p),∀y∈b.toList.take nb,LE O key y x:=λz hz u hu=>by
   obtain ⟨j,hj,hl,ej⟩:=dN hz
   have:=pf (p+j) (by omega) (by omega)
   unfold dk at this;rw [if_neg (by decide),og (p+j) z ej] at this
   exact KeyOrd.kle_trans (yge u hu) (KeyOrd.kle_of_klt (show O.blt _ _=true by simpa using this))
  have lo:∀y',b[nb-1]? =some y'→∀x∈a.toList.take p,LE O key x y':=λy' lZ z hz=>by
   rw [ey] at lZ;cases lZ;obtain ⟨j,hj,_,ej⟩:=fV hz
   have:=pt j hj
   unfold dk at this;rw [if_neg (by decide),og j z ej] at this
   show O.blt _ _=false;simpa using this
  dsimp only
  by_cases uT:na-p>0
  ·rw [if_pos uT]
   have v2:=MJ.kN v hp hi
   by_cases e1:p=0
   ·rw [if_pos (by simpa using e1)]
    subst e1;exact wpS_pure ⟨g', .inl ⟨_,rfl,v2.rm⟩⟩
   ·rw [if_neg (by simpa using e1)]
    exact wa C wU T g' v2 (by omega) (by omega) h3 h4 (by omega) lo
  ·rw [if_neg uT]
   have:p=na:=by omega
   subst this;exact wa C wU T g' v h1 h2 h3 h4 hn lo
theorem D4(C:gn O key S k0 M A E s)(hk:kindOf st=k0){n:Nat}(T:lK O key S a b)(g:GS bD st)(c:S7)(iv:nY O key a b n c.2.1 c.2.2.1 c.2.2.2.1):
  wpS M A E s (yV a b c) (λr ag=>GS bD ag∧GZ O key a b n r) st:=by
 unfold yV
 by_cases h:c.2.2.2.2.1>1
 ·rw [if_pos h];exact v9 C hk T g iv
 ·rw [if_neg h];exact v9 C hk T g iv
theorem D3(C:gn O key S k0 M A E s)(hk:kindOf st=k0){n mg:Nat}(T:lK O key S a b)(g:GS bD st)(c:S6)(iv:nY O key a b n c.2.1 c.2.2.1 c.2.2.2.1):
  wpS M A E s (yU a b mg c) (λr ag=>GS bD ag∧GZ O key a b (n+1) r) st:=by
 obtain ⟨c1,na,nb,out,ac,bc⟩:=c;obtain ⟨v,h1,h2,h3,h4,hn⟩:=iv;dsimp only at v h1 h2 h3 h4 hn;unfold yU;dsimp only;obtain ⟨y,ey,my,ly⟩:=aY (xs:=b) (i:=nb-1) (by omega)
 obtain ⟨x,ex,mx,lx⟩:=aY (xs:=a) (i:=na-1) (by omega)
 refine wpS_bind (aU ey (wpS_bind (aU ex (wpS_bind (C _ _ _ _ (T.mb y my) (T.ma x mx) hk ?_)))));cases e:O.blt (key y) (key x) with
 |true=>
  dsimp only;rw [if_pos rfl];refine wpS_bind (aU ex ?_)
  have v':=MJ.rV v h1 ex λz hz=>by
   obtain ⟨j,hj,_,ej⟩:=fV hz;exact KeyOrd.kle_trans (fo T.sb (by omega) ej ly) (KeyOrd.kle_of_klt e)
  by_cases e1:na-1=0
  ·rw [if_pos (by simpa using e1)]
   rw [e1] at v' ⊢;exact wpS_pure ⟨g, .inl ⟨_,rfl,v'.rm⟩⟩
  ·rw [if_neg (by simpa using e1)]
   have iv:nY O key a b (n+1) (na-1) nb (out.push x):=⟨v',by omega,by omega,h3,h4,by omega⟩
   by_cases h2:ac+1≥mg
   ·rw [if_pos h2];exact wpS_pure ⟨g, .inr ⟨rfl,iv⟩⟩
   ·rw [if_neg h2];exact wpS_pure ⟨g,rfl,iv⟩
 |false=>
  dsimp only;rw [if_neg (by decide)]
  refine wpS_bind (aU ey ?_)
  have v':=MJ.rW v (by omega) ey λz hz=>by
   obtain ⟨j,hj,_,ej⟩:=fV hz;exact KeyOrd.kle_trans (fo T.sa (by omega) ej lx) e
  by_cases e1:nb-1=1
  ·rw [if_pos (by simpa using e1)]
   rw [e1] at v' ⊢;exact wpS_pure ⟨g, .inl ⟨_,rfl,MJ.first T v'⟩⟩
  ·rw [if_neg (by simpa using e1)]
   have iv:nY O key a b (n+1) na (nb-1) (out.push y):=⟨v',by omega,by omega,by omega,by omega,by omega⟩
   by_cases h2:bc+1≥mg
   ·rw [if_pos h2];exact wpS_pure ⟨g, .inr ⟨rfl,iv⟩⟩
   ·rw [if_neg h2];exact wpS_pure ⟨g,rfl,iv⟩
theorem nY.le{n m:Nat}{out:Array Keyed}{na nb:Nat}(h:nY O key a b n na nb out)(hm:m≤n):nY O key a b m na nb out:=⟨h.1,h.2.1,h.2.2.1,h.2.2.2.1,h.2.2.2.2.1,by have:=h.2.2.2.2.2;omega⟩
theorem zP(C:gn O key S k0 M A E s){n:Nat}(T:lK O key S a b)(g:GS bD st)(tQ:kindOf bD=k0)(c:S5)(iv:nY O key a b n c.2.1 c.2.2.1 c.2.2.2.1):
  wpS M A E s (qc a b c) (λr ag=>GS bD ag∧RL O key a b (n+1) r) st:=by
 have U6:0<a.size+b.size:=by have:=T.na;omega
 unfold qc;refine wpS_bind (wpS_mono (wpS_forRange (I:=λ(x:Nat)(c':S6)(ag:SortSt)=>GS bD ag∧c'.1=none∧nY O key a b (n+min x 1) c'.2.1 c'.2.2.1 c'.2.2.2.1) (Q:=λc' ag=>GS bD ag∧OG O key a b (n+1) c') ?step ?fin ⟨g,rfl,iv.le (by omega)⟩) ?post)
 case fin=>
  rintro c' ag ⟨g',h1,h2⟩;exact ⟨g', .inr ⟨h1,h2.le (by omega)⟩⟩
 case step=>
  rintro x c' ag _ _ ⟨g',h1,h2⟩;refine wpS_mono (D3 C (g'.kind.trans tQ) T g' c' h2) λr cz ⟨mh,o⟩=>?_;cases r with
  |done d=>
   refine ⟨mh,?_⟩
   rcases o with o| ⟨o1,o2⟩
   ·exact .inl o
   ·exact .inr ⟨o1,o2.le (by omega)⟩
  |yield d=>exact ⟨mh,o.1,o.2.le (by omega)⟩
 case post=>
  rintro ⟨t1,t2⟩ ag ⟨g',o⟩
  rcases o with ⟨r,e,res⟩ | ⟨e,QC⟩
  ·dsimp only at e
   subst e;exact wpS_pure ⟨g',r,rfl,res⟩
  ·dsimp only at e
   subst e;dsimp only;refine wpS_bind (wpS_lift (wpAny_rule ⟨rfl,?_⟩));refine wpS_bind (wpS_mono (wpS_forRange (I:=λ(x:Nat)(c':S7)(ag:SortSt)=>GS bD ag∧c'.1=none∧nY O key a b (n+1) c'.2.1 c'.2.2.1 c'.2.2.2.1) (Q:=λc' ag=>GS bD ag∧OG O key a b (n+1) c') ?step2 ?fin2 ⟨g',rfl,QC⟩) ?post2)
   case fin2=>
    rintro c' ag ⟨g',h1,h2⟩;exact ⟨g', .inr ⟨h1,h2⟩⟩
   case step2=>
    rintro x c' ag _ _ ⟨g',h1,h2⟩;refine wpS_mono (D4 C (g'.kind.trans tQ) T g' c' h2) λr cz ⟨mh,o⟩=>?_;cases r with
    |done d=>exact ⟨mh,o⟩
    |yield d=>exact ⟨mh,o⟩
   case post2=>
    rintro ⟨u1,u2⟩ ag ⟨g',o⟩
    rcases o with ⟨r,e,res⟩ | ⟨e,Jj⟩
    ·dsimp only at e
     subst e;exact wpS_pure ⟨g',r,rfl,res⟩
    ·dsimp only at e
     subst e;refine wpS_bind (nX λzJ g1=>wpS_pure ⟨g'.trans g1,rfl,Jj⟩)
theorem zS(C:gn O key S k0 M A E s)(hk:kindOf st=k0)(T:lK O key S a b){Q:Array Keyed→SortSt→Prop}(q:∀r ag,GS st ag→Res O key (a.toList++b.toList) r.toList→Q r ag):wpS M A E s (nH a b) Q st:=by
 rw [zk];refine wpS_bind (wpS_lift (wpAny_rule ⟨rfl,?_⟩));have na:=T.na;have nb:=T.nb;obtain ⟨x,ex,mx,lx⟩:=aY (xs:=a) (i:=a.size-1) (by omega)
 refine wpS_bind (aU ex ?_)
 have v0:MJ O key a b #[] a.size b.size:=by
  refine ⟨?_,by simp,?_,?_,by simp⟩
  ·rw [mZ (by simp),mZ (by simp)]
   simpa using (List.reverse_perm a.toList).append (List.reverse_perm b.toList)
  ·rw [mZ (by simp)]
   exact List.pairwise_reverse.mpr (T.sa.imp λh=>h)
  ·rw [mZ (by simp)]
   exact List.pairwise_reverse.mpr (T.sb.imp λh=>h)
 have v1:=MJ.rV v0 na ex λy hy=>T.last x ex y (List.mem_of_mem_take hy);have e1:(#[]:Array Keyed).push x= #[x]:=rfl;rw [e1] at v1
 by_cases h1:a.size-1=0
 ·rw [if_pos (by simpa using h1)]
  rw [h1] at v1 ⊢;exact wpS_pure (q _ _ (GS.refl _) v1.rm)
 ·rw [if_neg (by simpa using h1)]
  by_cases h2:b.size=1
  ·rw [if_pos (by simpa using h2)]
   rw [h2] at v1 ⊢;exact wpS_pure (q _ _ (GS.refl _) (MJ.first T v1))
  ·rw [if_neg (by simpa using h2)]
   refine wpS_bind (wpS_get ?_);refine wpS_bind (wpS_mono (wpS_forRange (I:=λ(x:Nat)(c':S5)(ag:SortSt)=>GS st ag∧c'.1=none∧nY O key a b (x+1) c'.2.1 c'.2.2.1 c'.2.2.2.1) (Q:=λc' ag=>GS st ag∧∃r,c'.1=some r∧Res O key (a.toList++b.toList) r.toList) ?step ?fin ⟨GS.refl _,rfl,v1,by show 1≤a.size-1;omega,by show a.size-1≤a.size;omega,by show 2≤b.size;omega,aV _,by show 0+1+(a.size-1)+b.size≤a.size+b.size;omega⟩) ?post)
   case fin=>
    rintro c' ag ⟨g',h1,h2⟩
    have:=h2.2.2.2.2.2
    have:=h2.2.1
    omega
   case step=>
    rintro x c' ag _ _ ⟨g',h1,h2⟩;refine wpS_mono (zP C T g' hk c' h2) λr cz ⟨mh,o⟩=>?_;cases r with
    |done d=>exact ⟨mh,o⟩
    |yield d=>exact ⟨mh,o⟩
   case post=>
    rintro ⟨c1,c2⟩ ag ⟨g',r,e,res⟩;dsimp only at e;subst e;exact wpS_pure (q r ag g' res)
end
theorem zj(i:Nat):mergeAt' i=(do
 let s ←get
 let (some (sa,na,power),some (sb,nb,_)):=((pendingOf s)[i]?,(pendingOf s)[i+1]?) |unsupported "internal:list.sort.pending"
 set (setPending s (((pendingOf s).setIfInBounds i (sa,na+nb,power)).eraseIdxIfInBounds (i+1)))
 let some k ←eB false (←elem' (arrOf s) sb) (arrOf s) sa na 0|return false
 let (sa,na):=(sa+k,na-k)
 if na==0 then return true
 let some nb ←eB true (←elem' (arrOf s) (sa+na-1)) (arrOf s) sb nb (nb-1) |return false
 if nb==0 then return true
 let x:=(arrOf s).extract sa sb
 let y:=(arrOf s).extract sb (sb+nb)
 let merged ←if na≤nb then nI x y else nH x y
 modify λs=>setArr s (merged.toList.zipIdx.foldl (λa (p,j)=>a.setIfInBounds (sa+j) p) (arrOf s))
 return (failedOf (←get)).isNone):=rfl
theorem oU:∀(m:List Keyed)(off b:Nat)(xs:Array Keyed),b+off+m.length≤xs.size→
  ((m.zipIdx off).foldl (λa (p:Keyed×Nat)=>a.setIfInBounds (b+p.2) p.1) xs).size=xs.size∧∀i,((m.zipIdx off).foldl (λa (p:Keyed×Nat)=>a.setIfInBounds (b+p.2) p.1) xs)[i]? =if b+off≤i∧i<b+off+m.length then m[i-(b+off)]? else xs[i]?
 | [],off,b,xs,_=>⟨rfl,λi=>by rw [if_neg (by simp)];rfl⟩
 |x::m,off,b,xs,h=>by
  rw [cp] at h;have ih:=oU m (off+1) b (xs.setIfInBounds (b+off) x) (by rw [Array.size_setIfInBounds];omega)
  rw [List.zipIdx_cons,List.foldl_cons];refine ⟨by rw [ih.1,Array.size_setIfInBounds],λi=>?_⟩
  rw [ih.2 i]
  by_cases h1:b+(off+1)≤i∧i<b+(off+1)+m.length
  ·rw [if_pos h1,if_pos (by rw [cp];omega),show i-(b+off)=(i-(b+(off+1)))+1 by omega,qS]
  ·rw [if_neg h1,Array.getElem?_setIfInBounds]
   by_cases h2:b+off=i
   ·rw [if_pos h2,if_pos (by omega),if_pos (by rw [cp];omega),←h2,qX];rfl
   ·rw [if_neg h2,if_neg (by rw [cp];omega)]
def putAt(xs m:Array Keyed)(b:Nat):Array Keyed:=m.toList.zipIdx.foldl (λa (p:Keyed×Nat)=>a.setIfInBounds (b+p.2) p.1) xs
theorem vD{xs m:Array Keyed}{b:Nat}(h:b+m.size≤xs.size)(i:Nat):(putAt xs m b)[i]? =if b≤i∧i<b+m.size then m[i-b]? else xs[i]? :=by
 have:=(oU m.toList 0 b xs (by simpa using h)).2 i
 unfold putAt;rw [this];simp
theorem Bg{xs m:Array Keyed}{b:Nat}(h:b+m.size≤xs.size):(putAt xs m b).size=xs.size:=(oU m.toList 0 b xs (by simpa using h)).1
theorem Bf{xs m:Array Keyed}{b:Nat}(h:b+m.size≤xs.size)(p:m.toList.Perm ((xs.toList.drop b).take m.size)):(putAt xs m b).Perm xs:=by
 rw [E6]
 have e:(putAt xs m b).toList=xs.toList.take b++(m.toList++xs.toList.drop (b+m.size)):=by
  apply oJ;intro i;rw [eU,vD h,List.getElem?_append,List.getElem?_append,iI,cu,cu,zX,wB,eU,eU,eU]
  repeat' split
  all_goals first|rfl| (exfalso;omega) | (congr 1;omega)
 have e2:xs.toList=xs.toList.take b++((xs.toList.drop b).take m.size++xs.toList.drop (b+m.size)):=by
  conv=>lhs;rw [←kq b xs.toList,lW xs.toList b m.size]
 rw [e]
 conv=>rhs;rw [e2]
 exact List.Perm.append_left _ (p.append_right _)
section
variable {O:KeyOrd} {key:Keyed→O.α} {S:Keyed→Prop} {k0:SortKind} {prog:Program} {w:World} {A:Around} {E:Value→Shared→Prop} {s:Shared} {st bD:SortSt}
theorem KH{M:Model}{ag:SortSt}{Q:PUnit→SortSt→Prop}(h:Q ⟨⟩ ag):wpS M A E s (set ag:StateT SortSt Sem PUnit) Q st:=by
 unfold wpS;rw [StateT.run_set];exact wpAny_pure ⟨rfl,h⟩
theorem eQ{xs:Array Keyed}{a b:Nat}(h:iM O key xs a b){i j:Nat}{x y:Keyed}(ha:a≤i)(dm:i≤j)(hj:j<b)(hx:xs[i]? =some x)(hy:xs[j]? =some y):LE O key x y:=by
 have:=h i j ha dm hj
 unfold ky at this;rw [hx,hy] at this;exact this
theorem zI{xs:Array Keyed}{a b:Nat}(hb:b≤xs.size)(h:∀i j x y,a≤i→i≤j→j<b→xs[i]? =some x→xs[j]? =some y→LE O key x y):iM O key xs a b:=λi j ha dm hj=>by
 obtain ⟨x,ex,_,_⟩:=aY (xs:=xs) (i:=i) (by omega)
 obtain ⟨y,ey,_,_⟩:=aY (xs:=xs) (i:=j) (by omega)
 unfold ky;rw [ex,ey];exact h i j x y ha dm hj ex ey
theorem ext_get{xs:Array Keyed}{a b i:Nat}(hb:b≤xs.size)(hi:i<b-a):(xs.extract a b)[i]? =xs[a+i]? :=by
 rw [Array.getElem?_extract,if_pos (by omega)]
theorem ext_mem{xs:Array Keyed}{a b:Nat}{x:Keyed}(h:x∈(xs.extract a b).toList):∃i,a≤i∧i<b∧i<xs.size∧xs[i]? =some x:=by
 rw [ext_toList] at h;obtain ⟨j,h1,h2,h3⟩:=dN h;rw [cu] at h2;exact ⟨a+j,by omega,by omega,h2,jy h3⟩
theorem Es{xs:Array Keyed}{a b:Nat}(h:iM O key xs a b)(hb:b≤xs.size):(xs.extract a b).toList.Pairwise (LE O key):=by
 rw [wu];intro i j hi hj dm;have hs:(xs.extract a b).toList.length=b-a:=by rw [cu,yw];omega
 rw [hs] at hi hj;have gi:=ext_get (xs:=xs) (a:=a) hb hi;have gj:=ext_get (xs:=xs) (a:=a) hb hj;refine eQ h (i:=a+i) (j:=a+j) (by omega) (by omega) (by omega) ?_ ?_
 ·rw [←gi,←eU];exact dh _
 ·rw [←gj,←eU];exact dh _
theorem zR(C:gn O key S k0 (model prog w) A E s){i sa na nb pw GB:Nat}{Q:Bool→SortSt→Prop}(o:Ok S k0 st)(hf:failedOf st=none)(p1:(pendingOf st)[i]? =some (sa,na,pw))(p2:(pendingOf st)[i+1]? =some (sa+na,nb,GB))(hna:1≤na)(Lw:1≤nb)(fS:sa+na+nb≤(arrOf st).size)
  (s1:iM O key (arrOf st) sa (sa+na)) (s2:iM O key (arrOf st) (sa+na) (sa+na+nb))
  (q:∀ag,(arrOf ag).Perm (arrOf st)→kindOf ag=kindOf st→failedOf ag=none→pendingOf ag=((pendingOf st).setIfInBounds i (sa,na+nb,pw)).eraseIdxIfInBounds (i+1)→(∀j,j<sa∨sa+na+nb≤j→(arrOf ag)[j]? =(arrOf st)[j]?)→iM O key (arrOf ag) sa (sa+(na+nb))→Q true ag):
  wpS (model prog w) A E s (mergeAt' i) Q st:=by
 rw [zj];refine wpS_bind (wpS_get ?_);rw [p1,p2];dsimp only;refine wpS_bind (KH ?_);generalize ((pendingOf st).setIfInBounds i (sa,na+nb,pw)).eraseIdxIfInBounds (i+1)=pn at q;have o':Ok S k0 (setPending st pn):=⟨o.mem,o.kind⟩;have mem:∀x∈(arrOf st).toList,S x:=o.mem;obtain ⟨b0,Pp,mb0,lb0⟩:=aY (xs:=arrOf st) (i:=sa+na) (by omega)
 refine wpS_bind (aU Pp ?_);have og:∀(j:Nat)(z:Keyed),(arrOf st)[j]? =some z→(arrOf st)[j]?.getD (Value.none,Value.none)=z:=λj z e=>by rw [e];rfl
 refine wpS_bind (gd C (nV mem (i:=sa) (n:=na) (by omega)) (mem b0 mb0) o'.kind (by omega) (λi j dm hj h=>?_) λk hk kt kf=>?_)
 ·obtain ⟨xi,e1,_,_⟩:=aY (xs:=arrOf st) (i:=sa+i) (by omega)
  obtain ⟨xj,e2,_,_⟩:=aY (xs:=arrOf st) (i:=sa+j) (by omega)
  unfold dk at h ⊢;rw [if_neg (by decide)] at h ⊢
  rw [e2] at h;rw [e1];have h':O.kle (key xj) (key b0):=by unfold KeyOrd.kle;simpa using h
  have:=KeyOrd.kle_trans (eQ s1 (by omega) (by omega) (by omega) e1 e2) h'
  unfold KeyOrd.kle at this;simpa using this
 have VM:∀j x,sa≤j→j<sa+k→(arrOf st)[j]? =some x→LE O key x b0:=λj x h1 h2 e=>by
  have:=kt (j-sa) (by omega)
  unfold dk at this;rw [if_neg (by decide),show sa+(j-sa)=j by omega,og j x e] at this
  show O.blt _ _=false;simpa using this
 have khi:∀j x,sa+k≤j→j<sa+na→(arrOf st)[j]? =some x→LE O key b0 x:=λj x h1 h2 e=>by
  have:=kf (j-sa) (by omega) (by omega)
  unfold dk at this;rw [if_neg (by decide),show sa+(j-sa)=j by omega,og j x e] at this
  exact KeyOrd.kle_of_klt (show O.blt _ _=true by simpa using this)
 dsimp only;have Nc:∀j y,sa+na≤j→j<sa+na+nb→(arrOf st)[j]? =some y→LE O key b0 y:=λj y h1 h2 e=>eQ s2 (by omega) h1 h2 Pp e
 by_cases e0:na-k=0
 ·rw [if_pos (by simpa using e0)]
  refine wpS_pure (q _ (.refl _) rfl hf rfl (λ_ _=>rfl) ?_);refine zI (by show sa+(na+nb)≤(arrOf st).size;omega) λi j x y h1 dm hj ex ey=>?_
  by_cases c1:j<sa+na
  ·exact eQ s1 h1 dm c1 ex ey
  ·by_cases c2:i<sa+na
   ·exact KeyOrd.kle_trans (VM i x h1 (by omega) ex) (Nc j y (by omega) (by omega) ey)
   ·exact eQ s2 (by omega) dm (by omega) ex ey
 rw [if_neg (by simpa using e0)]
 have TZ:sa+k+(na-k)-1=sa+na-1:=by omega
 obtain ⟨al,Lk,mal,lal⟩:=aY (xs:=arrOf st) (i:=sa+k+(na-k)-1) (by omega)
 refine wpS_bind (aU Lk ?_);rw [TZ] at Lk;refine wpS_bind (gd C (nV mem (i:=sa+na) (n:=nb) (by omega)) (mem al mal) o'.kind (by omega) (λi j dm hj h=>?_) λm hm mt mf=>?_)
 ·obtain ⟨yi,e1,_,_⟩:=aY (xs:=arrOf st) (i:=sa+na+i) (by omega)
  obtain ⟨yj,e2,_,_⟩:=aY (xs:=arrOf st) (i:=sa+na+j) (by omega)
  unfold dk at h ⊢;rw [if_pos rfl] at h ⊢;rw [e2] at h;rw [e1];exact KeyOrd.klt_of_kle_of_klt (eQ s2 (by omega) (by omega) (by omega) e1 e2) h
 have mlo:∀j y,sa+na≤j→j<sa+na+m→(arrOf st)[j]? =some y→LE O key y al:=λj y h1 h2 e=>by
  have:=mt (j-(sa+na)) (by omega)
  unfold dk at this;rw [if_pos rfl,show sa+na+(j-(sa+na))=j by omega,og j y e] at this
  exact KeyOrd.kle_of_klt this
 have VP:∀j y,sa+na+m≤j→j<sa+na+nb→(arrOf st)[j]? =some y→LE O key al y:=λj y h1 h2 e=>by
  have:=mf (j-(sa+na)) (by omega) (by omega)
  unfold dk at this;rw [if_pos rfl,show sa+na+(j-(sa+na))=j by omega,og j y e] at this
  exact this
 have Ye:∀j x,sa≤j→j<sa+na→(arrOf st)[j]? =some x→LE O key x al:=λj x h1 h2 e=>eQ s1 h1 (by omega) (by omega) e Lk
 dsimp only
 by_cases e1:m=0
 ·rw [if_pos (by simpa using e1)]
  refine wpS_pure (q _ (.refl _) rfl hf rfl (λ_ _=>rfl) ?_);refine zI (by show sa+(na+nb)≤(arrOf st).size;omega) λi j x y h1 dm hj ex ey=>?_
  by_cases c1:j<sa+na
  ·exact eQ s1 h1 dm c1 ex ey
  ·by_cases c2:i<sa+na
   ·exact KeyOrd.kle_trans (Ye i x h1 c2 ex) (VP j y (by omega) (by omega) ey)
   ·exact eQ s2 (by omega) dm (by omega) ex ey
 rw [if_neg (by simpa using e1)]
 have T:lK O key S ((arrOf st).extract (sa+k) (sa+na)) ((arrOf st).extract (sa+na) (sa+na+m)):=by
  refine ⟨λx hx=>?_,λx hx=>?_,Es (λi j h1 h2 h3=>s1 i j (by omega) h2 h3) (by omega),Es (λi j h1 h2 h3=>s2 i j h1 h2 (by omega)) (by omega),by rw [yw];omega,by rw [yw];omega,λy hy x hx=>?_,λx hx y hy=>?_⟩
  ·obtain ⟨i,_,_,_,e⟩:=ext_mem hx
   exact mem x (dD (j8 e))
  ·obtain ⟨i,_,_,_,e⟩:=ext_mem hx
   exact mem x (dD (j8 e))
  ·rw [ext_get (by omega) (by omega)] at hy
   have F3:(arrOf st)[sa+na]? =some y:=hy;rw [Pp] at F3;cases F3;obtain ⟨i,h1,h2,_,e⟩:=ext_mem hx;exact khi i x h1 h2 e
  ·have hsz2:((arrOf st).extract (sa+k) (sa+na)).size=na-k:=by rw [yw];omega
   rw [hsz2,ext_get (by omega) (by omega)] at hx
   rw [show sa+k+(na-k-1)=sa+na-1 by omega,Lk] at hx;cases hx
   obtain ⟨i,h1,h2,_,e⟩:=ext_mem hy;exact mlo i y h1 h2 e
 have szx:((arrOf st).extract (sa+k) (sa+na)).size=na-k:=by rw [yw];omega
 have szy:((arrOf st).extract (sa+na) (sa+na+m)).size=m:=by rw [yw];omega
 have fin:∀(r:Array Keyed)(ag:SortSt),GS (setPending st pn) ag→Res O key (((arrOf st).extract (sa+k) (sa+na)).toList++((arrOf st).extract (sa+na) (sa+na+m)).toList) r.toList→
   wpS (model prog w) A E s (do
    modify λs=>setArr s (r.toList.zipIdx.foldl (λa (p,j)=>a.setIfInBounds (sa+k+j) p) (arrOf s))
    return (failedOf (←get)).isNone) Q ag:=by
  intro r ag g res;refine wpS_bind (wpS_modify (wpS_bind (wpS_get ?_)));have UG:failedOf ag=none:=g.failed.trans hf
  have hr:r.size=na-k+m:=by
   have:=res.1.length_eq
   rw [dS,cu,cu,cu,szx,szy] at this;exact this
  have hb:sa+k+r.size≤(arrOf ag).size:=by rw [g.arr];show _≤(arrOf st).size;omega
  have aaf:(r.toList.zipIdx.foldl (λa (x:Keyed×Nat)=>match x with| (p,j)=>a.setIfInBounds (sa+k+j) p) (arrOf ag))=putAt (arrOf ag) r (sa+k):=rfl
  show wpS _ _ _ _ (pure (failedOf ag).isNone) Q (setArr ag (putAt (arrOf ag) r (sa+k)));rw [UG];have ga:arrOf ag=arrOf st:=g.arr;rw [ga] at hb ⊢;have Ew:=λi=>vD hb i;rw [hr] at Ew
  have N8:∀j x,sa+k≤j→j<sa+na+m→(putAt (arrOf st) r (sa+k))[j]? =some x→∃i,sa+k≤i∧i<sa+na+m∧(arrOf st)[i]? =some x:=λj x h1 h2 e=>by
   rw [Ew,if_pos (by omega)] at e
   have hm:=res.1.mem_iff.mp (dD (j8 e))
   rcases cw.mp hm with z|z
   ·obtain ⟨i,a1,a2,_,a4⟩:=ext_mem z
    exact ⟨i,a1,by omega,a4⟩
   ·obtain ⟨i,a1,a2,_,a4⟩:=ext_mem z
    exact ⟨i,by omega,a2,a4⟩
  have outs:∀j,j<sa+k∨sa+na+m≤j→(putAt (arrOf st) r (sa+k))[j]? =(arrOf st)[j]? :=λj h=>by rw [Ew,if_neg (by omega)]
  have Jv:∀i x j y,sa≤i→i<sa+k→(arrOf st)[i]? =some x→sa+k≤j→j<sa+na+nb→(arrOf st)[j]? =some y→LE O key x y:=λi x j y a1 a2 a3 a4 a5 a6=>by
   by_cases c:j<sa+na
   ·exact eQ s1 a1 (by omega) c a3 a6
   ·exact KeyOrd.kle_trans (VM i x a1 a2 a3) (Nc j y (by omega) a5 a6)
  have Ls:∀i x j y,sa≤i→i<sa+na+m→(arrOf st)[i]? =some x→sa+na+m≤j→j<sa+na+nb→(arrOf st)[j]? =some y→LE O key x y:=λi x j y a1 a2 a3 a4 a5 a6=>by
   by_cases c:i<sa+na
   ·exact KeyOrd.kle_trans (Ye i x a1 c a3) (VP j y a4 a5 a6)
   ·exact eQ s2 (by omega) (by omega) a5 a3 a6
  refine wpS_pure (q _ ?_ g.kind UG g.pend (λj hj=>outs j (by omega)) ?_)
  ·refine Bf hb ?_
   rw [hr];refine res.1.trans ?_;rw [ext_toList,ext_toList,show sa+na-(sa+k)=na-k by omega,show sa+na+m-(sa+na)=m by omega]
   have:((arrOf st).toList.drop (sa+k)).take (na-k+m)=((arrOf st).toList.drop (sa+k)).take (na-k)++((arrOf st).toList.drop (sa+na)).take m:=by
    rw [mS _ (show na-k≤na-k+m by omega),wk,show sa+k+(na-k)=sa+na by omega,show na-k+m-(na-k)=m by omega]
   rw [this]
  ·refine zI (by show sa+(na+nb)≤(putAt (arrOf st) r (sa+k)).size;rw [Bg hb];omega) λi j x y h1 dm hj ex ey=>?_
   have n5:(putAt (arrOf st) r (sa+k))[i]? =some x:=ex;have lZ:(putAt (arrOf st) r (sa+k))[j]? =some y:=ey
   by_cases ci:i<sa+k
   ·rw [outs i (.inl ci)] at n5
    by_cases cj:j<sa+k
    ·rw [outs j (.inl cj)] at lZ
     exact eQ s1 h1 dm (by omega) n5 lZ
    ·by_cases Sw:j<sa+na+m
     ·obtain ⟨j',b1,b2,b3⟩:=N8 j y (by omega) Sw lZ
      exact Jv i x j' y h1 ci n5 b1 (by omega) b3
     ·rw [outs j (.inr (by omega))] at lZ
      exact Jv i x j y h1 ci n5 (by omega) (by omega) lZ
   ·by_cases Za:i<sa+na+m
    ·by_cases Sw:j<sa+na+m
     ·rw [Ew,if_pos (by omega)] at n5 lZ
      exact fo res.2 (by omega) (j8 n5) (j8 lZ)
     ·obtain ⟨i',b1,b2,b3⟩:=N8 i x (by omega) Za n5
      rw [outs j (.inr (by omega))] at lZ
      exact Ls i' x j y (by omega) b2 b3 (by omega) (by omega) lZ
    ·rw [outs i (.inr (by omega))] at n5
     rw [outs j (.inr (by omega))] at lZ
     exact eQ s2 (by omega) dm (by omega) n5 lZ
 by_cases c:na-k≤m
 ·rw [if_pos c]
  exact wpS_bind (zT C o'.kind T λr ag g res=>fin r ag g res)
 ·rw [if_neg c]
  exact wpS_bind (zS C o'.kind T λr ag g res=>fin r ag g res)
end
abbrev U1:=Option Unit×Unit
def EX(pw:Nat):StateT SortSt Sem (ForInStep U1):=do
 let st ←get
 match (if (pendingOf st).size>1 then (pendingOf st)[(pendingOf st).size-2]? else none) with
 |some (_,_,QW)=>
  if QW≤pw then pure (ForInStep.done (none,()))
  else do
   let ok ←mergeAt' ((pendingOf st).size-2)
   if (!ok)=true then pure (ForInStep.done (some (),())) else pure (ForInStep.yield (none,()))
 |_=>pure (ForInStep.done (none,()))
def kZ(size lo n:Nat):StateT SortSt Sem (ForInStep (Option Unit×Nat)):=do
 let st ←get
 match (pendingOf st).back? with
 |some (s1,n1,_)=>do
  let t ←forIn [0:size] ((none,()):U1) λ_ _=>EX (power' size (2*s1+n1) (2*s1+n1+n1+n) size)
  match t.1 with
  |some r=>pure (ForInStep.done (some r,lo))
  |none=>do
   modify λs=>setPending s ((pendingOf s).modify ((pendingOf s).size-1) λx=>(x.1,x.2.1,power' size (2*s1+n1) (2*s1+n1+n1+n) size))
   modify λs=>setPending s ((pendingOf s).push (lo,n,0))
   pure (ForInStep.yield (none,lo+n))
 |_=>do
  modify λs=>setPending s ((pendingOf s).push (lo,n,0))
  pure (ForInStep.yield (none,lo+n))
def zH(size lo:Nat):StateT SortSt Sem (ForInStep (Option Unit×Nat)):=
 if lo≥size then pure (ForInStep.done (none,lo))
 else do
  let x ←countRun' lo (size-lo)
  match x with
  |some found=>
   if found<minRun' size size 0 then do
    liftM (rule "list.sort.binary-insertion")
    let ok ←binarySort' lo (min (size-lo) (minRun' size size 0)) found
    if (!ok)=true then pure (ForInStep.done (some (),lo)) else kZ size lo (min (size-lo) (minRun' size size 0))
   else kZ size lo found
  |_=>pure (ForInStep.done (some (),lo))
def DL:StateT SortSt Sem (ForInStep U1):=do
 let st ←get
 if (pendingOf st).size≤1 then pure (ForInStep.done (none,()))
 else do
  let ok ←mergeAt' (if (if (pendingOf st).size-2>0 then (pendingOf st)[(pendingOf st).size-2-1]?.map (·.2.1) else none).any (·<((pendingOf st)[(pendingOf st).size-2+1]?.elim 0 (·.2.1))) then (pendingOf st).size-2-1 else (pendingOf st).size-2)
  if (!ok)=true then pure (ForInStep.done (some (),())) else pure (ForInStep.yield (none,()))
theorem vO:sortRuns'=(do
 let st ←get
 let c ←forIn [0:(arrOf st).size] ((none,0):Option Unit×Nat) λ_ c=>zH (arrOf st).size c.2
 match c.1 with
 |some r=>pure r
 |none=>do
  let t ←forIn [0:(arrOf st).size] ((none,()):U1) λ_ _=>DL
  match t.1 with
  |some r=>pure r
  |none=>pure ()):=by
 rw [sortRuns'_eq];dsimp only;refine cM rfl λst=>cM (yN λ_ c=>?_) λc=>?_
 ·unfold zH
  refine eO (λ_=>rfl) (λ_=>cM rfl λx=>?_);cases x with
  |none=>rfl
  |some f=>
   dsimp only;have jp:∀n:Nat,kZ (arrOf st).size c.2 n=kZ (arrOf st).size c.2 n:=λ_=>rfl;refine eO (λ_=>cM rfl λ_=>cM rfl λok=>eO (λ_=>rfl) (λ_=>?_)) (λ_=>?_)
   all_goals
    unfold kZ;refine cM rfl λjU=>?_;cases (pendingOf jU).back? with
    |none=>rfl
    |some e=>
     obtain ⟨s1,n1,p1⟩:=e;dsimp only;refine cM (yN λ_ c=>?_) λt=>?_
     ·unfold EX
      refine cM rfl λtX=>?_;cases (if (pendingOf tX).size>1 then (pendingOf tX)[(pendingOf tX).size-2]? else none) with
      |none=>rfl
      |some e=>rfl
     ·obtain ⟨t1,t2⟩:=t
      cases t1<;>rfl
 ·obtain ⟨c1,c2⟩:=c
  cases c1 with
  |some r=>rfl
  |none=>
   dsimp only;refine cM (yN λ_ c=>?_) λt=>?_
   ·rfl
   ·obtain ⟨t1,t2⟩:=t
    cases t1<;>rfl
section
variable {O:KeyOrd} {key:Keyed→O.α} {S:Keyed→Prop} {k0:SortKind} {prog:Program} {w:World} {A:Around} {E:Value→Shared→Prop} {s:Shared} {st bD:SortSt}
def i7(O:KeyOrd)(key:Keyed→O.α)(xs:Array Keyed):Nat→List (Nat×Nat)→Nat→Prop
 |a,[],b=>a=b
 |a,e::r,b=>e.1=a∧1≤e.2∧iM O key xs a (a+e.2)∧i7 O key xs (a+e.2) r b
theorem i7.app{xs:Array Keyed}:∀{l1 l2:List (Nat×Nat)}{a b:Nat},i7 O key xs a (l1++l2) b↔∃c,i7 O key xs a l1 c∧i7 O key xs c l2 b
 | [],l2,a,b=>⟨λh=>⟨a,rfl,h⟩,λ⟨c,h1,h2⟩=>by cases h1;exact h2⟩
 |e::l1,l2,a,b=>by
  constructor
  ·rintro ⟨h1,h2,h3,h4⟩
   obtain ⟨c,c1,c2⟩:=i7.app.mp h4;exact ⟨c,⟨h1,h2,h3,c1⟩,c2⟩
  ·rintro ⟨c,⟨h1,h2,h3,c1⟩,c2⟩
   exact ⟨h1,h2,h3,i7.app.mpr ⟨c,c1,c2⟩⟩
theorem i7.le{xs:Array Keyed}:∀{l:List (Nat×Nat)}{a b:Nat},i7 O key xs a l b→a+l.length≤b
 | [],a,b,h=>by cases h;simp
 |e::l,a,b,⟨_,h2,_,h4⟩=>by
  have:=i7.le h4
  rw [cp];omega
theorem vR{xs ys:Array Keyed}{a b:Nat}(h:∀i,a≤i→i<b→ys[i]? =xs[i]?)(hs:iM O key xs a b):iM O key ys a b:=λi j h1 h2 h3=>by
 rw [gX (h i h1 (by omega)),gX (h j (by omega) h3)];exact hs i j h1 h2 h3
theorem i7.congr{xs ys:Array Keyed}:∀{l:List (Nat×Nat)}{a b:Nat},(∀i,a≤i→i<b→ys[i]? =xs[i]?)→i7 O key xs a l b→i7 O key ys a l b
 | [],a,b,_,h=>h
 |e::l,a,b,hc,⟨h1,h2,h3,h4⟩=>by
  have:=i7.le h4
  exact ⟨h1,h2,vR (λi a1 a2=>hc i a1 (by omega)) h3,i7.congr (λi a1 a2=>hc i (by omega) a2) h4⟩
def pl(st:SortSt):List (Nat×Nat):=(pendingOf st).toList.map λe=>(e.1,e.2.1)
structure SI (O:KeyOrd) (key:Keyed→O.α) (S:Keyed→Prop) (k0:SortKind) (a0:Array Keyed) (st:SortSt) (lo:Nat):Prop where
 ok:Ok S k0 st
 failed:failedOf st=none
 perm:(arrOf st).Perm a0
 cov:i7 O key (arrOf st) 0 (pl st) lo
 le:lo≤a0.size
theorem SI.size{a0:Array Keyed}{lo:Nat}(h:SI O key S k0 a0 st lo):(arrOf st).size=a0.size:=h.perm.size_eq
theorem BF(C:gn O key S k0 (model prog w) A E s){a0:Array Keyed}{lo i:Nat}{Q:Bool→SortSt→Prop}(h:SI O key S k0 a0 st lo)(hi:i+1<(pendingOf st).size)
  (q:∀ag,SI O key S k0 a0 ag lo→(pendingOf ag).size=(pendingOf st).size-1→(∀j,lo≤j→(arrOf ag)[j]? =(arrOf st)[j]?)→Q true ag):wpS (model prog w) A E s (mergeAt' i) Q st:=by
 have e1:(pendingOf st)[i]? =some (pendingOf st)[i]:=getElem?_pos _ i (by omega)
 have e2:(pendingOf st)[i+1]? =some (pendingOf st)[i+1]:=getElem?_pos _ (i+1) hi
 have hl:(pendingOf st).toList=(pendingOf st).toList.take i++((pendingOf st)[i]::(pendingOf st)[i+1]::(pendingOf st).toList.drop (i+2)):=by
  conv=>lhs;rw [←kq i (pendingOf st).toList]
  congr 1
  rw [qQ (by rw [cu];omega),qQ (by rw [cu];omega)]
  rfl
 generalize hx:(pendingOf st)[i]=x at*;generalize hy:(pendingOf st)[i+1]=y at*;obtain ⟨sa,na,pw⟩:=x;obtain ⟨sb,nb,GB⟩:=y;have hc:=h.cov;unfold pl at hc;rw [hl,dP,gI,gI] at hc;obtain ⟨c,c1,c2⟩:=i7.app.mp hc;obtain ⟨d1,d2,d3,d4,d5,d6,d7⟩:=c2;dsimp only at d1 d2 d3 d4 d5 d6 d7;subst d1;subst d4;have hle:=d7.le;have fS:=h.size;have AF:=h.le;refine zR C h.ok h.failed e1 e2 d2 d5 (by omega) d3 d6 λag b1 b2 b3 b4 b5 b6=>?_
 have dR:(pendingOf ag).toList=(pendingOf st).toList.take i++((sa,na+nb,pw)::(pendingOf st).toList.drop (i+2)):=by
  rw [b4,Array.toList_eraseIdxIfInBounds,Array.toList_setIfInBounds]
  conv=>lhs;rw [hl]
  have hlen:((pendingOf st).toList.take i).length=i:=by rw [iI,cu];omega
  rw [List.set_append_right _ _ (by omega),List.eraseIdx_append_of_length_le (by omega),hlen,qX,show i+1-i=1 by omega]
  rfl
 refine q ag ⟨⟨λp hp=>h.ok.mem p ((E6.mp b1).mem_iff.mp hp),b2.trans h.ok.kind⟩,b3,b1.trans h.perm,?_,h.le⟩ ?_ λj hj=>b5 j (.inr (by omega))
 ·unfold pl
  rw [dR,dP,gI];refine i7.app.mpr ⟨sa,i7.congr (λj a1 a2=>b5 j (.inl a2)) c1,rfl,?_,b6,?_⟩
  ·show 1≤na+nb;omega
  ·show i7 O key (arrOf ag) (sa+(na+nb)) _ lo
   rw [←Nat.add_assoc];exact i7.congr (λj a1 a2=>b5 j (.inr a1)) d7
 ·rw [←cu,dR,dS,cp,iI,iJ,cu];omega
def Kp(bD st:SortSt)(lo:Nat):Prop:=∀j,lo≤j→(arrOf st)[j]? =(arrOf bD)[j]?
theorem GV(C:gn O key S k0 (model prog w) A E s){a0:Array Keyed}{lo pw:Nat}(h:SI O key S k0 a0 st lo)(hk:Kp bD st lo):wpS (model prog w) A E s (EX pw) (λr ag=>match r with| .done c=>c=(none,())∧SI O key S k0 a0 ag lo∧Kp bD ag lo| .yield c=>c=(none,())∧SI O key S k0 a0 ag lo∧Kp bD ag lo) st:=by
 unfold EX;refine wpS_bind (wpS_get ?_)
 by_cases hp:(pendingOf st).size>1
 ·rw [if_pos hp]
  cases e:(pendingOf st)[(pendingOf st).size-2]? with
  |none=>exact wpS_pure ⟨rfl,h,hk⟩
  |some x=>
   obtain ⟨x1,x2,x3⟩:=x;dsimp only
   by_cases hle:x3≤pw
   ·rw [if_pos hle];exact wpS_pure ⟨rfl,h,hk⟩
   ·rw [if_neg hle]
    refine wpS_bind (BF C h (by omega) λag h' _ gB=>?_)
    exact wpS_pure ⟨rfl,h',λj hj=>(gB j hj).trans (hk j hj)⟩
 ·rw [if_neg hp]
  exact wpS_pure ⟨rfl,h,hk⟩
theorem J3{lo n:Nat}:pl (setPending st ((pendingOf st).push (lo,n,0)))=pl st++ [(lo,n)]:=by
 unfold pl;show ((pendingOf st).push (lo,n,0)).toList.map _=_;rw [yy,dP];rfl
theorem De{i pw:Nat}:pl (setPending st ((pendingOf st).modify i λx=>(x.1,x.2.1,pw)))=pl st:=by
 unfold pl;show ((pendingOf st).modify i λx=>(x.1,x.2.1,pw)).toList.map _=_;apply oJ;intro j;rw [bW,bW,eU,eU,Array.getElem?_modify]
 by_cases e:i=j
 ·rw [if_pos e]
  cases (pendingOf st)[j]? <;>rfl
 ·rw [if_neg e]
theorem SI.EI{a0:Array Keyed}{lo n:Nat}(h:SI O key S k0 a0 st lo)(hn:1≤n)(hl:lo+n≤a0.size)(hs:iM O key (arrOf st) lo (lo+n)):SI O key S k0 a0 (setPending st ((pendingOf st).push (lo,n,0))) (lo+n):=by
 refine ⟨⟨h.ok.mem,h.ok.kind⟩,h.failed,h.perm,?_,hl⟩;rw [J3];exact i7.app.mpr ⟨lo,h.cov,rfl,hn,hs,rfl⟩
theorem tu(C:gn O key S k0 (model prog w) A E s){a0:Array Keyed}{lo n:Nat}(h:SI O key S k0 a0 st lo)(hn:1≤n)(hl:lo+n≤a0.size)(hs:iM O key (arrOf st) lo (lo+n)):
  wpS (model prog w) A E s (kZ a0.size lo n) (λr ag=>match r with| .done c=>False| .yield c=>c=(none,lo+n)∧SI O key S k0 a0 ag (lo+n)) st:=by
 unfold kZ;refine wpS_bind (wpS_get ?_);cases (pendingOf st).back? with
 |none=>exact wpS_bind (wpS_modify (wpS_pure ⟨rfl,h.EI hn hl hs⟩))
 |some e=>
  obtain ⟨s1,n1,p1⟩:=e;dsimp only;refine wpS_bind (wpS_mono (wpS_forRange (I:=λ(x:Nat)(c:U1)(ag:SortSt)=>c=(none,())∧SI O key S k0 a0 ag lo∧Kp st ag lo) (Q:=λc ag=>c=(none,())∧SI O key S k0 a0 ag lo∧Kp st ag lo) (λx c ag _ _ hh=>?_) (λc ag hh=>hh) ⟨rfl,h,λ_ _=>rfl⟩) ?_)
  ·refine wpS_mono (GV C hh.2.1 hh.2.2) λr cz o=>?_
   cases r with
   |done d=>exact o
   |yield d=>exact o
  ·rintro c ag ⟨rfl,h',gB⟩
   dsimp only;refine wpS_bind (wpS_modify (wpS_bind (wpS_modify (wpS_pure ⟨rfl,?_⟩))))
   have h2:SI O key S k0 a0 (setPending ag ((pendingOf ag).modify ((pendingOf ag).size-1) λx=>(x.1,x.2.1,power' a0.size (2*s1+n1) (2*s1+n1+n1+n) a0.size))) lo:=
    ⟨⟨h'.ok.mem,h'.ok.kind⟩,h'.failed,h'.perm,by rw [De];exact h'.cov,h'.le⟩
   exact h2.EI hn hl (vR (λi a1 a2=>gB i a1) hs)
theorem SI.XS{a0:Array Keyed}{lo hi:Nat}{ag:SortSt}(h:SI O key S k0 a0 st lo)(t:gq st ag lo hi):SI O key S k0 a0 ag lo:=
 ⟨h.ok.step t,t.failed.trans h.failed,t.perm.trans h.perm,by
  have:pl ag=pl st:=by unfold pl;rw [t.pend]
  rw [this];exact i7.congr (λi _ a2=>t.out i (.inl a2)) h.cov,h.le⟩
theorem D8(C:gn O key S k0 (model prog w) A E s){a0:Array Keyed}{lo:Nat}(h:SI O key S k0 a0 st lo):
  wpS (model prog w) A E s (zH a0.size lo) (λr ag=>match r with| .done c=>c=(none,lo)∧a0.size≤lo∧SI O key S k0 a0 ag lo| .yield c=>∃n,1≤n∧c=(none,lo+n)∧SI O key S k0 a0 ag (lo+n)) st:=by
 unfold zH;have fS:=h.size;have hle:=h.le
 by_cases lN:lo≥a0.size
 ·rw [if_pos lN];exact wpS_pure ⟨rfl,lN,h⟩
 ·rw [if_neg lN]
  refine wpS_bind (wpS_countRun C h.ok (by omega) (by omega) λm zJ t1 m1 m2 sm=>?_)
  dsimp only;have h1:=h.XS t1;have aaj:=h1.size
  by_cases bG:m<minRun' a0.size a0.size 0
  ·rw [if_pos bG]
   refine wpS_bind (wpS_lift (wpAny_rule ⟨rfl,?_⟩));refine wpS_bind (wpS_binarySort C h1.ok (by omega) (by omega) sm λjU t2 s2=>?_)
   rw [if_neg (by decide)]
   refine wpS_mono (tu C (h1.XS t2) (by omega) (by omega) s2) λr ag o=>?_
   cases r with
   |done d=>exact o.elim
   |yield d=>exact ⟨_,by omega,o.1,o.2⟩
  ·rw [if_neg bG]
   refine wpS_mono (tu C h1 m1 (by omega) sm) λr ag o=>?_
   cases r with
   |done d=>exact o.elim
   |yield d=>exact ⟨_,m1,o.1,o.2⟩
theorem ite_le{c:Prop} [Decidable c] {p:Nat}:(if c then p-1 else p)≤p:=by split<;>omega
theorem D7(C:gn O key S k0 (model prog w) A E s){a0:Array Keyed}{x:Nat}(h:SI O key S k0 a0 st a0.size)(hp:(pendingOf st).size≤max 1 (a0.size-x)):
  wpS (model prog w) A E s DL (λr ag=>match r with| .done c=>c=(none,())∧SI O key S k0 a0 ag a0.size∧(pendingOf ag).size≤1| .yield c=>c=(none,())∧SI O key S k0 a0 ag a0.size∧(pendingOf ag).size≤max 1 (a0.size-(x+1))) st:=by
 unfold DL;refine wpS_bind (wpS_get ?_)
 by_cases h1:(pendingOf st).size≤1
 ·rw [if_pos h1];exact wpS_pure ⟨rfl,h,h1⟩
 ·rw [if_neg h1]
  refine wpS_bind (BF C h (m6 (Nat.succ_le_succ ite_le) (by omega)) λag h' e _=>?_)
  exact wpS_pure ⟨rfl,h',by omega⟩
theorem wpS_sortRuns(C:gn O key S k0 (model prog w) A E s){Q:Unit→SortSt→Prop}(o:Ok S k0 st)(hf:failedOf st=none)(hp:pendingOf st= #[])(h1:1≤(arrOf st).size)
  (q:∀ag,(arrOf ag).Perm (arrOf st)→failedOf ag=none→iM O key (arrOf ag) 0 (arrOf st).size→Q () ag):wpS (model prog w) A E s sortRuns' Q st:=by
 rw [vO];refine wpS_bind (wpS_get ?_);have h0:SI O key S k0 (arrOf st) st 0:=⟨o,hf, .refl _,by unfold pl;rw [hp];rfl,cS _⟩
 refine wpS_bind (wpS_mono (wpS_forRange (I:=λ(x:Nat)(c:Option Unit×Nat)(ag:SortSt)=>∃lo,c=(none,lo)∧min x (arrOf st).size≤lo∧SI O key S k0 (arrOf st) ag lo) (Q:=λc ag=>c=(none,(arrOf st).size)∧SI O key S k0 (arrOf st) ag (arrOf st).size) (λx c ag _ _ hh=>?_) (λc ag hh=>?_) ⟨0,rfl,by omega,h0⟩) ?_)
 ·obtain ⟨lo,rfl,hx,hs⟩:=hh
  refine wpS_mono (D8 C hs) λr cz o=>?_;cases r with
  |done d=>
   obtain ⟨e,e1,e2⟩:=o
   have:=e2.le
   have el:lo=(arrOf st).size:=by omega
   rw [el] at e e2;exact ⟨e,e2⟩
  |yield d=>
   obtain ⟨n,n1,e,e2⟩:=o;exact ⟨lo+n,e,by omega,e2⟩
 ·obtain ⟨lo,rfl,hx,hs⟩:=hh
  have:=hs.le
  have el:lo=(arrOf st).size:=by omega
  rw [el] at hs ⊢;exact ⟨rfl,hs⟩
 ·rintro c ag ⟨rfl,hs⟩
  dsimp only
  have hlen:(pendingOf ag).size≤(arrOf st).size:=by
   have:=hs.cov.le
   unfold pl at this;rw [aN,cu] at this;omega
  refine wpS_bind (wpS_mono (wpS_forRange (I:=λ(x:Nat)(c:U1)(ag:SortSt)=>c=(none,())∧SI O key S k0 (arrOf st) ag (arrOf st).size∧(pendingOf ag).size≤max 1 ((arrOf st).size-x)) (Q:=λc ag=>c=(none,())∧SI O key S k0 (arrOf st) ag (arrOf st).size∧(pendingOf ag).size≤1) (λx c ag _ _ hh=>?_) (λc ag hh=>?_) ⟨rfl,hs,by omega⟩) ?_)
  ·refine wpS_mono (D7 C hh.2.1 hh.2.2) λr cz o=>?_
   cases r with
   |done d=>exact o
   |yield d=>exact o
  ·exact ⟨hh.1,hh.2.1,by have:=hh.2.2;omega⟩
  ·rintro c cz ⟨rfl,mv,U4⟩
   refine wpS_pure (q cz mv.perm mv.failed ?_);have hc:=mv.cov;have hln:(pl cz).length≤1:=by unfold pl;rw [aN,cu];exact U4
   match dR:pl cz,hln with
   | [],_=>rw [dR] at hc;exact absurd hc (by show ¬(0=(arrOf st).size);omega)
   | [e],_=>
    rw [dR] at hc;obtain ⟨a1,a2,a3,a4⟩:=hc
    have:0+e.2=(arrOf st).size:=a4
    rw [←this];exact a3
end
section
variable {O:KeyOrd} {key:Keyed→O.α} {S:Keyed→Prop} {k0:SortKind} {prog:Program} {w:World} {A:Around} {E:Value→Shared→Prop} {s:Shared}
def Keeps(s s':Shared):Prop:=∀b o,s.heap.get? b=some o→s'.heap.get? b=some o
theorem se(vs:List Value):(vs.toArray.zip vs.toArray).toList=vs.map λv=>(v,v):=by
 rw [Array.toList_zip];show List.zip vs vs=_
 induction vs with
 |nil=>rfl
 |cons v r ih=>rw [List.zip_cons_cons,gI,ih]
theorem MS{xs:Array Keyed}(h:iM O key xs 0 xs.size):xs.toList.Pairwise (LE O key):=by
 rw [wu];intro i j hi hj dm;rw [cu] at hi hj;exact eQ h (cS _) (Nat.le_of_lt dm) hj (jy (dh _)) (jy (dh _))
theorem vh{a:Addr}{vs:List Value}{n:Nat}{P:PySem.Fin→Shared→Prop}(ho:s.heap.get? a=some (seqObj "list" vs.toArray n))(h2:2≤vs.length)(hz:vs.length≤1000)(ne:∀b o,s.heap.get? b=some o→b≠a→True)
  {s0:Shared} (k0s:∀b o,s0.heap.get? b=some o→b≠a∧s.heap.get? b=some o)
  (hk:∀(E:Value→Shared→Prop)(s':Shared)(Q':SortKind→Shared→Prop),Keeps s0 s'→Q' k0 s'→wpAny (model prog w) A (keyKind' vs.toArray) Q' E s')
  (C:∀(E:Value→Shared→Prop)(s':Shared),Keeps s0 s'→gn O key S k0 (model prog w) A E s') (mem:∀v∈vs,S (v,v))
  (h:∀out:Array Keyed,out.toList.Perm (vs.map λv=>(v,v))→out.toList.Pairwise (LE O key)→P (.done (.ret .none)) {s with heap:=sortedHeap s.heap a vs (out.map (·.2))}):
  wpAny (model prog w) A (Builtin.«list.sort» ⟨[.ref a],[]⟩) P E s:=by
 rw [list_sort_plain];have ha:a<s.heap.objs.size:=Heap.lt_size ho;have bE:1000<sizeLine:=by decide
 refine wpAny_bind (listItems_at ho rfl ?_);refine wpAny_bind (listUpdate_at ho rfl ?_ (by rw [cn];omega) (cS _))
 obtain ⟨e1,wW⟩:∃e1,(s.heap.update a (Obj.mapSeq λ_=> #[])).get? a=some (seqObj "list" #[] e1):=⟨_,get?_update_seq ho (λ_=> #[])⟩;refine wpAny_bind (seqEpoch_at wW rfl ?_);refine wpAny_bind (wpAny_newTuple ?_ (by show vs.length≤_;omega))
 refine wpAny_bind (wpAny_newList ?_ (cS _));refine wpAny_holding ?_
 have IS:(((s.heap.update a (Obj.mapSeq λ_=> #[])).push (seqObj "tuple" vs.toArray 0)).push (seqObj "list" #[] 0)).get? a=some (seqObj "list" #[] e1):=by
  rw [Heap.get?_push_ne _ _ _ (by rw [size_push',Heap.size_update];exact di (Nat.lt_succ_of_lt ha)),Heap.get?_push_ne _ _ _ (by rw [Heap.size_update];exact di ha)]
  exact wW
 show wpAny (model prog w) A _ P E {s with heap:=((s.heap.update a (Obj.mapSeq λ_=> #[])).push (seqObj "tuple" vs.toArray 0)).push (seqObj "list" #[] 0)}
 have kp:Keeps s0 {s with heap:=((s.heap.update a (Obj.mapSeq λ_=> #[])).push (seqObj "tuple" vs.toArray 0)).push (seqObj "list" #[] 0)}:=λb o e=>by
  obtain ⟨n1,e'⟩:=k0s b o e;refine Heap.get?_push_of_some _ (Heap.get?_push_of_some _ ?_);rw [Heap.get?_update_ne _ _ _ _ n1];exact e'
 dsimp only;have fS:vs.toArray.size=vs.length:=by simp
 have wV:¬vs.toArray.size<2:=by omega
 rw [if_neg wV,if_neg wV];refine wpAny_bind (hk _ _ _ kp ?_);have hsz2:(vs.toArray.zip vs.toArray).size=vs.length:=by rw [←cu,se,aN]
 refine wpAny_bind (wpAny_mono (wpS_sortRuns (C _ _ kp) (st:=SortSt.mk' k0 (vs.toArray.zip vs.toArray) #[] 7 none)
   (Q:=λ_ ag=>(arrOf ag).Perm (vs.toArray.zip vs.toArray)∧failedOf ag=none∧iM O key (arrOf ag) 0 (vs.toArray.zip vs.toArray).size)
   ⟨λp hp=>?_,rfl⟩ rfl rfl (by show 1≤(vs.toArray.zip vs.toArray).size;omega) λag a1 a2 a3=>⟨a1,a2,a3⟩) ?_ λ_ _ e=>e)
 ·have uS:p∈(vs.toArray.zip vs.toArray).toList:=hp
  rw [se] at uS;obtain ⟨v,hv,rfl⟩:=bz.mp uS;exact mem v hv
 rintro ⟨⟨⟩,ag⟩ s' ⟨rfl,hp,hf,hs⟩;dsimp only;have hps:(arrOf ag).size=vs.length:=by rw [hp.size_eq,hsz2]
 refine wpAny_bind (seqEpoch_at IS rfl ?_);refine wpAny_bind (listUpdate_at IS rfl ?_ (cS _) (by rw [Array.size_map];omega))
 rw [hf];simp only [bne_self_eq_false,fN,if_false];refine wpAny_pure (h (arrOf ag) ?_ ?_)
 ·rw [←se];exact E6.mp hp
 ·refine MS ?_
  rw [hp.size_eq];exact hs
theorem sY{l:Addr}{vs:List Value}{Q:Value→Shared→Prop}(hl:s.heap.IsList l vs.toArray)(h2:2≤vs.length)(hz:vs.length≤1000)
  (hk:∀(E:Value→Shared→Prop)(s':Shared)(Q':SortKind→Shared→Prop),Keeps s s'→Q' k0 s'→wpAny (model prog w) A.in1.in1 (keyKind' vs.toArray) Q' E s')
  (C:∀(E:Value→Shared→Prop)(s':Shared),Keeps s s'→gn O key S k0 (model prog w) A.in1.in1 E s') (mem:∀v∈vs,S (v,v))
  (h:∀out:Array Keyed,out.toList.Perm (vs.map λv=>(v,v))→out.toList.Pairwise (LE O key)→Q (.ref (s.heap.objs.size+1)) {s with heap:=sortedAll s.heap vs (out.map (·.2))}):
  wpAny (model prog w) A (call (.builtin "sorted") [.ref l]) Q E s:=by
 have bE:1000<sizeLine:=by decide
 refine Calls.call_function_entry kind_sorted plain_sorted entry_sorted (args_sorted1 _) ?_;unfold Builtin.«sorted»;refine wpAny_bind (m:=checkCount "sorted" 1 1 _) (wpAny_pure ?_);refine wpAny_bind (collect_list hl ?_ (by omega))
 refine wpAny_bind (wpAny_newList ?_ (by show vs.length≤_;omega))
 have fS:((s.heap.push (seqObj "list" #[] 0)).update s.heap.objs.size (Obj.mapSeq (·++vs.toArray))).objs.size=s.heap.objs.size+1:=by
  rw [Heap.size_update,size_push']
 have Ly:(((s.heap.push (seqObj "list" #[] 0)).update s.heap.objs.size (Obj.mapSeq (·++vs.toArray))).push (seqObj "list" vs.toArray 0)).get? (s.heap.objs.size+1)=some (seqObj "list" vs.toArray 0):=by
  rw [←fS];exact Heap.get?_push_size _ rfl
 have keep:∀b o,s.heap.get? b=some o→(((s.heap.push (seqObj "list" #[] 0)).update s.heap.objs.size (Obj.mapSeq (·++vs.toArray))).push (seqObj "list" vs.toArray 0)).get? b=some o:=λb o q=>by
  have bG:b<s.heap.objs.size:=Heap.lt_size q;rw [Heap.get?_push_ne _ _ _ (by rw [fS];exact di (Nat.lt_succ_of_lt bG)),Heap.get?_update_ne _ _ _ _ (di bG),Heap.get?_push_ne _ _ _ (di bG)]
  exact q
 show wpAny _ _ _ _ _ {s with heap:=((s.heap.push (seqObj "list" #[] 0)).update s.heap.objs.size (Obj.mapSeq (·++vs.toArray))).push (seqObj "list" vs.toArray 0)}
 rw [fS];refine wpAny_bind (wpAny_holding (wpAny_call_entry slot_list_sort ⟨_,Ly,rfl⟩ entry_list_sort (vh (s0:=s) Ly h2 hz (λ_ _ _ _=>trivial) (λb o e=>⟨di (Nat.lt_succ_of_lt (Heap.lt_size e)),keep b o e⟩) hk C mem λout a1 a2=>⟨_,rfl,?_⟩) (args_list_sort _)));exact wpAny_pure ⟨_,rfl,h out a1 a2⟩
end
end TS
namespace L2
open PySem PySem.Spec PyProof.Rows
def lexOrd:KeyOrd where
 α:=Nat×Nat
 blt:=ji
 irrefl:=λa=>by unfold ji;rw [if_pos rfl];simp
 trans:=λa b c h1 h2=>Jp _ _ _ h1 h2
 negTrans:=λa b c h=>F9 _ _ _ h
 total:=λa b h1 h2=>Wb.nG (u9 h2) (u9 h1)
def keyOf(L:List (Addr×(Nat×Nat)))(v:Keyed):Nat×Nat:=match v.1 with
 | .ref a=>((L.find? λe=>e.1==a).map (·.2)).getD (0,0)
 |_=>(0,0)
theorem C8{k k':Nat×Nat}(h:gG k=gG k'):k=k':=by
 unfold gG at h
 injection h with h1 h2
 injection h2 with h2 _
 injection h1 with h1
 injection h2 with h2
 exact Prod.ext (by omega) (by omega)
theorem kK{H:Hp}{L:List (Addr×(Nat×Nat))}(hL:oN H L){e:Addr×(Nat×Nat)}(he:e∈L)(v:Value):keyOf L (.ref e.1,v)=e.2:=by
 unfold keyOf;dsimp only;cases hf:L.find? λx=>x.1==e.1 with
 |none=>exact absurd (List.find?_eq_none.mp hf e he) (by simp)
 |some x=>
  have hx:=List.mem_of_find?_eq_some hf;have hb:=List.find?_some hf;have e1:x.1=e.1:=by simpa using hb
  have a1:=hL x hx;have a2:=hL e he;rw [e1,a2] at a1
  injection a1 with a1
  injection a1 with a1
  exact (C8 a1).symm
theorem iP{α β:Type} [DecidableEq α] (f:α→β):∀(l:List β)(L:List α),l.Perm (L.map f)→∃M:List α,M.Perm L∧l=M.map f
 | [],L,h=>by
  have:=h.length_eq
  rw [aN] at this
  have:L= []:=List.length_eq_zero_iff.mp this.symm
  subst this;exact ⟨[], .refl _,rfl⟩
 |x::r,L,h=>by
  obtain ⟨e,he,rfl⟩:=bz.mp (h.mem_iff.mp cC);have p1:=List.perm_cons_erase he;have p2:(f e::r).Perm (f e::(L.erase e).map f):=h.trans (p1.map f);obtain ⟨M,m1,rfl⟩:=iP f r (L.erase e) ((List.perm_cons _).mp p2);exact ⟨e::M,(m1.cons e).trans p1.symm,rfl⟩
section
variable {X:Cx}
theorem wN:bZ X (.builtin "sorted") (λxs H Q=>∃(p:Addr)(L:List (Addr×(Nat×Nat))),xs= [.ref p]∧aH X.K H p (L.map λe=>V.ref e.1)∧oN H L∧L.length≤1000∧
  ∀(q:Addr)(M:List (Addr×(Nat×Nat))),H q=none→M.Perm L→(M.map (·.2)).Pairwise Wb.lexLe→Q (.ref q) (upd H q (.lst (M.map λe=>V.ref e.1)))):=by
 intro pins s σ H xs us Q I rv h;obtain ⟨p,L,rfl,hp,hL,hz,q⟩:=h;obtain ⟨u,rfl,ru⟩:=rv.one;cases ru;obtain ⟨its,r,pl,_⟩:=I.list hp;have hl:=r.length;rw [aN] at hl;have bE:1000<sizeLine:=by decide
 have ei:its=L.map λe=>Value.ref e.1:=by
  have:=pM (as:=L.map (·.1)) (us:=its) (by rw [cK];exact r)
  rw [this,cK];rfl
 by_cases h2:L.length<2
 ·refine KS.oG pl.isList (by omega) ?_
  obtain ⟨e,he⟩:=sortedAll_at s.heap its its.toArray;have fr:H (s.heap.objs.size+1)=none:=I.hok.fresh (kv _);refine ⟨.ref (s.heap.objs.size+1),_,I.laid (t':=s.toks) (λb o hb=>sortedAll_old hb) (kv _) (o:= .lst (L.map λe=>V.ref e.1)) ⟨by rw [aN];omega,its,e,r,he⟩,rfl,q _ L fr (.refl _) ?_⟩
  match L,h2 with
  | [],_=>exact .nil
  | [_],_=>exact List.pairwise_singleton _ _
 ·have tup:∀e∈L,∀s':Shared,TS.Keeps s s'→∃t u,IsTup s'.heap e.1 [.int (e.2.1:Nat) t, .int (e.2.2:Nat) u].toArray:=λe he s' kp=>by
   obtain ⟨t,u,o,ho,hc,n,hd⟩:=Gp I (hL e he);exact ⟨t,u,o,kp _ _ ho,hc,n,hd⟩
  refine TS.sY (O:=lexOrd) (key:=keyOf L) (S:=λp=>∃e∈L,p=(Value.ref e.1,Value.ref e.1)) (k0:=tuples' true) pl.isList (by omega) (by omega) (λE' s' Q' kp hq=>?_) (λE' s' kp x y st Q' sx sy hk hq=>?_) (λv hv=>?_) λout mq CD=>?_
  ·have go:∀(M:List (Addr×(Nat×Nat))),(∀e∈M,e∈L)→∃fs:List Value,PySem.W.KatTups s'.heap (M.map λe=>Value.ref e.1) fs∧fs.length=M.length∧∀v∈fs,∃i t,v= .int i t:=by
    intro M
    induction M with
    |nil=>exact λ_=>⟨[],PySem.W.KatTups.nil,rfl,λv hv=>by cases hv⟩
    |cons e M ih=>
     intro hM;obtain ⟨fs,a,b,c⟩:=ih λx hx=>hM x (cA _ hx);obtain ⟨t,u,o,ho,hc,n,hd⟩:=tup e (hM e cC) s' kp;refine ⟨.int (e.2.1:Nat) t::fs,PySem.W.KatTups.cons ho hc hd rfl a,by simp [b],λv hv=>?_⟩
     rcases bV.mp hv with z|z
     ·exact ⟨_,_,z⟩
     ·exact c v z
   obtain ⟨fs,kt,kl,ki⟩:=go L λ_ h=>h;rw [ei];refine PySem.W.kat_kind (T:= .type "int") kt (by omega) (λv hv=>by obtain ⟨i,t,rfl⟩:=ki v hv;exact .now) (by decide) ?_
   have hb:(Value.type "int" !=Value.type "tuple")=true:=by decide
   rw [hb];exact hq
  ·obtain ⟨e1,m1,rfl⟩:=sx
   obtain ⟨e2,m2,rfl⟩:=sy;rw [lt'_eq];refine wpS_bind (wpS_get ?_);rw [hk];obtain ⟨t1,t2,k1⟩:=tup e1 m1 s' kp;obtain ⟨u1,u2,k2⟩:=tup e2 m2 s' kp;refine wpS_bind (wpS_lift (wpAny_attempt (LM k1 k2 ⟨rfl,?_⟩)))
   have eb:(if ((e1.2.1:Nat):Int)=((e2.2.1:Nat):Int) then decide (((e1.2.2:Nat):Int)<((e2.2.2:Nat):Int)) else decide (((e1.2.1:Nat):Int)<((e2.2.1:Nat):Int)))=lexOrd.blt (keyOf L (.ref e1.1, .ref e1.1)) (keyOf L (.ref e2.1, .ref e2.1)):=by
    rw [kK hL m1,kK hL m2];show _=ji e1.2 e2.2;unfold ji;simp only [Int.ofNat_inj,Int.ofNat_lt]
   rw [eb];exact wpS_pure hq
  ·rw [ei] at hv
   obtain ⟨e,he,rfl⟩:=bz.mp hv;exact ⟨e,he,rfl⟩
  ·rw [ei,cK] at mq
   obtain ⟨M,mp,em⟩:=iP (λe:Addr×(Nat×Nat)=>((Value.ref e.1,Value.ref e.1):Keyed)) out.toList L mq
   have IW:(out.map (·.2)).toList=M.map λe=>Value.ref e.1:=by
    rw [Array.toList_map,em,cK];rfl
   obtain ⟨c,hc⟩:=sortedAll_at s.heap its (out.map (·.2));have fr:H (s.heap.objs.size+1)=none:=I.hok.fresh (kv _);have Lu:=mp.length_eq;refine ⟨.ref (s.heap.objs.size+1),_,I.laid (t':=s.toks) (λb o hb=>sortedAll_old hb) (kv _) (o:= .lst (M.map λe=>V.ref e.1)) ⟨by rw [aN];omega,(out.map (·.2)).toList,c,?_,by rw [Array.toArray_toList];exact hc⟩,rfl,q _ M fr mp ?_⟩
   ·rw [IW,show (λe:Addr×(Nat×Nat)=>V.ref e.1)=V.ref∘(·.1) from rfl,show (λe:Addr×(Nat×Nat)=>Value.ref e.1)=Value.ref∘(·.1) from rfl,←cK,←cK]
    exact pD _
   ·rw [em,iH] at CD
    rw [iH];refine List.Pairwise.imp_of_mem ?_ CD;intro e1 e2 m1 m2 hle;have AE:ji (keyOf L (.ref e2.1, .ref e2.1)) (keyOf L (.ref e1.1, .ref e1.1))=false:=hle;rw [kK hL (mp.mem_iff.mp m1),kK hL (mp.mem_iff.mp m2)] at AE;exact u9 AE
end
section
open PySem.SeqAt
open PySem.AutoSeq1 (wpAny_loadPart')
open PySem.MeetsSeq PySem.MeetsSeq2 PySem.MeetsSeq3
theorem AM{vs:List Value}{ns:List Int}(h:IntsAre vs ns){i:Nat}{a:Int}(e:ns[i]? =some a):∃t,vs[i]? =some (.int a t):=by
 induction h generalizing i with
 |nil=>simp at e
 |cons b t _ ih=>
  cases i with
  |zero=>simp at e;subst e;exact ⟨t,rfl⟩
  |succ i=>simp at e;obtain ⟨u,hu⟩:=ih e;exact ⟨u,by simpa using hu⟩
theorem Jw(l b:Addr)(items dE:Array Value)(n n2:Nat)(dd yG:Option Addr)(sl vL:Array (Option Value))(ns ms:List Int)(hi:IntsAre items.toList ns)(hj:IntsAre dE.toList ms)(k:Nat):
  ∀i:Nat,items.size-i=k→i≤items.size→i≤dE.size→Meets (Builtin.«list.__eq__.loop» ⟨[.ref l, .ref b,rawInt i,rawInt 0],[]⟩)
   (λA R s=>s.heap.get? l=some {cls:= .type "list",dict:=dd,data:= .seq items n,slots:=sl}∧s.heap.get? b=some {cls:= .type "list",dict:=yG,data:= .seq dE n2,slots:=vL}∧
    R (.ok (.ret (.bool (HT.lexLt (ns.drop i) (ms.drop i))))) s):=by
 have z1:items.size=ns.length:=by rw [←hi.length];simp
 have z2:dE.size=ms.length:=by rw [←hj.length];simp
 induction k with
 |zero=>
  intro i hk h1 h2 prog w A R s h;obtain ⟨hp,g,d,tk,os⟩:=s;obtain ⟨hl,hb,h⟩:=h
  wp_walk using wpAny_loadPart' hl,wpAny_loadPart' hb
  have wR:items[((i:Nat):Int).toNat]? =none:=by simp;omega
  rw [wR];have e1:ns.drop i= []:=wx (by omega)
  rw [e1] at h
  have hv:HT.lexLt [] (ms.drop i)=decide (items.size<dE.size):=by
   by_cases c:i<ms.length
   ·rw [qQ c,HT.tS]
    exact (decide_eq_true (by omega)).symm
   ·rw [wx (by omega),HT.vc]
    exact (decide_eq_false (by omega)).symm
  rw [hv] at h
  wp_walk using wpAny_loadPart' hl,wpAny_loadPart' hb
  exact h
 |succ k ih=>
  intro i hk h1 h2 prog w A R s h;obtain ⟨hp,g,d,tk,os⟩:=s;obtain ⟨hl,hb,h⟩:=h
  wp_walk using wpAny_loadPart' hl,wpAny_loadPart' hb
  have bG:i<ns.length:=by omega
  obtain ⟨t,ht⟩:=AM hi (dh bG);have wR:items[((i:Nat):Int).toNat]? =some (.int ns[i] t):=by rw [jL,←eU];exact ht
  have hc:((i:Int)+1)=((i+1:Nat):Int):=by push_cast;rfl
  rw [wR]
  by_cases c:i<ms.length
  ·obtain ⟨u,hu⟩:=AM hj (dh c)
   have Cz:dE[((i:Nat):Int).toNat]? =some (.int ms[i] u):=by rw [jL,←eU];exact hu
   rw [Cz];rw [qQ bG,qQ c,HT.jF] at h;obtain ⟨e,he,NU⟩:=HT.Fy A.in1 ⟨hp,g,d,tk,os⟩ ns[i] t ms[i] u;refine wpAny_bind (he prog w _ _ ?_);cases e with
   |true=>
    rw [if_pos (NU.mp rfl)] at h
    wp_walk
    rw [hc]
    exact ⟨plainId_quiet plain_eq_loop _,codeAny_builtin entry_eq_loop (by
     rw [Around.under_plainId plain_eq_loop _];exact ih (i+1) (by omega) (by omega) (by omega) prog w A R _ ⟨hl,hb,h⟩)⟩
   |false=>
    rw [if_neg (λq=>absurd (NU.mpr q) cZ)] at h
    wp_walk using wpAny_loadPart' hl,wpAny_loadPart' hb
    rw [wR,Cz];have hri:=HT.GD A.in1 ⟨hp,g,d,tk,os⟩ ns[i] t ms[i] u prog w
    wp_walk using hri
    exact h
  ·have Cz:dE[((i:Nat):Int).toNat]? =none:=by simp;omega
   rw [Cz];rw [qQ bG,wx (show ms.length≤i by omega),HT.tR] at h
   wp_walk using wpAny_loadPart' hl,wpAny_loadPart' hb
   show R (.ok (.ret (.bool (decide (items.size<dE.size))))) _;rw [decide_eq_false (by omega)]
   exact h
end
section
open PySem.SeqAt
open PySem.AutoSeq1 (wpAny_loadPart')
open PySem.MeetsSeq PySem.MeetsSeq2 PySem.MeetsSeq3
theorem w4(l b:Addr)(items dE:Array Value)(n n2:Nat)(dd yG:Option Addr)(sl vL:Array (Option Value))(ns ms:List Int)(hi:IntsAre items.toList ns)(hj:IntsAre dE.toList ms):
  Meets (Builtin.«list.__lt__» ⟨[.ref l, .ref b],[]⟩)
   (λ_ R s=>s.heap.get? l=some {cls:= .type "list",dict:=dd,data:= .seq items n,slots:=sl}∧s.heap.get? b=some {cls:= .type "list",dict:=yG,data:= .seq dE n2,slots:=vL}∧
    R (.ok (.ret (.bool (HT.lexLt ns ms)))) s):=by
 intro prog w A R s h;obtain ⟨hp,g,d,tk,os⟩:=s;obtain ⟨hl,hb,h⟩:=h;have f3:=AutoSeq1.sub_list_list
 wp_walk using wpAny_loadPart' hl,wpAny_loadPart' hb
 exact ⟨plainId_quiet plain_eq_loop _,codeAny_builtin entry_eq_loop (by
  rw [Around.under_plainId plain_eq_loop _];exact Jw l b items dE n n2 dd yG sl vL ns ms hi hj _ 0 rfl (cS _) (cS _) prog w A R _ ⟨hl,hb,h⟩)⟩
end
section
variable {prog:Program} {w:World} {A:Around} {E:Value→Shared→Prop} {s:Shared}
theorem A7{l b:Addr}{items dE:Array Value}{ns ms:List Int}{Q:Bool→Shared→Prop}(hl:s.heap.IsList l items)(hb:s.heap.IsList b dE)(hi:IntsAre items.toList ns)(hj:IntsAre dE.toList ms)(hu:A.units<cLine)
  (h:Q (HT.lexLt ns ms) s):wpAny (model prog w) A (oneLt' true (.ref l) (.ref b)) Q E s:=by
 obtain ⟨⟨cls,dd,data,sl⟩,ho,hc,n,hd⟩:=id hl;obtain ⟨⟨Sx,yG,data2,vL⟩,AI,Cv,n2,hd2⟩:=id hb;simp only at hc hd Cv hd2;subst hc hd Cv hd2;rw [oneLt'_eq];simp only [if_true];refine wpAny_bind (wpAny_cRoomFor hu ?_);refine wpAny_bind (wpAny_callSpecialIfBound?_slot ⟨_,ho,rfl⟩ PySem.F.slot_list_lt (call_meets PySem.F.slot_list_lt ⟨_,ho,rfl⟩ PySem.F.entry_list_lt (PySem.F.args_list_lt_2 _ _) (w4 l b items dE n n2 dd yG sl vL ns ms hi hj) ⟨ho,AI,?_⟩));exact wpAny_truthy_bool h
end
theorem AW:∀a:List Int,HT.lexLt a a=false
 | []=>rfl
 |x::xs=>by rw [HT.jF,if_pos rfl];exact AW xs
theorem ze:∀a b c:List Int,HT.lexLt a b=true→HT.lexLt b c=true→HT.lexLt a c=true
 | [],[],_,h,_=>by cases h
 | [],_::_,[],_,h=>by cases h
 | [],_::_,_::_,_,_=>rfl
 |_::_,[],_,h,_=>by cases h
 |_::_,_::_,[],_,h=>by cases h
 |x::xs,y::ys,z::zs,h1,h2=>by
  rw [HT.jF] at*
  by_cases e1:x=y
  ·rw [if_pos e1] at h1
   by_cases e2:y=z
   ·rw [if_pos e2] at h2
    rw [if_pos (e1.trans e2)];exact ze xs ys zs h1 h2
   ·rw [if_neg e2] at h2
    rw [if_neg (by rw [e1];exact e2),e1];exact h2
  ·rw [if_neg e1] at h1
   have l1:=of_decide_eq_true h1
   by_cases e2:y=z
   ·rw [if_neg (by rw [←e2];exact e1),←e2];exact h1
   ·rw [if_neg e2] at h2
    have l2:=of_decide_eq_true h2;rw [if_neg (by omega)]
    exact decide_eq_true (by omega)
theorem qi:∀a b:List Int,HT.lexLt a b=false→HT.lexLt b a=false→a=b
 | [],[],_,_=>rfl
 | [],_::_,h,_=>by cases h
 |_::_,[],_,h=>by cases h
 |x::xs,y::ys,h1,h2=>by
  rw [HT.jF] at*
  by_cases e:x=y
  ·rw [if_pos e] at h1
   rw [if_pos e.symm] at h2;rw [e,qi xs ys h1 h2]
  ·rw [if_neg e] at h1
   rw [if_neg (λz=>e z.symm)] at h2
   have:=of_decide_eq_false h1
   have:=of_decide_eq_false h2
   omega
theorem Jq(a b c:List Int)(h:HT.lexLt a c=true):HT.lexLt a b=true∨HT.lexLt b c=true:=by
 cases e1:HT.lexLt a b with
 |true=>exact .inl rfl
 |false=>
  right
  cases e2:HT.lexLt b a with
  |true=>exact ze _ _ _ e2 h
  |false=>rw [←qi a b e1 e2];exact h
def Jt:KeyOrd where
 α:=List Int
 blt:=HT.lexLt
 irrefl:=AW
 trans:=ze
 negTrans:=Jq
 total:=qi
def ko(r:List Nat):List Int:=r.map λ(n:Nat)=>(n:Int)
def qj(a b:List Nat):Prop:=HT.lexLt (ko b) (ko a)=false
def KP(H:Hp)(L:List (Addr×List Nat)):Prop:=∀p∈L,H p.1=some (.lst ((ko p.2).map V.int))
theorem BB{a b:List Nat}(h:(ko a).map V.int=(ko b).map V.int):a=b:=by
 unfold ko at h;rw [cK,cK] at h
 induction a generalizing b with
 |nil=>cases b with
  |nil=>rfl
  |cons y b=>simp at h
 |cons x a ih=>
  cases b with
  |nil=>simp at h
  |cons y b=>
   rw [gI,gI] at h
   injection h with h1 h2
   have Ud:V.int (x:Int)=V.int (y:Int):=h1
   injection Ud with Ud
   rw [ih h2,show x=y by omega]
def o9(L:List (Addr×List Nat))(v:Keyed):List Int:=match v.1 with
 | .ref a=>((L.find? λe=>e.1==a).map λe=>ko e.2).getD []
 |_=> []
theorem kJ{H:Hp}{L:List (Addr×List Nat)}(hL:KP H L){e:Addr×List Nat}(he:e∈L)(v:Value):o9 L (.ref e.1,v)=ko e.2:=by
 unfold o9;dsimp only;cases hf:L.find? λx=>x.1==e.1 with
 |none=>exact absurd (List.find?_eq_none.mp hf e he) (by simp)
 |some x=>
  have hx:=List.mem_of_find?_eq_some hf;have hb:=List.find?_some hf;have e1:x.1=e.1:=by simpa using hb
  have a1:=hL x hx;have a2:=hL e he;rw [e1,a2] at a1
  injection a1 with a1
  injection a1 with a1
  show ko x.2=ko e.2;rw [BB a1]
section
variable {X:Cx}
theorem uy(hu:X.A.units+64<cLine):bZ X (.builtin "sorted") (λxs H Q=>∃(p:Addr)(L:List (Addr×List Nat)),xs= [.ref p]∧aH X.K H p (L.map λe=>V.ref e.1)∧KP H L∧L.length≤1000∧
  ∀(q:Addr)(M:List (Addr×List Nat)),H q=none→M.Perm L→(M.map (·.2)).Pairwise qj→Q (.ref q) (upd H q (.lst (M.map λe=>V.ref e.1)))):=by
 intro pins s σ H xs us Q I rv h;obtain ⟨p,L,rfl,hp,hL,hz,q⟩:=h;obtain ⟨u,rfl,ru⟩:=rv.one;cases ru;obtain ⟨its,r,pl,_⟩:=I.list hp;have hl:=r.length;rw [aN] at hl;have bE:1000<sizeLine:=by decide
 have ei:its=L.map λe=>Value.ref e.1:=by
  have:=pM (as:=L.map (·.1)) (us:=its) (by rw [cK];exact r)
  rw [this,cK];rfl
 by_cases h2:L.length<2
 ·refine KS.oG pl.isList (by omega) ?_
  obtain ⟨e,he⟩:=sortedAll_at s.heap its its.toArray;have fr:H (s.heap.objs.size+1)=none:=I.hok.fresh (kv _);refine ⟨.ref (s.heap.objs.size+1),_,I.laid (t':=s.toks) (λb o hb=>sortedAll_old hb) (kv _) (o:= .lst (L.map λe=>V.ref e.1)) ⟨by rw [aN];omega,its,e,r,he⟩,rfl,q _ L fr (.refl _) ?_⟩
  match L,h2 with
  | [],_=>exact .nil
  | [_],_=>exact List.pairwise_singleton _ _
 ·have lst:∀e∈L,∀s':Shared,TS.Keeps s s'→∃items:Array Value,s'.heap.IsList e.1 items∧IntsAre items.toList (ko e.2):=λe he s' kp=>by
   obtain ⟨it2,r2,p2,_⟩:=I.list (aH.of (hL e he));obtain ⟨o,ho,hc,n,hd⟩:=p2.isList;exact ⟨it2.toArray,⟨o,kp _ _ ho,hc,n,hd⟩,by simpa using intsAre_of r2⟩
  refine TS.sY (O:=Jt) (key:=o9 L) (S:=λp=>∃e∈L,p=(Value.ref e.1,Value.ref e.1)) (k0:=oneType') pl.isList (by omega) (by omega) (λE' s' Q' kp hq=>?_) (λE' s' kp x y st Q' sx sy hk hq=>?_) (λv hv=>?_) λout mq CD=>?_
  ·refine PySem.W.kas_kind (T:= .type "list") (by omega) (λv hv=>?_) (by decide) (by decide) hq
   rw [ei] at hv;obtain ⟨e,he,rfl⟩:=bz.mp hv;obtain ⟨items,⟨o,ho,hc,_⟩,_⟩:=lst e he s' kp;rw [←hc];exact (PySem.W.Looks.ld ho).andThen .now
  ·obtain ⟨e1,m1,rfl⟩:=sx
   obtain ⟨e2,m2,rfl⟩:=sy;rw [lt'_eq];refine wpS_bind (wpS_get ?_);rw [hk,keyLt'_oneType];obtain ⟨i1,l1,n1⟩:=lst e1 m1 s' kp;obtain ⟨i2,l2,n2⟩:=lst e2 m2 s' kp;refine wpS_bind (wpS_lift (wpAny_attempt (A7 l1 l2 n1 n2 ?_ ⟨rfl,?_⟩)))
   ·rw [Around.in1_units,Around.in1_units];omega
   ·have eb:HT.lexLt (ko e1.2) (ko e2.2)=Jt.blt (o9 L (.ref e1.1, .ref e1.1)) (o9 L (.ref e2.1, .ref e2.1)):=by
     rw [kJ hL m1,kJ hL m2];rfl
    rw [eb];exact wpS_pure hq
  ·rw [ei] at hv
   obtain ⟨e,he,rfl⟩:=bz.mp hv;exact ⟨e,he,rfl⟩
  ·rw [ei,cK] at mq
   obtain ⟨M,mp,em⟩:=iP (λe:Addr×List Nat=>((Value.ref e.1,Value.ref e.1):Keyed)) out.toList L mq
   have IW:(out.map (·.2)).toList=M.map λe=>Value.ref e.1:=by
    rw [Array.toList_map,em,cK];rfl
   obtain ⟨c,hc⟩:=sortedAll_at s.heap its (out.map (·.2));have fr:H (s.heap.objs.size+1)=none:=I.hok.fresh (kv _);have Lu:=mp.length_eq;refine ⟨.ref (s.heap.objs.size+1),_,I.laid (t':=s.toks) (λb o hb=>sortedAll_old hb) (kv _) (o:= .lst (M.map λe=>V.ref e.1)) ⟨by rw [aN];omega,(out.map (·.2)).toList,c,?_,by rw [Array.toArray_toList];exact hc⟩,rfl,q _ M fr mp ?_⟩
   ·rw [IW,show (λe:Addr×List Nat=>V.ref e.1)=V.ref∘(·.1) from rfl,show (λe:Addr×List Nat=>Value.ref e.1)=Value.ref∘(·.1) from rfl,←cK,←cK]
    exact pD _
   ·rw [em,iH] at CD
    rw [iH];refine List.Pairwise.imp_of_mem ?_ CD;intro e1 e2 m1 m2 hle;have AE:HT.lexLt (o9 L (.ref e2.1, .ref e2.1)) (o9 L (.ref e1.1, .ref e1.1))=false:=hle;rw [kJ hL (mp.mem_iff.mp m1),kJ hL (mp.mem_iff.mp m2)] at AE;exact AE
end
end L2
namespace PySem.SetTable
def lR(xs:Array Nat):Prop:=∀i j (hj:j<xs.size),i<j→xs[i]! <xs[j]!
theorem Io{xs:Array Nat}{i d:Nat}(h:i<xs.size):xs.getD i d=xs[i]! :=by
 simp [Array.getD,h]
theorem uN{xs:Array Nat}(R:lR xs)(j:Nat):∀(fuel lo hi:Nat),hi-lo≤fuel→lo≤hi→hi≤xs.size→(∀i,i<lo→xs[i]! <j)→(∀i,hi≤i→i<xs.size→j≤xs[i]!)→
  lo≤below.go xs j fuel lo hi∧below.go xs j fuel lo hi≤hi∧(∀i,i<below.go xs j fuel lo hi→xs[i]! <j)∧∀i,below.go xs j fuel lo hi≤i→i<xs.size→j≤xs[i]!
 |0,lo,hi,h1,h2,h3,a,b=>by
  have:lo=hi:=by omega
  subst this;rw [below.go];exact ⟨aV _,aV _,a,b⟩
 |fuel+1,lo,hi,h1,h2,h3,a,b=>by
  rw [below.go]
  by_cases c:lo<hi
  ·rw [if_pos c]
   have hm:(lo+hi) / 2<xs.size:=by omega
   dsimp only;rw [Io hm]
   by_cases d:xs[(lo+hi) / 2]! <j
   ·rw [if_pos d]
    have:=uN R j fuel ((lo+hi) / 2+1) hi (by omega) (by omega) h3 (λi fj=>by
     by_cases e:i=(lo+hi) / 2
     ·rw [e];exact d
     ·have:=R i ((lo+hi) / 2) hm (by omega);omega) b
    exact ⟨by omega,this.2.1,this.2.2⟩
   ·rw [if_neg d]
    have:=uN R j fuel lo ((lo+hi) / 2) (by omega) (by omega) (by omega) a (λi h4 h5=>by
     by_cases e:i=(lo+hi) / 2
     ·rw [e];omega
     ·have:=R ((lo+hi) / 2) i h5 (by omega);omega)
    exact ⟨this.1,by omega,this.2.2⟩
  ·rw [if_neg c]
   have:lo=hi:=by omega
   subst this;exact ⟨aV _,aV _,a,b⟩
theorem jA{xs:Array Nat}(R:lR xs)(j:Nat):below xs j≤xs.size∧(∀i,i<below xs j→xs[i]! <j)∧∀i,below xs j≤i→i<xs.size→j≤xs[i]! :=by
 have:=uN R j xs.size 0 xs.size (by omega) (cS _) (aV _) (λi h=>by omega) (λi h1 h2=>by omega)
 exact ⟨this.2.1,this.2.2⟩
theorem below_at{xs:Array Nat}(R:lR xs){i j:Nat}(h:xs[i]? =some j):below xs j=i:=by
 obtain ⟨hi,e⟩:=BI.mp h;have e':xs[i]! =j:=by simp [hi,e]
 obtain ⟨b1,b2,b3⟩:=jA R j;apply Nat.le_antisymm
 ·apply Classical.byContradiction
  intro c
  have:=b2 i (by omega)
  omega
 ·apply Classical.byContradiction
  intro c;have h1:=b3 (below xs j) (aV _) (by omega)
  have h2:=R (below xs j) i hi (by omega)
  omega
theorem pI{t:SetTable}(R:lR t.place){i j:Nat}(h:t.place[i]? =some j):t.slot j= .live i:=by
 unfold slot;rw [below_at R h];simp [h]
theorem Bq{t:SetTable}(R:lR t.place)(hd:t.dummies= #[]){j:Nat}(h:∀i:Nat,t.place[i]? ≠some j):t.slot j= .empty:=by
 unfold slot
 have h1:(t.place[below t.place j]? ==some j)=false:=by
  rw [beq_eq_false_iff_ne];exact h _
 dsimp only;rw [if_neg (by rw [h1];exact cZ)]
 unfold has;rw [hd];rfl
def lM(mask:Nat)(p:Probe):Probe:=
 if p.more>0 then {p with j:=p.j+1,more:=p.more-1} else
 let (i,perturb):=leap mask p.i p.perturb
 {p with j:=i,more:=runEnd mask i-i,i,perturb}
def bD(mask:Nat)(h:Int):Probe:={j:=bits h%(mask+1),more:=runEnd mask (bits h%(mask+1))-bits h%(mask+1),i:=bits h%(mask+1),perturb:=bits h,dummy:=none}
def pJ(mask:Nat)(h:Int):Nat→Probe
 |0=>bD mask h
 |k+1=>lM mask (pJ mask h k)
def bL(mask:Nat)(h:Int)(k:Nat):Nat:=(pJ mask h k).j
theorem Hm(h:Int):bits h<2^64:=by
 unfold bits;have h1:0≤h%(2^64:Int):=Int.emod_nonneg _ (by decide)
 have h2:h%(2^64:Int)<2^64:=Int.emod_lt_of_pos _ (by decide)
 omega
def dB(mask:Nat)(i p:Nat):Nat→Nat×Nat
 |0=>(i,p)
 |r+1=>leap mask (dB mask i p r).1 (dB mask i p r).2
theorem jP(mask i p:Nat):∀r,(dB mask i p r).2=p / 32^r
 |0=>by simp [dB]
 |r+1=>by
  show (dB mask i p r).2 / 32=_;rw [jP mask i p r,Nat.div_div_eq_div_mul,Nat.pow_succ]
def LS(mask:Nat)(i:Nat):Nat:=(i*5+1)%(mask+1)
def jE(mask:Nat)(i:Nat):Nat→Nat
 |0=>i
 |r+1=>LS mask (jE mask i r)
theorem j7(mask i:Nat)(a:Nat):∀b,jE mask i (a+b)=jE mask (jE mask i a) b
 |0=>rfl
 |b+1=>by
  show LS mask (jE mask i (a+b))=_;rw [j7 mask i a b];rfl
theorem r6{mask i p r0:Nat}(h:(dB mask i p r0).2=0):∀r,dB mask i p (r0+r)=(jE mask (dB mask i p r0).1 r,0)
 |0=>by rw [Nat.add_zero,jE];exact Prod.ext rfl h
 |r+1=>by
  show leap mask (dB mask i p (r0+r)).1 (dB mask i p (r0+r)).2=_;rw [r6 h r];unfold leap;simp [jE,LS]
def tK(mask:Nat):Prop:=mask=7∨mask=31∨mask=127∨mask=511
def QZ(mask:Nat):Nat→Nat→List Nat
 |_,0=> []
 |i,n+1=>i::QZ mask (LS mask i) n
theorem A3{mask s:Nat}:∀{i n:Nat},s∈QZ mask i n→∃r,r<n∧jE mask i r=s
 |i,0,h=>by cases h
 |i,n+1,h=>by
  rcases bV.mp h with rfl|h
  ·exact ⟨0,by omega,rfl⟩
  ·obtain ⟨r,hr,e⟩:=A3 h
   refine ⟨r+1,by omega,?_⟩
   have:=j7 mask i 1 r
   rw [show 1+r=r+1 by omega] at this
   rw [this];exact e
theorem Q0{mask:Nat}(h:tK mask):(∀s,s≤mask→∃r,r≤mask∧jE mask 0 r=s)∧jE mask 0 (mask+1)=0:=by
 have key:∀m,(List.range (m+1)).all (λs=>(QZ m 0 (m+1)).contains s)=true→∀s,s≤m→∃r,r≤m∧jE m 0 r=s:=λm hm s hs=>by
  have:=List.all_eq_true.mp hm s (gP.mpr (by omega))
  obtain ⟨r,hr,e⟩:=A3 (List.contains_iff_mem.mp this);exact ⟨r,by omega,e⟩
 rcases h with rfl|rfl|rfl|rfl
 ·exact ⟨key 7 (by decide+kernel),by decide+kernel⟩
 ·exact ⟨key 31 (by decide+kernel),by decide+kernel⟩
 ·exact ⟨key 127 (by decide+kernel),by decide+kernel⟩
 ·exact ⟨key 511 (by decide+kernel),by decide+kernel⟩
theorem cover{mask:Nat}(h:tK mask){i s:Nat}(hi:i≤mask)(hs:s≤mask):∃r,r≤mask∧jE mask i r=s:=by
 obtain ⟨o,per⟩:=Q0 h;obtain ⟨a,ha,rfl⟩:=o i hi;obtain ⟨b,hb,rfl⟩:=o s hs
 by_cases c:a≤b
 ·refine ⟨b-a,by omega,?_⟩
  rw [←j7,show a+(b-a)=b by omega]
 ·refine ⟨mask+1-a+b,by omega,?_⟩
  rw [←j7,show a+(mask+1-a+b)=mask+1+b by omega,j7,per]
def cg(mask:Nat)(p:Probe):Nat→Probe
 |0=>p
 |k+1=>lM mask (cg mask p k)
theorem jW(mask:Nat)(p:Probe)(a:Nat):∀b,cg mask p (a+b)=cg mask (cg mask p a) b
 |0=>rfl
 |b+1=>by
  show lM mask (cg mask p (a+b))=_;rw [jW mask p a b];rfl
theorem lb(mask:Nat)(h:Int):∀k,pJ mask h k=cg mask (bD mask h) k
 |0=>rfl
 |k+1=>by
  show lM mask _=lM mask _;rw [lb mask h k]
theorem rg(mask:Nat)(p:Probe):∀c,c≤p.more→cg mask p c={p with j:=p.j+c,more:=p.more-c}
 |0,_=>rfl
 |c+1,hc=>by
  show lM mask (cg mask p c)=_;rw [rg mask p c (by omega)]
  unfold lM;rw [if_pos (by show p.more-c>0;omega)]
  show ({p with j:=p.j+c+1,more:=p.more-c-1}:Probe)={p with j:=p.j+(c+1),more:=p.more-(c+1)}
  rw [show p.more-c-1=p.more-(c+1) by omega,show p.j+c+1=p.j+(c+1) by omega]
def MT(mask:Nat)(p:Probe)(ip:Nat×Nat):Probe:={p with j:=ip.1,more:=runEnd mask ip.1-ip.1,i:=ip.1,perturb:=ip.2}
theorem more_le(mask i:Nat):runEnd mask i-i≤9:=by
 unfold runEnd
 split<;>omega
theorem oP(mask:Nat)(p:Probe):cg mask p (p.more+1)=MT mask p (leap mask p.i p.perturb):=by
 show lM mask (cg mask p p.more)=_;rw [rg mask p p.more (aV _)];unfold lM;rw [if_neg (by show ¬p.more-p.more>0;omega)]
 rfl
theorem um(mask:Nat)(p:Probe):∀r,∃k,k≤p.more+1+10*r∧cg mask p k=MT mask p (dB mask p.i p.perturb (r+1))
 |0=>⟨p.more+1,by omega,oP mask p⟩
 |r+1=>by
  obtain ⟨k,hk,e⟩:=um mask p r;have h9:=more_le mask (dB mask p.i p.perturb (r+1)).1;refine ⟨k+((runEnd mask (dB mask p.i p.perturb (r+1)).1-(dB mask p.i p.perturb (r+1)).1)+1),by omega,?_⟩
  rw [jW,e];exact oP mask (MT mask p (dB mask p.i p.perturb (r+1)))
theorem Bk(mask i p:Nat)(r:Nat):(dB mask i p (r+1)).1≤mask:=by
 show (((dB mask i p r).1*5+1+(dB mask i p r).2 / 32)%(mask+1))≤mask
 have:=Nat.mod_lt ((dB mask i p r).1*5+1+(dB mask i p r).2 / 32) (show 0<mask+1 by omega)
 omega
theorem EM{mask i:Nat}(h:i≤mask):i+(runEnd mask i-i)≤mask:=by
 unfold runEnd
 split<;>omega
structure q0 (mask:Nat) (p:Probe):Prop where
 le:p.j+p.more≤mask
 more:p.more≤9
 per:p.perturb<2^64
 dum:p.dummy=none
theorem q0.lM{mask:Nat}{p:Probe}(o:q0 mask p):q0 mask (lM mask p):=by
 unfold SetTable.lM
 split
 ·next h=>exact ⟨by show p.j+1+(p.more-1)≤mask;have:=o.le;omega,by show p.more-1≤9;have:=o.more;omega,o.per,o.dum⟩
 ·refine ⟨EM (by have:=Nat.mod_lt (p.i*5+1+p.perturb / 32) (show 0<mask+1 by omega);show (p.i*5+1+p.perturb / 32)%(mask+1)≤mask;omega),more_le _ _,?_,o.dum⟩
  show p.perturb / 32<2^64
  have:=o.per
  omega
theorem q0.start(mask:Nat)(h:Int):q0 mask (bD mask h):=⟨EM (mask:=mask) (i:=bits h%(mask+1)) (by have:=Nat.mod_lt (bits h) (show 0<mask+1 by omega);omega),more_le _ _,Hm h,rfl⟩
theorem q0.cg{mask:Nat}{p:Probe}(o:q0 mask p):∀k,q0 mask (cg mask p k)
 |0=>o
 |k+1=>(o.cg k).lM
theorem meets{mask:Nat}(f:tK mask){p:Probe}(o:q0 mask p){s:Nat}(hs:s≤mask):∃k,k<10*turns mask∧(cg mask p k).j=s:=by
 have z:(dB mask p.i p.perturb 13).2=0:=by
  rw [jP];exact Nat.div_eq_of_lt (gO o.per (by decide))
 obtain ⟨r,hr,e⟩:=cover f (Bk mask p.i p.perturb 12) hs;obtain ⟨k,hk,e2⟩:=um mask p (12+r);refine ⟨k,?_,?_⟩
 ·have:=o.more
  unfold turns;omega
 ·rw [e2]
  show (dB mask p.i p.perturb (12+r+1)).1=s;rw [show 12+r+1=13+r by omega,r6 z]
  exact e
theorem yc{t:SetTable}(R:lR t.place)(hd:t.dummies= #[])(hashAt:Nat→Int)(h:Int):∀(K fuel:Nat)(p:Probe),p.dummy=none→K<fuel→(∀i:Nat,t.place[i]? ≠some (cg t.mask p K).j)→
  ∃k0,k0≤K∧(∀k',k'<k0→∃i:Nat,t.place[i]? =some (cg t.mask p k').j∧hashAt i≠h)∧
   (((∀i:Nat,t.place[i]? ≠some (cg t.mask p k0).j)∧probe.go t hashAt h fuel p=some (.empty (cg t.mask p k0).j none))∨
    (∃i:Nat,t.place[i]? =some (cg t.mask p k0).j∧hashAt i=h∧probe.go t hashAt h fuel p=some (.candidate (cg t.mask p k0).j i (cg t.mask p (k0+1)))))
 |K,0,p,_,hK,_=>by omega
 |K,fuel+1,p,dn,hK,he=>by
  by_cases c:∃i:Nat,t.place[i]? =some p.j
  ·obtain ⟨i,hi⟩:=c
   have sl:=pI R hi
   by_cases c2:hashAt i=h
   ·refine ⟨0,cS _,λk' h'=>by omega, .inr ⟨i,hi,c2,?_⟩⟩
    rw [probe.go,sl];dsimp only;rw [if_pos (by simpa using c2)]
    rfl
   ·cases K with
    |zero=>exact absurd hi (he i)
    |succ K=>
     have ZA:(lM t.mask p).dummy=none:=by
      unfold lM
      split<;>exact dn
     have e1:∀k,cg t.mask (lM t.mask p) k=cg t.mask p (k+1):=λk=>by
      have:=jW t.mask p 1 k
      rw [show 1+k=k+1 by omega] at this
      exact this.symm
     obtain ⟨k0,tQ,a,b⟩:=yc R hd hashAt h K fuel (lM t.mask p) ZA (by omega) (by rw [e1];exact he)
     have eg:probe.go t hashAt h (fuel+1) p=probe.go t hashAt h fuel (lM t.mask p):=by
      rw [probe.go,sl];dsimp only;rw [if_neg (by simpa using c2)]
      rfl
     refine ⟨k0+1,by omega,λk' h'=>?_,?_⟩
     ·cases k' with
      |zero=>exact ⟨i,hi,c2⟩
      |succ k'=>
       have:=a k' (by omega)
       rw [e1] at this;exact this
     ·rw [e1,e1] at b
      rw [eg];exact b
  ·have c:∀i:Nat,t.place[i]? ≠some p.j:=λi hi=>c ⟨i,hi⟩
   refine ⟨0,cS _,λk' h'=>by omega, .inl ⟨c,?_⟩⟩
   rw [probe.go,Bq R hd c];dsimp only;rw [dn];rfl
structure TOk (t:SetTable) (hs:List Int):Prop where
 few:tK t.mask
 dum:t.dummies= #[]
 rise:lR t.place
 size:t.place.size=hs.length
 le:∀(i j:Nat),t.place[i]? =some j→j≤t.mask
 room:t.place.size≤t.mask
 path:∀(i:Nat)(h:Int),hs[i]? =some h→∃k,t.place[i]? =some (bL t.mask h k)∧∀k',k'<k→∃i':Nat,t.place[i']? =some (bL t.mask h k')
theorem zG(mask:Nat)(h:Int)(k:Nat):bL mask h k≤mask:=by
 unfold bL;rw [lb]
 have:=((q0.start mask h).cg k).le
 omega
theorem TOk.empty{t:SetTable}{hs:List Int}(T:TOk t hs):∃s,s≤t.mask∧∀i:Nat,t.place[i]? ≠some s:=by
 apply Classical.byContradiction;intro c
 have all:∀s∈List.range (t.mask+1),s∈t.place.toList:=λs hs=>by
  apply Classical.byContradiction;intro n;refine c ⟨s,by have:=gP.mp hs;omega,λi hi=>n ?_⟩
  rw [←eU] at hi;exact dD hi
 have:=Wb.bg List.nodup_range all
 rw [iG,cu] at this
 have:=T.room
 omega
theorem TOk.probe{t:SetTable}{hs:List Int}(T:TOk t hs)(hashAt:Nat→Int)(h:Int)(k:Nat):
  ∃k0,k≤k0∧(∀k',k≤k'→k'<k0→∃i:Nat,t.place[i]? =some (bL t.mask h k')∧hashAt i≠h)∧
   (((∀i:Nat,t.place[i]? ≠some (bL t.mask h k0))∧t.probe hashAt h (pJ t.mask h k)=some (.empty (bL t.mask h k0) none))∨
    (∃i:Nat,t.place[i]? =some (bL t.mask h k0)∧hashAt i=h∧t.probe hashAt h (pJ t.mask h k)=some (.candidate (bL t.mask h k0) i (pJ t.mask h (k0+1))))):=by
 obtain ⟨s,fk,he⟩:=T.empty;have o:=(q0.start t.mask h).cg k;rw [←lb] at o;obtain ⟨K,hK,eK⟩:=meets T.few o fk;have e1:∀c,cg t.mask (pJ t.mask h k) c=pJ t.mask h (k+c):=λc=>by rw [lb,lb,←jW]
 obtain ⟨k0,h0,a,b⟩:=yc T.rise T.dum hashAt h K (10*turns t.mask) (pJ t.mask h k) o.dum hK (by rw [eK];exact he)
 refine ⟨k+k0,by omega,λk' h1 h2=>?_,?_⟩
 ·have:=a (k'-k) (by omega)
  rw [e1,show k+(k'-k)=k' by omega] at this
  exact this
 ·rw [e1,e1] at b
  exact b
theorem jN{α:Type}{xs:Array α}{p:Nat}(x:α)(hp:p≤xs.size)(i:Nat):(insertAt xs p x)[i]? =if i<p then xs[i]? else if i=p then some x else xs[i-1]? :=by
 rw [←eU,SetTable.toList_insertAt];have lt:(xs.toList.take p).length=p:=by rw [iI,cu];omega
 by_cases c:i<p
 ·rw [if_pos c,jK (by omega),BJ c,eU]
 ·rw [if_neg c]
  by_cases d:i=p
  ·subst d
   rw [if_pos rfl,jt (by omega),lt,qX];rfl
  ·rw [if_neg d,jt (by omega),lt]
   obtain ⟨m,hm⟩:∃m,i-p=m+1:=⟨i-p-1,by omega⟩
   rw [hm,qS,wB,eU]
   congr 1;omega
theorem gE{α:Type}(xs:Array α)(p:Nat)(x:α):(insertAt xs p x).size=xs.size+1:=by
 rw [←cu,(SetTable.insertAt_perm xs p x).length_eq];simp
theorem iU{xs:Array Nat}{i j:Nat}(h:xs[i]? =some j):xs[i]! =j:=by
 obtain ⟨hi,e⟩:=BI.mp h;simp [hi,e]
theorem GF{xs:Array Nat}(R:lR xs){j:Nat}(h:∀i:Nat,xs[i]? ≠some j):lR (insertAt xs (below xs j) j):=by
 obtain ⟨b1,b2,b3⟩:=jA R j;have g:=jN (xs:=xs) j b1;intro a b hb FN;rw [gE] at hb
 have val:∀i,i<xs.size+1→∃v,(insertAt xs (below xs j) j)[i]? =some v∧((i<below xs j∧xs[i]? =some v)∨(i=below xs j∧v=j)∨(below xs j<i∧xs[i-1]? =some v)):=λi hi=>by
  rw [g i]
  by_cases c:i<below xs j
  ·rw [if_pos c,yu (by omega)]
   exact ⟨_,rfl, .inl ⟨c,rfl⟩⟩
  ·rw [if_neg c]
   by_cases d:i=below xs j
   ·rw [if_pos d];exact ⟨j,rfl, .inr (.inl ⟨d,rfl⟩)⟩
   ·rw [if_neg d,yu (by omega)]
    exact ⟨_,rfl, .inr (.inr ⟨by omega,rfl⟩)⟩
 obtain ⟨va,ha,ca⟩:=val a (by omega)
 obtain ⟨vb,Ct,cb⟩:=val b (by omega)
 rw [iU ha,iU Ct];have lo:∀i v,i<below xs j→xs[i]? =some v→v<j:=λi v h1 h2=>by have:=b2 i h1;rw [iU h2] at this;exact this
 have hi:∀i v,below xs j≤i→xs[i]? =some v→j<v:=λi v h1 h2=>by
  have:=b3 i h1 (BI.mp h2).1
  rw [iU h2] at this
  have:v≠j:=λz=>h i (by rw [h2,z])
  omega
 have mid:∀i k v u,xs[i]? =some v→xs[k]? =some u→i<k→v<u:=λi k v u h1 h2 h3=>by
  have:=R i k (BI.mp h2).1 h3
  rw [iU h1,iU h2] at this;exact this
 rcases ca with ⟨a1,a2⟩ | ⟨a1,rfl⟩ | ⟨a1,a2⟩
 ·rcases cb with ⟨c1,c2⟩ | ⟨c1,rfl⟩ | ⟨c1,c2⟩
  ·exact mid _ _ _ _ a2 c2 FN
  ·exact lo _ _ a1 a2
  ·have:=lo _ _ a1 a2;have:=hi (b-1) _ (by omega) c2;omega
 ·rcases cb with ⟨c1,c2⟩ | ⟨c1,rfl⟩ | ⟨c1,c2⟩
  ·omega
  ·omega
  ·exact hi (b-1) _ (by omega) c2
 ·rcases cb with ⟨c1,c2⟩ | ⟨c1,rfl⟩ | ⟨c1,c2⟩
  ·omega
  ·omega
  ·exact mid _ _ _ _ a2 c2 (by omega)
theorem J7{xs:Array Nat}(R:lR xs){j s:Nat}:(∃i:Nat,(insertAt xs (below xs j) j)[i]? =some s)↔s=j∨∃i:Nat,xs[i]? =some s:=by
 obtain ⟨b1,_,_⟩:=jA R j;have g:=jN (xs:=xs) j b1
 constructor
 ·rintro ⟨i,h⟩
  rw [g i] at h
  split at h
  ·exact .inr ⟨i,h⟩
  ·split at h
   ·exact .inl (Option.some.inj h).symm
   ·exact .inr ⟨_,h⟩
 ·rintro (rfl| ⟨i,h⟩)
  ·exact ⟨below xs s,by rw [g,if_neg (by omega),if_pos rfl]⟩
  ·by_cases c:i<below xs j
   ·exact ⟨i,by rw [g,if_pos c];exact h⟩
   ·exact ⟨i+1,by rw [g,if_neg (by omega),if_neg (by omega)];exact h⟩
theorem TOk.put{t:SetTable}{hs:List Int}(T:TOk t hs){h:Int}{k:Nat}(he:∀i:Nat,t.place[i]? ≠some (bL t.mask h k))(hp:∀k',k'<k→∃i:Nat,t.place[i]? =some (bL t.mask h k'))(room:t.place.size+1≤t.mask):
  (t.put (bL t.mask h k)).2=below t.place (bL t.mask h k)∧below t.place (bL t.mask h k)≤hs.length∧
  TOk (t.put (bL t.mask h k)).1 (hs.take (below t.place (bL t.mask h k))++h::hs.drop (below t.place (bL t.mask h k))):=by
 obtain ⟨b1,b2,b3⟩:=jA T.rise (bL t.mask h k);have g:=jN (xs:=t.place) (bL t.mask h k) b1;have sz:=T.size;have pm:=λs=>J7 (s:=s) (j:=bL t.mask h k) T.rise;refine ⟨rfl,by omega,T.few,?_,GF T.rise he,?_,?_,?_,?_⟩
 ·show (if has t.dummies _=true then _ else t.dummies)= #[]
  rw [T.dum];rfl
 ·show (insertAt t.place _ _).size=_
  rw [gE,dS,iI,cp,iJ];omega
 ·intro i j hj
  have hj:(insertAt t.place (below t.place (bL t.mask h k)) (bL t.mask h k))[i]? =some j:=hj
  rcases (pm j).mp ⟨i,hj⟩ with rfl| ⟨i',h'⟩
  ·exact zG _ _ _
  ·exact T.le _ _ h'
 ·show (insertAt t.place _ _).size≤_
  rw [gE];exact room
 ·intro i h' hi
  show ∃k1,(insertAt t.place (below t.place (bL t.mask h k)) (bL t.mask h k))[i]? =some (bL t.mask h' k1)∧∀k',k'<k1→∃i':Nat,(insertAt t.place (below t.place (bL t.mask h k)) (bL t.mask h k))[i']? =some (bL t.mask h' k');have lt:(hs.take (below t.place (bL t.mask h k))).length=below t.place (bL t.mask h k):=by rw [iI];omega
  by_cases c:i<below t.place (bL t.mask h k)
  ·rw [jK (by omega),BJ c] at hi
   obtain ⟨k1,e1,e2⟩:=T.path i h' hi;exact ⟨k1,by rw [g,if_pos c];exact e1,λk' gB=>(pm _).mpr (.inr (e2 k' gB))⟩
  ·rw [jt (by omega),lt] at hi
   by_cases d:i=below t.place (bL t.mask h k)
   ·rw [d,qX] at hi
    cases (Option.some.inj hi);exact ⟨k,by rw [d,g,if_neg (by omega),if_pos rfl],λk' gB=>(pm _).mpr (.inr (hp k' gB))⟩
   ·obtain ⟨m,hm⟩:∃m,i-below t.place (bL t.mask h k)=m+1:=⟨i-below t.place (bL t.mask h k)-1,by omega⟩
    rw [hm,qS,wB] at hi;obtain ⟨k1,e1,e2⟩:=T.path _ h' hi;refine ⟨k1,?_,λk' gB=>(pm _).mpr (.inr (e2 k' gB))⟩;rw [g,if_neg c,if_neg d,show i-1=below t.place (bL t.mask h k)+m by omega]
    exact e1
theorem sS(mask i p:Nat):∀r,dB mask i p (r+1)=dB mask (leap mask i p).1 (leap mask i p).2 r
 |0=>rfl
 |r+1=>by
  show leap mask (dB mask i p (r+1)).1 (dB mask i p (r+1)).2=_;rw [sS mask i p r];rfl
def Own(o:Array (Option Nat))(s:Nat):Prop:=(o.getD s (some 0)).isNone=false
theorem uK{mask:Nat}(owner:Array (Option Nat)):∀(fuel:Nat)(p:Probe),p.j=p.i→p.more=runEnd mask p.i-p.i→p.i≤runEnd mask p.i→(∃r,r<fuel∧¬Own owner (dB mask p.i p.perturb r).1)→
  ∃k0,layClean.free mask owner fuel p.i p.perturb=some (cg mask p k0).j∧¬Own owner (cg mask p k0).j∧∀k',k'<k0→Own owner (cg mask p k').j
 |0,p,_,_,_,⟨r,hr,_⟩=>by omega
 |fuel+1,p,e1,e2,e3,⟨r,hr,he⟩=>by
  have run:∀c,c≤p.more→(cg mask p c).j=p.i+c:=λc hc=>by rw [rg mask p c hc];show p.j+c=_;rw [e1]
  cases hf:(List.range (runEnd mask p.i+1-p.i)).find? λk=>(owner.getD (p.i+k) (some 0)).isNone with
  |some k=>
   obtain ⟨h1,as,bs,h2,h3⟩:=List.find?_eq_some_iff_append.mp hf;have hk:k<runEnd mask p.i+1-p.i:=gP.mp (by rw [h2];simp)
   have las:as.length=k:=by
    have hl:as.length<(List.range (runEnd mask p.i+1-p.i)).length:=by rw [h2];simp
    have:=tD (n:=runEnd mask p.i+1-p.i) (i:=as.length) (by simpa using hl)
    rw [h2,jt (aV _),qX] at this;exact (Option.some.inj this).symm
   refine ⟨k,?_,?_,λk' gB=>?_⟩
   ·rw [layClean.free,hf,run k (by omega)]
   ·rw [run k (by omega)]
    unfold Own;rw [h1];exact Bool.noConfusion
   ·rw [run k' (by omega)]
    have hm:k'∈as:=by
     have:=tD (n:=runEnd mask p.i+1-p.i) (i:=k') (by omega)
     rw [h2,jK (by omega)] at this
     exact dD this
    have:=h3 k' hm
    unfold Own;exact Bool.not_eq_true' _▸this
  |none=>
   have all:=List.find?_eq_none.mp hf
   have own:∀c,c≤p.more→Own owner (p.i+c):=λc hc=>by
    have:=all c (gP.mpr (by omega))
    unfold Own;exact tG.mpr this
   cases r with
   |zero=>exact absurd (own 0 (cS _)) he
   |succ r=>
    have lp:=oP mask p
    obtain ⟨k0,a,b,c⟩:=uK owner fuel (MT mask p (leap mask p.i p.perturb)) rfl rfl (by
     show (leap mask p.i p.perturb).1≤runEnd mask (leap mask p.i p.perturb).1;unfold runEnd;split<;>omega) ⟨r,by omega,by rw [sS] at he;exact he⟩
    rw [←lp] at a b c;have e4:∀k,cg mask (cg mask p (p.more+1)) k=cg mask p (p.more+1+k):=λk=>(jW mask p (p.more+1) k).symm;refine ⟨p.more+1+k0,?_,?_,λk' gB=>?_⟩
    ·rw [layClean.free,hf,←e4,←a,lp];rfl
    ·rw [←e4];exact b
    ·by_cases d:k'≤p.more
     ·rw [run k' d];exact own k' d
     ·have:=c (k'-(p.more+1)) (by omega)
      rw [e4,show p.more+1+(k'-(p.more+1))=k' by omega] at this
      exact this
structure Laid (mask:Nat) (hs:List Int) (owner:Array (Option Nat)) (ss:List Nat):Prop where
 size:owner.size=mask+1
 len:ss.length=hs.length
 nd:ss.Nodup
 le:∀s∈ss,s≤mask
 get:∀s,s≤mask→∀k,owner.getD s (some 0)=some k↔ss[k]? =some s
 path:∀(k:Nat)(h:Int),hs[k]? =some h→∃c,ss[k]? =some (bL mask h c)∧∀c',c'<c→bL mask h c'∈ss
theorem Laid.own{mask:Nat}{hs:List Int}{owner:Array (Option Nat)}{ss:List Nat}(L:Laid mask hs owner ss){s:Nat}(h:s≤mask):Own owner s↔s∈ss:=by
 unfold Own
 constructor
 ·intro e
  cases o:owner.getD s (some 0) with
  |none=>rw [o] at e;cases e
  |some k=>exact dD ((L.get s h k).mp o)
 ·intro e
  obtain ⟨k,hk⟩:=gL e;rw [(L.get s h k).mpr hk];rfl
theorem CM{mask:Nat}(f:tK mask){hs:List Int}{owner:Array (Option Nat)}{ss:List Nat}(L:Laid mask hs owner ss)(room:hs.length≤mask)(h:Int):
  ∃j,layClean.free mask owner (turns mask) (bits h%(mask+1)) (bits h)=some j∧Laid mask (hs++ [h]) (owner.setIfInBounds j (some hs.length)) (ss++ [j]):=by
 have o:=q0.start mask h
 obtain ⟨s,F2,mv⟩:∃s,s≤mask∧s∉ss:=by
  apply Classical.byContradiction;intro c
  have all:∀s∈List.range (mask+1),s∈ss:=λs hs=>by
   apply Classical.byContradiction;intro n;exact c ⟨s,by have:=gP.mp hs;omega,n⟩
  have:=Wb.bg List.nodup_range all
  rw [iG,L.len] at this;omega
 have z:(dB mask (bD mask h).i (bD mask h).perturb 13).2=0:=by
  rw [jP];exact Nat.div_eq_of_lt (gO o.per (by decide))
 obtain ⟨r,hr,e⟩:=cover f (Bk mask (bD mask h).i (bD mask h).perturb 12) F2
 have hi:(bD mask h).i≤mask:=by
  have:=Nat.mod_lt (bits h) (show 0<mask+1 by omega)
  show bits h%(mask+1)≤mask;omega
 obtain ⟨k0,a,b,c⟩:=uK owner (turns mask) (bD mask h) rfl rfl (by unfold runEnd;split<;>omega) ⟨13+r,by unfold turns;omega,by
  rw [r6 z];show ¬Own owner (jE mask _ r);rw [e,L.own F2];exact mv⟩
 have sl:∀k,(cg mask (bD mask h) k).j=bL mask h k:=λk=>by unfold bL;rw [lb]
 rw [sl] at a b;have hle:=zG mask h k0;rw [L.own hle] at b;refine ⟨bL mask h k0,a,?_,?_,?_,?_,?_,?_⟩
 ·rw [Array.size_setIfInBounds];exact L.size
 ·rw [dS,dS,L.len];rfl
 ·exact cJ.mpr ⟨L.nd,by simp,λx hx y hy z=>b (by rw [←eE.mp hy,←z];exact hx)⟩
 ·intro x hx
  rcases cw.mp hx with hx|hx
  ·exact L.le x hx
  ·rw [eE.mp hx];exact hle
 ·intro x hx k
  have e1:(owner.setIfInBounds (bL mask h k0) (some hs.length)).getD x (some 0)=if bL mask h k0=x then some hs.length else owner.getD x (some 0):=by
   rw [BH,BH,Array.getElem?_setIfInBounds]
   by_cases d:bL mask h k0=x
   ·rw [if_pos d,if_pos d,if_pos (by rw [L.size];omega)];rfl
   ·rw [if_neg d,if_neg d]
  rw [e1]
  by_cases d:bL mask h k0=x
  ·rw [if_pos d]
   constructor
   ·intro e
    cases (Option.some.inj e);rw [←L.len,jt (aV _),qX,←d];rfl
   ·intro e
    by_cases q:k<ss.length
    ·rw [jK q] at e
     exact absurd (by rw [d];exact dD e) b
    ·have:k<(ss++ [bL mask h k0]).length:=(cF.mp e).1
     rw [dS] at this
     have:k<ss.length+1:=this
     rw [show k=ss.length by omega,L.len]
  ·rw [if_neg d,L.get x hx k]
   constructor
   ·intro e
    rw [jK (cF.mp e).1];exact e
   ·intro e
    by_cases q:k<ss.length
    ·rw [jK q] at e;exact e
    ·have:k<(ss++ [bL mask h k0]).length:=(cF.mp e).1
     rw [dS] at this
     have:k<ss.length+1:=this
     rw [show k=ss.length by omega,jt (aV _),qX] at e
     exact absurd (Option.some.inj e) d
 ·intro k h' hk
  by_cases q:k<hs.length
  ·rw [jK q] at hk
   obtain ⟨c1,e1,e2⟩:=L.path k h' hk;exact ⟨c1,by rw [jK (by rw [L.len];exact q)];exact e1,λc' qb=>gh _ (e2 c' qb)⟩
  ·have:k<(hs++ [h]).length:=(cF.mp hk).1
   rw [dS] at this
   have:k<hs.length+1:=this
   have ek:k=hs.length:=by omega
   subst ek;rw [jt (aV _),qX] at hk;cases (Option.some.inj hk);refine ⟨k0,by rw [←L.len,jt (aV _),qX];rfl,λc' qb=>gh _ ?_⟩
   have:=c c' qb
   rw [sl] at this;exact (L.own (zG _ _ _)).mp this
theorem CN(mask:Nat):Laid mask [] (Array.replicate (mask+1) none) [] where
 size:=by simp
 len:=rfl
 nd:=kr
 le:=λs h=>by cases h
 get:=λs hs k=>by
  rw [BH,Array.getElem?_replicate,if_pos (by omega)]
  simp
 path:=λk h e=>by cases e
def xT(mask:Nat)(acc:Option (Array (Option Nat)×Nat))(h:Int):Option (Array (Option Nat)×Nat):=do
 let (owner,k) ←acc
 let j ←layClean.free mask owner (turns mask) (bits h%(mask+1)) (bits h)
 pure (owner.setIfInBounds j (some k),k+1)
theorem xU{mask:Nat}(f:tK mask):∀(rest done:List Int)(owner:Array (Option Nat))(ss:List Nat),Laid mask done owner ss→done.length+rest.length≤mask+1→
  ∃qt Rk,rest.foldl (xT mask) (some (owner,done.length))=some (qt,done.length+rest.length)∧Laid mask (done++rest) qt Rk
 | [],done,owner,ss,L,_=>⟨owner,ss,rfl,by rw [iK];exact L⟩
 |h::rest,done,owner,ss,L,hl=>by
  rw [cp] at hl;obtain ⟨j,e,L'⟩:=CM f L (by omega) h
  have ef:xT mask (some (owner,done.length)) h=some (owner.setIfInBounds j (some done.length),done.length+1):=by
   unfold xT;simp [e]
  obtain ⟨qt,Rk,e2,L2⟩:=xU f rest (done++ [h]) _ _ L' (by rw [dS];show done.length+1+rest.length≤_;omega)
  refine ⟨qt,Rk,?_,by rw [m7] at L2;exact L2⟩
  rw [List.foldl_cons,ef];rw [dS] at e2;have e2:rest.foldl (xT mask) (some (owner.setIfInBounds j (some done.length),done.length+1))=some (qt,done.length+1+rest.length):=e2;rw [e2,cp]
  congr 2;omega
theorem zc{mask:Nat}(f:tK mask)(hs:List Int)(room:hs.length≤mask+1):∃owner ss,layClean mask hs.toArray=some owner∧Laid mask hs owner ss:=by
 obtain ⟨owner,ss,e,L⟩:=xU f hs [] _ _ (CN mask) (by simpa using room)
 refine ⟨owner,ss,?_,by simpa using L⟩
 have:layClean mask hs.toArray=(hs.foldl (xT mask) (some (Array.replicate (mask+1) none,0))).map (·.1):=by
  unfold layClean;rw [List.foldl_toArray];rfl
 have e:hs.foldl (xT mask) (some (Array.replicate (mask+1) none,0))=some (owner,[].length+hs.length):=e;rw [this,e];rfl
def dq(mask:Nat)(owner:Array (Option Nat)):List (Nat×Nat):=(List.range (mask+1)).filterMap λj=>(owner.getD j none).map (j,·)
theorem Gb{mask:Nat}{hs:List Int}{owner:Array (Option Nat)}{ss:List Nat}(L:Laid mask hs owner ss){j k:Nat}:(j,k)∈dq mask owner↔ss[k]? =some j:=by
 unfold dq;rw [List.mem_filterMap]
 have dflt:∀s,s≤mask→owner.getD s none=owner.getD s (some 0):=λs hs=>by
  rw [BH,BH,yu (by rw [L.size];omega)];rfl
 constructor
 ·rintro ⟨s,fk,e⟩
  have fk:=gP.mp fk;rw [dflt s (by omega)] at e
  cases o:owner.getD s (some 0) with
  |none=>rw [o] at e;cases e
  |some k'=>
   rw [o] at e;have e:=Option.some.inj e;have e1:s=j:=(Prod.mk.inj e).1;have e2:k'=k:=(Prod.mk.inj e).2;rw [←e1,←e2];exact (L.get s (by omega) k').mp o
 ·intro e
  have hj:=L.le j (dD e);refine ⟨j,gP.mpr (by omega),?_⟩
  rw [dflt j hj,(L.get j hj k).mpr e];rfl
theorem CQ(mask:Nat)(owner:Array (Option Nat)):((dq mask owner).map (·.1)).Pairwise (·<·):=by
 unfold dq;rw [iH,List.pairwise_filterMap];refine List.pairwise_lt_range.imp λ {a b} h x hx y hy=>?_;cases oa:owner.getD a none with
 |none=>rw [oa] at hx;cases hx
 |some ka=>
  cases ob:owner.getD b none with
  |none=>rw [ob] at hy;cases hy
  |some kb=>
   rw [oa] at hx;rw [ob] at hy;cases (Option.some.inj hx);cases (Option.some.inj hy);exact h
theorem Jn{mask:Nat}(f:tK mask)(hs:List Int)(room:hs.length≤mask)(finger moves:Nat)(led plain:Bool):
  ∃t order,laid mask finger moves led plain hs.toArray=some (t,order)∧t.mask=mask∧t.led=led∧t.plain=plain∧t.moves=moves∧order.toList.Perm (List.range hs.length)∧TOk t (order.toList.map λk=>hs.getD k 0):=by
 obtain ⟨owner,ss,e,L⟩:=zc f hs (by omega)
 have lm:=λ {j k:Nat}=>Gb (j:=j) (k:=k) L;have ri:=CQ mask owner
 have n9:((dq mask owner).map (·.2)).Nodup:=by
  rw [yt,iH];rw [iH] at ri;refine ri.imp_of_mem λ {a b} ha hb FN z=>?_;obtain ⟨aj,ak⟩:=a;obtain ⟨bj,bk⟩:=b;have h1:=lm.mp ha;have h2:=lm.mp hb;have z:ak=bk:=z;rw [z,h2] at h1
  have:=Option.some.inj h1
  have FN:aj<bj:=FN;omega
 have perm:((dq mask owner).map (·.2)).Perm (List.range hs.length):=by
  refine (qP n9 List.nodup_range).mpr λk=>?_;rw [bz,gP]
  constructor
  ·rintro ⟨⟨j,k'⟩,h,rfl⟩
   have:=(cF.mp (lm.mp h)).1
   rw [L.len] at this;exact this
  ·intro hk
   have gB:k<ss.length:=by rw [L.len];exact hk
   exact ⟨(ss[k],k),lm.mpr (dh gB),rfl⟩
 have ll:(dq mask owner).length=hs.length:=by
  have:=perm.length_eq
  simpa using this
 refine ⟨{mask,place:=((dq mask owner).map (·.1)).toArray,dummies:= #[],finger,led,moves,plain},((dq mask owner).map (·.2)).toArray,?_,rfl,rfl,rfl,rfl,by simpa using perm,?_⟩
 ·unfold laid
  rw [e];rfl
 have J2:∀(i j:Nat),((dq mask owner).map (·.1)).toArray[i]? =some j↔∃k,(dq mask owner)[i]? =some (j,k):=λi j=>by
  rw [List.getElem?_toArray,bW];cases o:(dq mask owner)[i]? with
  |none=>simp
  |some x=>
   obtain ⟨a,b⟩:=x;simp
 have inn:∀s,s∈ss→∃i:Nat,((dq mask owner).map (·.1)).toArray[i]? =some s:=λs fk=>by
  obtain ⟨k,hk⟩:=gL fk;obtain ⟨i,hi⟩:=gL (lm.mpr hk);exact ⟨i,(J2 i s).mpr ⟨k,hi⟩⟩
 refine ⟨f,rfl,?_,?_,?_,?_,?_⟩
 ·intro a b hb FN
  have hb:b<((dq mask owner).map (·.1)).length:=by simpa using hb
  have:=wu.mp ri a b (by omega) hb FN
  simp [show a<(dq mask owner).length by simpa using (show a<((dq mask owner).map (·.1)).length by omega),show b<(dq mask owner).length by simpa using hb]
  simpa using this
 ·simp
 ·intro i j h
  obtain ⟨k,hk⟩:=(J2 i j).mp h;exact L.le j (dD (lm.mp (dD hk)))
 ·show ((dq mask owner).map (·.1)).toArray.size≤mask
  simp [ll];exact room
 ·intro i h' hi
  rw [bW] at hi;cases o:(dq mask owner)[i]? with
  |none=>
   have:(((dq mask owner).map (·.2)).toArray.toList)[i]? =none:=by simp [o]
   rw [this] at hi;cases hi
  |some x=>
   obtain ⟨j,k⟩:=x;have e1:(((dq mask owner).map (·.2)).toArray.toList)[i]? =some k:=by simp [o]
   rw [e1] at hi;have sk:=lm.mp (dD o);have hk:k<hs.length:=by rw [←L.len];exact (cF.mp sk).1
   have eh:hs[k]? =some h':=by
    rw [←Option.some.inj hi];show _=some (hs.getD k 0);rw [eS,dh hk];rfl
   obtain ⟨c,p1,p2⟩:=L.path k h' eh;rw [sk] at p1;refine ⟨c,(J2 i _).mpr ⟨k,by rw [o,Option.some.inj p1]⟩,λc' qb=>inn _ (p2 c' qb)⟩
end PySem.SetTable
namespace PySem
open SetTable PyProof.Rows
def fQ(w:World):Bool:=w.params.followText "set-order"
structure lh (bt:Bool) (o:Obj) (es:Array (Int×Value)) (ep:Nat) (t:SetTable):Prop where
 ex:o.ExactSet
 dat:o.data= .set es ep t
 tok:TOk t (es.toList.map (·.1))
 pl:t.plain=true
 ld:t.led= !bt
 few:5*es.size<3*t.mask
theorem TOk.fits{t:SetTable}{hs:List Int}(T:TOk t hs):t.fits hs.length=true:=by
 simp only [SetTable.fits,SetTable.fill,T.dum,T.size,yz,beq_iff_eq,decide_eq_true_eq,true_and]
 have:=T.room
 rw [T.size] at this;simpa using this
theorem lh.fits{w:Bool}{o:Obj}{es:Array (Int×Value)}{ep:Nat}{t:SetTable}(S:lh w o es ep t):t.fits es.size=true:=by
 have:=TOk.fits S.tok
 simpa using this
theorem FA{mask n:Nat}(f:tK mask)(h:5*n<3*mask):n+1≤mask:=by
 rcases f with rfl|rfl|rfl|rfl<;>omega
theorem Cq{mask n:Nat}(f:tK mask)(h1:3*mask≤5*n)(h2:5*(n-1)<3*mask)(h3:n≤306):tK (sizeAbove (grown n)-1)∧5*n<3*(sizeAbove (grown n)-1)∧n≤sizeAbove (grown n)-1∧sizeAbove (grown n)≤512:=by
 rcases f with rfl|rfl|rfl|rfl
 ·have:n=5:=by omega
  subst this;exact ⟨.inr (.inl rfl),by decide,by decide,by decide⟩
 ·have:n=19:=by omega
  subst this;exact ⟨.inr (.inr (.inl rfl)),by decide,by decide,by decide⟩
 ·have:n=77:=by omega
  subst this;exact ⟨.inr (.inr (.inr rfl)),by decide,by decide,by decide⟩
 ·omega
theorem Du{t:SetTable}{es:Array (Int×Value)}(T:TOk t (es.toList.map (·.1)))(full:t.tooFull=true)(near:5*(es.size-1)<3*t.mask)(small:es.size≤306):
  ∃t' order,t.relaid (es.map (·.1)) (grown es.size)=some (t',order)∧order.toList.Perm (List.range es.size)∧(order.filterMap (es[·]?)).toList.Perm es.toList∧(order.filterMap (es[·]?)).size=es.size∧
   TOk t' ((order.filterMap (es[·]?)).toList.map (·.1))∧t'.plain=t.plain∧t'.led=t.led∧5*es.size<3*t'.mask∧sizeAbove (grown es.size)≤512:=by
 have sz:t.place.size=es.size:=by rw [T.size];simp
 have f1:3*t.mask≤5*es.size:=by
  unfold SetTable.tooFull SetTable.fill at full;rw [T.dum,sz] at full;simp at full;omega
 obtain ⟨g1,g2,g3,g4⟩:=Cq T.few f1 near small;obtain ⟨t',order,e,em,el,ep,_,pm,tk⟩:=Jn g1 (es.toList.map (·.1)) (by simpa using g3) t.finger (t.movedTo (sizeAbove (grown es.size)-1)) t.led t.plain
 rw [aN,cu] at pm
 have pf:(order.filterMap (es[·]?)).toList.Perm es.toList:=by
  rw [Array.toList_filterMap];exact (pm.filterMap _).trans (by rw [filterMap_getElem?_range])
 have sf:(order.filterMap (es[·]?)).size=es.size:=by rw [←cu,pf.length_eq,cu]
 refine ⟨t',order,?_,pm,pf,sf,?_,ep,el,by rw [em];exact g2,g4⟩
 ·unfold SetTable.relaid
  rw [show es.map (·.1)=(es.toList.map (·.1)).toArray by apply Array.toList_inj.mp;simp]
  exact e
 ·have:(order.filterMap (es[·]?)).toList.map (·.1)=order.toList.map λk=>(es.toList.map (·.1)).getD k 0:=by
   rw [Array.toList_filterMap];have lt:∀k∈order.toList,k<es.size:=λk hk=>gP.mp (pm.mem_iff.mp hk);generalize order.toList=l at lt
   induction l with
   |nil=>rfl
   |cons k l ih=>
    have hk:=lt k (cC ..);rw [List.filterMap_cons_some (b:=es[k]) (by simp [hk]),gI,gI,ih λj hj=>lt j (cA _ hj)]
    simp [hk]
  rw [this];exact tk
end PySem
set_option maxHeartbeats 1000000
namespace PySem
open SetTable PyProof.Rows
section
variable {prog:Program} {w:World} {A:Around} {E:Value→Shared→Prop} {s:Shared}
theorem sW{h:Heap}{a:Addr}{o:Obj}{es:Array (Int×Value)}{ep:Nat}{t:SetTable}(ho:h.get? a=some o)(hd:o.data= .set es ep t)(lY:Array (Int×Value))(t':SetTable):
  (h.update a (Obj.putSet lY t')).get? a=some {o with data:= .set lY (ep+1) t'}:=by
 have:=Heap.get?_update_self (Obj.putSet lY t') ho (by rw [putSet_of lY t' hd];rfl)
 rw [putSet_of lY t' hd] at this;exact this
theorem uA{Q₁:Value→Shared→Prop}
  (h:Q₁ (.ref s.heap.objs.size) {s with heap:=s.heap.push {cls:= .type "set",dict:=none,data:= .set #[] 0 (.fresh 0 0 (!fQ w))}}):
  codeAny (model prog w) A (.call (.builtin "set.__new__") ⟨[.type "set"],[]⟩) (wants Q₁ E) s:=by
 refine codeAny_of_tree ?_;show wpAny _ A.in1 (do checkBuiltinCall "set.__new__" ⟨[.type "set"],[]⟩;again (.builtin "set.__new__" ⟨[.type "set"],[]⟩)) _ _ s
 refine wpAny_bind (wpAny_of_eq F.newCall_set_0 (wpAny_pure ⟨plainId_quiet F.plain_set_new _,codeAny_builtin F.entry_set_new ?_⟩));rw [Around.under_plainId F.plain_set_new _];unfold Builtin.«set.__new__» Builtin.Frozenset.newClass;have U9:=sub_set_self;obtain ⟨hp,g,d,tk,os⟩:=s;dsimp only
 wp_walk
 refine wpAny_askSetting (wpAny_pure ?_);dsimp only;simp only [newObj];refine wpAny_bind (wpAny_alloc (wpAny_pure ?_));exact wpAny_pure h
theorem yD{Q:Value→Shared→Prop}
  (h:Q (.ref s.heap.objs.size) {s with heap:=s.heap.push {cls:= .type "set",dict:=none,data:= .set #[] 0 (.fresh 0 0 (!fQ w))}}):
  wpAny (model prog w) A (call (.type "set") []) Q E s:=by
 obtain ⟨c,tl,aah⟩:=F.called_set.mro;have aaa:=F.called_set.made;have U9:=F.called_set.sub;refine wpAny_call (codeAny_of_tree ?_);show wpAny _ _ (callAny (.type "set") _) _ _ _;refine wpAny_pure ⟨Code.quiet_builtin _ (by decide+kernel),codeAny_builtin F.entry_type_call ?_⟩
 rw [Around.under_plain (weight_type_call_type "set" [] []) rfl];have h1:=F.called_set.notType;have h2:=F.called_set.canCreate;have hct:=F.typeCall_set_0
 repeat (any_goals (first|assumption|wp_step))
 refine codeAny_mono (uA (E:=E) (Q₁:=λobj s₁=>obj= .ref s.heap.objs.size∧s₁={s with heap:=s.heap.push {cls:= .type "set",dict:=none,data:= .set #[] 0 (.fresh 0 0 (!fQ w))}}) ⟨rfl,rfl⟩) λr s₁ hr=>?_
 cases r with
 |error e=>exact hr
 |ok fl=>
  cases fl with
  |ret obj=>
   obtain ⟨rfl,rfl⟩:=hr;have hS:(s.heap.push {cls:= .type "set",dict:=none,data:= .set #[] 0 (.fresh 0 0 (!fQ w))}).get? s.heap.objs.size=some {cls:= .type "set",dict:=none,data:= .set #[] 0 (.fresh 0 0 (!fQ w))}:=Heap.get?_push_size _ rfl;have hT:Shared.TypeIs {s with heap:=s.heap.push {cls:= .type "set",dict:=none,data:= .set #[] 0 (.fresh 0 0 (!fQ w))}} (.ref s.heap.objs.size) "set":=⟨_,hS,rfl⟩
   have hli:=F.called_set.init.lookup;have hbi:=F.called_set.init.bind (.ref s.heap.objs.size)
   repeat (any_goals (first|assumption|wp_step))
   refine codeAny_mono (codeAny_call_builtin (R:=wants (λr EY=>r= .none∧Q (.ref s.heap.objs.size) EY) E) F.called_set.init.plain F.entry_set_init (check_set_init hT ?_)) λXm EY CG=>?_
   ·unfold Builtin.«set.__init__» noKeywords
    wp_walk
    exact ⟨rfl,h⟩
   ·cases Xm with
    |error e=>exact CG
    |ok Pw=>
     cases Pw with
     |ret r=>
      obtain ⟨rfl,hq⟩:=CG
      repeat (any_goals (first|assumption|wp_step))
     |_=>exact CG.elim
  |_=>exact hr.elim
theorem lh.new(w:World):lh (fQ w) {cls:= .type "set",dict:=none,data:= .set #[] 0 (.fresh 0 0 (!fQ w))} #[] 0 (.fresh 0 0 (!fQ w)) where
 ex:=⟨rfl,rfl,rfl⟩
 dat:=rfl
 tok:=⟨.inl rfl,rfl,λi j hj=>by simp [SetTable.fresh] at hj,rfl,λi j h=>by simp [SetTable.fresh] at h,by simp [SetTable.fresh],λi h e=>by simp at e⟩
 pl:=rfl
 ld:=rfl
 few:=by simp [SetTable.fresh]
end
section
variable {prog:Program} {w:World} {A:Around} {E:Value→Shared→Prop} {s:Shared}
theorem ItemsAre.ints{ks:List Int}{vs:List Value}(h:ItemsAre (intKind prog w) ks vs):∀v∈vs,∃i t,v= .int i t:=by
 induction h with
 |nil=>intro v hv;simp at hv
 | @cons k v' ks vs h1 _ ih=>
  intro v hv
  rcases bV.mp hv with rfl|hv
  ·obtain ⟨t,rfl⟩:=Value.isInt_shape h1
   exact ⟨k,t,rfl⟩
  ·exact ih v hv
theorem mV{ks:List Int}{a:Addr}{Q:Bool→Shared→Prop}(hk:IsTupleKey (intKind prog w) s.heap ks a)(h:Q false s):wpAny (model prog w) A (ofAClassStatement 8 (.ref a)) Q E s:=by
 have hT:=hk.typeIs;obtain ⟨o,items,n,ho,_,hd,hi⟩:=hk;unfold ofAClassStatement;refine wpAny_bind (wpAny_typeOf hT ?_);dsimp only;simp only [beq_self_eq_true, ↓reduceIte];refine wpAny_bind (wpAny_pure ?_);simp only [Bool.not_true,fN, ↓reduceIte];refine wpAny_bind (wpAny_seqItems ho hd ?_);dsimp only;refine wpAny_bind ?_;rw [←Array.forIn_toList];refine wpAny_forIn_list _ (λrest r s'=>r.1=none∧s'=s∧∀v∈rest,∃i t,v=Value.int i t) _ ?_ ?_ _ _ ⟨rfl,rfl,hi.ints⟩
 ·rintro v rest r s' ⟨hr,rfl,iE⟩
  obtain ⟨i,t,rfl⟩:=iE v cC;refine wpAny_bind (wpAny_of_eq (show ofAClassStatement 7 (.int i t)=pure false from by unfold ofAClassStatement;rfl) ?_)
  simp only [fN,if_false];exact wpAny_pure ⟨rfl,rfl,λu Qr=>iE u (cA _ Qr)⟩
 ·rintro ⟨r1,r2⟩ s' ⟨hr,rfl,_⟩
  simp only at hr;subst hr;exact wpAny_pure h
theorem BE{ks:List Int}{b:Addr}{Q:Bool→Shared→Prop}(hk:IsTupleKey (intKind prog w) s.heap ks b)(stored:List Value)(hs:∀y∈stored,∃k' a,y=Value.ref a∧IsTupleKey (intKind prog w) s.heap k' a)(h:Q false s):
  wpAny (model prog w) A (searchCouldBeSeen (.ref b) stored) Q E s:=by
 unfold searchCouldBeSeen;refine wpAny_bind ?_;refine wpAny_forIn_list _ (λrest r s'=>r.1=none∧s'=s∧∀y∈rest,∃k' a,y=Value.ref a∧IsTupleKey (intKind prog w) s.heap k' a) _ ?_ ?_ _ _ ⟨rfl,rfl,hs⟩
 ·rintro y rest r s' ⟨hr,rfl,iE⟩
  obtain ⟨k',a,rfl,gB⟩:=iE y cC;have tl:∀y∈rest,∃k' a,y=Value.ref a∧IsTupleKey (intKind prog w) s'.heap k' a:=λy hy=>iE y (cA _ hy);have e:(carriedByValue (Value.ref b)&&carriedByValue (Value.ref a))=false:=by simp [carriedByValue]
  dsimp only;rw [e,Bool.or_false]
  by_cases c:(b==a)=true
  ·rw [if_pos c]
   exact wpAny_pure ⟨rfl,rfl,tl⟩
  ·rw [if_neg c]
   refine wpAny_bind (wpAny_eqIsQuiet_tuple hk ?_);simp only [Bool.not_true,fN,if_false];refine wpAny_bind (wpAny_eqIsQuiet_tuple gB ?_);simp only [Bool.not_true,fN,if_false];refine wpAny_bind (mV hk ?_);simp only [fN,if_false];refine wpAny_bind (mV gB ?_);simp only [fN,if_false];exact wpAny_pure ⟨rfl,rfl,tl⟩
 ·rintro ⟨r1,r2⟩ s' ⟨hr,rfl,_⟩
  simp only at hr;subst hr;exact wpAny_pure h
theorem xl{ks:List Int}{a:Addr}{Q:Bool→Shared→Prop}(hk:IsTupleKey (intKind prog w) s.heap ks a)(h:Q true s):wpAny (model prog w) A (hashByValue 8 (.ref a)) Q E s:=by
 have hT:=hk.typeIs;obtain ⟨o,items,n,ho,_,hd,hi⟩:=hk;unfold hashByValue;refine wpAny_bind (wpAny_specialOf hT F.slot_tuple_hash.lookup ?_);dsimp only;refine wpAny_bind (wpAny_seqItems ho hd ?_);refine wpAny_bind ?_;show wpAny _ _ (forIn items _ _) _ _ s;rw [←Array.forIn_toList];refine wpAny_forIn_list _ (λrest r s'=>r.1=none∧s'=s∧∀v∈rest,∃i t,v=Value.int i t) _ ?_ ?_ _ _ ⟨rfl,rfl,hi.ints⟩
 ·rintro v rest r s' ⟨hr,rfl,iE⟩
  obtain ⟨i,t,rfl⟩:=iE v cC;refine wpAny_bind (wpAny_of_eq (show hashByValue 7 (.int i t)=pure true from by unfold hashByValue;rfl) ?_)
  simp only [Bool.not_true,fN,if_false];exact wpAny_pure ⟨rfl,rfl,λu Qr=>iE u (cA _ Qr)⟩
 ·rintro ⟨r1,r2⟩ s' ⟨hr,rfl,_⟩
  simp only at hr;subst hr;exact wpAny_pure h
def Ha(prog:Program)(w:World)(h:Heap)(es:Array (Int×Value)):Prop:=∀(i:Nat)(e:Int×Value),es[i]? =some e→∃k a,e=(tupleKeyHash (intKind prog w) k, .ref a)∧IsTupleKey (intKind prog w) h k a
def Kv(es:Array (Int×Value))(i:Nat):Int:=(es[i]?.map (·.1)).getD 0
theorem Ig{m:Nat}(h:tK m):m%2=1:=by rcases h with rfl|rfl|rfl|rfl<;>rfl
theorem yg{xs:Array Nat}(R:lR xs){i j v:Nat}(hi:xs[i]? =some v)(hj:xs[j]? =some v):i=j:=by
 rw [←below_at R hi,←below_at R hj]
theorem oI{a:Addr}{o:Obj}{es:Array (Int×Value)}{ep:Nat}{t:SetTable}{b:Addr}{ks:List Int}{fc:Bool}{Q:SetFound→Shared→Prop}(hu:A.units<cLine)(ho:s.heap.get? a=some o)(S:lh (fQ w) o es ep t)(P:Ha prog w s.heap es)(hk:IsTupleKey (intKind prog w) s.heap ks b)
  (Lr:(∃(i:Nat)(c:Addr),es[i]? =some (tupleKeyHash (intKind prog w) ks, .ref c)∧IsTupleKey (intKind prog w) s.heap ks c)→∀r:Option Nat,(fc=false→r.isSome=true)→Q (.there r) s)
  (yS:(∀(i:Nat)(e:Int×Value),es[i]? =some e→∀c,e.2= .ref c→¬IsTupleKey (intKind prog w) s.heap ks c)→∀k0,(∀i:Nat,t.place[i]? ≠some (bL t.mask (tupleKeyHash (intKind prog w) ks) k0))→(∀k',k'<k0→∃i:Nat,t.place[i]? =some (bL t.mask (tupleKeyHash (intKind prog w) ks) k'))→
   Q (.free (bL t.mask (tupleKeyHash (intKind prog w) ks) k0) false) s):
  wpAny (model prog w) A (setSearch a (.ref b) (tupleKeyHash (intKind prog w) ks) fc) Q E s:=by
 generalize hh:tupleKeyHash (intKind prog w) ks=h at*;have T:=S.tok;obtain ⟨s0,hs0,UC⟩:=T.empty;obtain ⟨K,hK,eK⟩:=meets T.few (q0.start t.mask h) hs0;have eK:bL t.mask h K=s0:=by unfold bL;rw [lb];exact eK
 have kb:K<6000:=by
  have:10*turns t.mask≤5260:=by
   rcases T.few with e|e|e|e<;>rw [e]<;>decide
  omega
 have sz:t.place.size=es.size:=by rw [T.size];simp
 have hN:(t.mask%2==0)=false:=by rw [Ig T.few];rfl
 have main:∀(n:Nat)(k:Nat)(fuel:Nat)(vT:Option Probe),K+1-k≤n→n<fuel→k≤K→vT.getD (t.probeStart h)=pJ t.mask h k→(∀k',k'<k→∃i:Nat,t.place[i]? =some (bL t.mask h k'))→
   (∀(i:Nat) c,es[i]? =some (h, .ref c)→IsTupleKey (intKind prog w) s.heap ks c→∀kx,t.place[i]? =some (bL t.mask h kx)→k≤kx)→
   wpAny (model prog w) A (setSearchFrom a (.ref b) h fc fuel vT) Q E s:=by
  intro n
  induction n with
  |zero=>intro k fuel vT h1 h2 h3;omega
  |succ n ih=>
   intro k fuel vT h1 h2 h3 h4 h5 h6;obtain ⟨f,rfl⟩:∃f,fuel=f+1:=⟨fuel-1,by omega⟩
   unfold setSearchFrom;refine wpAny_bind (wpAny_setState_of ho S.dat S.fits ?_);dsimp only;unfold SetTable.gaveWay;rw [hN];simp only [fN,if_false]
   have Uj:∀(i:Nat)(e:Int×Value),es[i]? =some e→Kv es i=e.1:=λi e hi=>by
    show (es[i]?.map (·.1)).getD 0=e.1;rw [hi];rfl
   generalize hq:t.probe _ h (vT.getD (t.probeStart h))=r;have hq:t.probe (Kv es) h (pJ t.mask h k)=r:=by rw [←h4];exact hq
   generalize Kv es=hA at Uj hq;obtain ⟨k0,tQ,hp,alt⟩:=TOk.probe T hA h k
   have k0K:k0≤K:=by
    apply Classical.byContradiction;intro c;obtain ⟨i,hi,_⟩:=hp K h3 (by omega)
    rw [eK] at hi;exact UC i hi
   have L6:∀k',k'<k0→∃i:Nat,t.place[i]? =some (bL t.mask h k'):=λk' h'=>by
    by_cases c:k'<k
    ·exact h5 k' c
    ·obtain ⟨i,hi,_⟩:=hp k' (by omega) h'
     exact ⟨i,hi⟩
   have later:∀(i:Nat) c,es[i]? =some (h, .ref c)→IsTupleKey (intKind prog w) s.heap ks c→∀kx,t.place[i]? =some (bL t.mask h kx)→k0≤kx:=λi c hi hc kx y0=>by
    have hkx:=h6 i c hi hc kx y0;apply Classical.byContradiction;intro z;obtain ⟨i',fj,mn⟩:=hp kx hkx (by omega)
    have:i=i':=yg T.rise y0 fj
    subst this;exact mn (Uj i _ hi)
   rcases alt with ⟨IF,ep⟩ | ⟨i,hi,Cy,ep⟩
   ·rw [ep] at hq
    subst hq;dsimp only;refine wpAny_pure (yS (λi e hi c hc UN=>?_) k0 IF L6);obtain ⟨k',a',e1,gB⟩:=P i e hi;subst e1;cases hc
    have:k'=ks:=gB.inj UN
    subst this;rw [hh] at hi;obtain ⟨ky,Vf,hy2⟩:=T.path i h (by rw [bW,eU,hi];rfl)
    have lt:=later i _ hi UN ky Vf
    by_cases c1:k0<ky
    ·obtain ⟨i',fj⟩:=hy2 k0 c1
     exact IF i' fj
    ·have:ky=k0:=by omega
     subst this;exact IF i Vf
   ·rw [ep] at hq
    subst hq;dsimp only
    have QB:i<es.size:=by
     have:=(BI.mp hi).1
     omega
    obtain ⟨k',c,e1,gB⟩:=P i es[i] (yu QB);have ei:es[i]? =some (tupleKeyHash (intKind prog w) k', .ref c):=by rw [yu QB,e1]
    have rest:wpAny (model prog w) A (match es[i]? with
      |some (fst,y)=>do
       let equal ←holding [y] (eqBool y (Value.ref b))
       let __x ←setState a
       if (fc&&equal)=true then pure (SetFound.there none)
        else
         match __x.2.snd.sameMemory t.moves t.mask with
         |some same=>
          match if same=true then __x.2.snd.slot (bL t.mask h k0) else Slot.empty with
          |Slot.live i'=>
           match __x.fst[i']? with
           |some (fst,y')=>do
            let __do_lift ←isSame y' y
            let vU ←pure (if __do_lift=true then some i' else none)
            match vU with
             |none=>do
              rule "set.search.anew"
              setSearchFrom a (Value.ref b) h fc f none
             |some i'=>
              if equal=true then pure (SetFound.there (some i'))
              else setSearchFrom a (Value.ref b) h fc f (some (pJ t.mask h (k0+1)))
           |none=>do
            let vU ←pure none
            match vU with
             |none=>do
              rule "set.search.anew"
              setSearchFrom a (Value.ref b) h fc f none
             |some i'=>
              if equal=true then pure (SetFound.there (some i'))
              else setSearchFrom a (Value.ref b) h fc f (some (pJ t.mask h (k0+1)))
          |x=>do
           let vU ←pure none
           match vU with
            |none=>do
             rule "set.search.anew"
             setSearchFrom a (Value.ref b) h fc f none
            |some i'=>
             if equal=true then pure (SetFound.there (some i'))
             else setSearchFrom a (Value.ref b) h fc f (some (pJ t.mask h (k0+1)))
         |x=>unsupported "set.changed-during-lookup:is-the-new-block-at-the-old-address"
      |x=>unsupported "internal:set-entry") Q E s:=by
     rw [ei];dsimp only;refine wpAny_bind (wpAny_holding (wpAny_eqBool_tuple hu gB hk ?_));refine wpAny_bind (wpAny_setState_of ho S.dat S.fits ?_);dsimp only;have sm:t.sameMemory t.moves t.mask=some true:=by unfold SetTable.sameMemory;simp
     have mn:k'≠ks→wpAny (model prog w) A (setSearchFrom a (Value.ref b) h fc f (some (pJ t.mask h (k0+1)))) Q E s:=λne=>by
      by_cases kk:k0=K
      ·subst kk
       rw [eK] at hi;exact absurd hi (UC i)
      refine ih (k0+1) f _ (by omega) (by omega) (by omega) rfl (λLJ h''=>?_) λi' c' fj qb kx y0=>?_
      ·by_cases z:LJ=k0
       ·subst z;exact ⟨i,hi⟩
       ·exact L6 LJ (by omega)
      ·have l1:=later i' c' fj qb kx y0
       have:kx≠k0:=λz=>by
        subst z
        have:i'=i:=yg T.rise y0 hi
        subst this;rw [ei] at fj;cases fj;exact ne (gB.inj qb)
       omega
     have there:k'=ks→∀r:Option Nat,(fc=false→r.isSome=true)→Q (.there r) s:=λe=>by
      subst e;rw [hh] at ei;exact Lr ⟨i,c,ei,gB⟩
     by_cases e:k'=ks
     ·rw [decide_eq_true e,Bool.and_true]
      cases fc with
      |true=>exact wpAny_pure (there e none λz=>absurd z (by decide))
      |false=>
       simp only [fN,if_false];rw [sm];dsimp only;rw [if_pos rfl,pI T.rise hi];dsimp only;rw [ei];dsimp only;refine wpAny_bind (wpAny_isSame_ref_self ?_);refine wpAny_bind (wpAny_pure ?_);simp only [if_true];exact wpAny_pure (there e (some i) λ_=>rfl)
     ·rw [decide_eq_false e,Bool.and_false]
      simp only [fN,if_false];rw [sm];dsimp only;rw [if_pos rfl,pI T.rise hi];dsimp only;rw [ei];dsimp only;refine wpAny_bind (wpAny_isSame_ref_self ?_);refine wpAny_bind (wpAny_pure ?_);simp only [if_true];exact mn e
    by_cases led:(!t.led)=true
    ·rw [if_pos led]
     refine wpAny_bind (BE hk _ (λy hy=>?_) ?_)
     ·obtain ⟨e,he,rfl⟩:=bz.mp hy
      have he:=(Array.mem_filter.mp (Array.mem_toList_iff.mp he)).1;obtain ⟨i',fj,rfl⟩:=Array.mem_iff_getElem.mp he;obtain ⟨LJ,c',e1,UM⟩:=P i' es[i'] (yu fj);exact ⟨LJ,c',by rw [e1],UM⟩
     ·simp only [fN,if_false]
      exact rest
    ·rw [if_neg led]
     exact rest
 refine main (K+1) 0 100000 none (aV _) (by omega) (cS _) rfl (λk' h'=>by omega) λi c hi hc kx _=>cS _
end
section
variable {prog:Program} {w:World} {A:Around} {E:Value→Shared→Prop} {s:Shared}
theorem si(b:Addr)(es:Array (Int×Value)):byScan (.ref b) es=false:=rfl
theorem xk{a:Addr}{o:Obj}{es:Array (Int×Value)}{ep:Nat}{t:SetTable}{b:Addr}{ks:List Int}{Q:Option Nat→Shared→Prop}(hu:A.units<cLine)(ho:s.heap.get? a=some o)(S:lh (fQ w) o es ep t)(P:Ha prog w s.heap es)(hk:IsTupleKey (intKind prog w) s.heap ks b)
  (hy:(∃(i:Nat)(c:Addr),es[i]? =some (tupleKeyHash (intKind prog w) ks, .ref c)∧IsTupleKey (intKind prog w) s.heap ks c)→∀r:Option Nat,r.isSome=true→Q r s)
  (hn:(∀(i:Nat)(e:Int×Value),es[i]? =some e→∀c,e.2= .ref c→¬IsTupleKey (intKind prog w) s.heap ks c)→Q none s):
  wpAny (model prog w) A (setFind a (.ref b) (tupleKeyHash (intKind prog w) ks)) Q E s:=by
 unfold setFind setFindIn;refine wpAny_bind (wpAny_setState_of ho S.dat S.fits ?_);dsimp only;rw [si];simp only [fN,if_false];refine wpAny_bind (oI hu ho S P hk (λh r hr=>?_) λh k0 _ _=>?_)
 ·exact wpAny_pure (hy h r (hr rfl))
 ·exact wpAny_pure (hn h)
theorem zO{a:Addr}{o:Obj}{es:Array (Int×Value)}{ep:Nat}{t:SetTable}{b:Addr}{ks:List Int}{Q:Bool→Shared→Prop}(hu:A.units<cLine)(ho:s.heap.get? a=some o)(S:lh (fQ w) o es ep t)(P:Ha prog w s.heap es)(hk:IsTupleKey (intKind prog w) s.heap ks b)(room:es.size≤305)
  (hy:(∃(i:Nat)(c:Addr),es[i]? =some (tupleKeyHash (intKind prog w) ks, .ref c)∧IsTupleKey (intKind prog w) s.heap ks c)→Q false s)
  (hn:(∀(i:Nat)(e:Int×Value),es[i]? =some e→∀c,e.2= .ref c→¬IsTupleKey (intKind prog w) s.heap ks c)→∀h' o' lY Ck t',Heap.SameBut a s.heap h'→h'.get? a=some o'→lh (fQ w) o' lY Ck t'→lY.toList.Perm (es.toList++ [(tupleKeyHash (intKind prog w) ks, .ref b)])→Q true {s with heap:=h'}):
  wpAny (model prog w) A (setAddHashed a (.ref b) (tupleKeyHash (intKind prog w) ks)) Q E s:=by
 have hd:=S.dat;have hf:=S.fits;have T:=S.tok;have sz:t.place.size=es.size:=by rw [T.size];simp
 unfold setAddHashed setAddHashedIn;refine wpAny_holding (wpAny_bind (wpAny_setState_of ho hd hf ?_));dsimp only;rw [si];simp only [fN,if_false];refine wpAny_bind (oI hu ho S P hk (λh r hr=>?_) λh k0 emp L6=>?_)
 ·exact wpAny_pure (hy h)
 ·dsimp only
  refine wpAny_bind (wpAny_setState_of ho hd hf ?_);dsimp only;obtain ⟨p1,p2,p3⟩:=TOk.put T emp L6 (by rw [sz];exact FA T.few S.few)
  rw [p1]
  have e:(SetTable.insertAt es (below t.place (bL t.mask (tupleKeyHash (intKind prog w) ks) k0)) (tupleKeyHash (intKind prog w) ks,Value.ref b)).toList.map (·.1)=(es.toList.map (·.1)).take (below t.place (bL t.mask (tupleKeyHash (intKind prog w) ks) k0))++tupleKeyHash (intKind prog w) ks::(es.toList.map (·.1)).drop (below t.place (bL t.mask (tupleKeyHash (intKind prog w) ks) k0)):=by
   rw [SetTable.toList_insertAt];simp
  rw [←e] at p3;have pl:(t.put (bL t.mask (tupleKeyHash (intKind prog w) ks) k0)).1.plain=true:=S.pl;have ld:(t.put (bL t.mask (tupleKeyHash (intKind prog w) ks) k0)).1.led= !fQ w:=S.ld;have mk:(t.put (bL t.mask (tupleKeyHash (intKind prog w) ks) k0)).1.mask=t.mask:=rfl;generalize hx:((tupleKeyHash (intKind prog w) ks,Value.ref b):Int×Value)=x at*;generalize hp:below t.place (bL t.mask (tupleKeyHash (intKind prog w) ks) k0)=p at*;generalize (t.put (bL t.mask (tupleKeyHash (intKind prog w) ks) k0)).1=t1 at*;rw [if_pos pl];refine wpAny_bind (xl hk ?_);simp only [if_true,Bool.not_false,Bool.true_and];have Kx:(SetTable.insertAt es p x).size=es.size+1:=SetTable.gE ..;have J4:=SetTable.insertAt_perm es p x;rw [yy] at J4;refine wpAny_bind (wpAny_storeSet_of ho hd ?_ (by rw [Kx];refine fits_of_scanBound ?_;show es.size+1<4096;omega))
  have wW:=sW ho hd (SetTable.insertAt es p x) t1;have Xq:=Heap.SameBut.update s.heap a (Obj.putSet (SetTable.insertAt es p x) t1)
  have ZS:t1.fits (SetTable.insertAt es p x).size=true:=by
   have:=TOk.fits p3
   rw [aN,cu] at this;exact this
  by_cases full:t1.tooFull=true
  ·rw [if_pos full]
   obtain ⟨t2,order,eR,_,pf,sf,T2,pl2,l2,f2,Xo⟩:=Du p3 full (by rw [Kx,mk];have:=S.few;omega) (by rw [Kx];omega)
   rw [Kx] at eR f2 Xo;refine wpAny_bind ?_;unfold setRelay;refine wpAny_bind (wpAny_setState_of wW rfl ZS ?_);dsimp only;have big:512≤sizeLine:=by decide
   rw [if_neg (by omega),eR]
   have XU:(order.filterMap ((SetTable.insertAt es p x)[·]?)).size=es.size+1:=by rw [sf,Kx]
   refine wpAny_bind (wpAny_of_eq (a:=(order.filterMap ((SetTable.insertAt es p x)[·]?),t2)) ?_ ?_)
   ·show (if ((order.filterMap ((SetTable.insertAt es p x)[·]?)).size !=(SetTable.insertAt es p x).size)=true then _ else pure (order.filterMap ((SetTable.insertAt es p x)[·]?),t2))=_
    rw [if_neg (by rw [sf];simp)]
   ·dsimp only
    refine wpAny_storeSet_of wW rfl ?_ (by rw [XU];refine fits_of_scanBound ?_;show es.size+1<4096;omega)
    have AI:=sW wW rfl (order.filterMap ((SetTable.insertAt es p x)[·]?)) t2;exact wpAny_pure (hn h _ _ _ _ t2 (Xq.trans (Heap.SameBut.update _ a _)) AI ⟨S.ex,rfl,T2,by rw [pl2];exact pl,by rw [l2];exact ld,by rw [XU];exact f2⟩ (pf.trans J4))
  ·rw [if_neg full]
   refine wpAny_pure (hn h _ _ _ _ t1 Xq wW ⟨S.ex,rfl,p3,pl,ld,?_⟩ J4);have ff:t1.tooFull=false:=by simpa using full
   unfold SetTable.tooFull SetTable.fill at ff;rw [p3.dum,p3.size] at ff;simp at ff;omega
variable {a b:Addr} {o:Obj} {es:Array (Int×Value)} {ep:Nat} {t:SetTable} {ks:List Int}
open Classical in
noncomputable def mj(prog:Program)(w:World)(h:Heap)(es:Array (Int×Value))(ks:List Int):Bool:=decide (∃(i:Nat)(c:Addr),es[i]? =some (tupleKeyHash (intKind prog w) ks, .ref c)∧IsTupleKey (intKind prog w) h ks c)
theorem IA(h:∀(i:Nat)(e:Int×Value),es[i]? =some e→∀c,e.2= .ref c→¬IsTupleKey (intKind prog w) s.heap ks c):mj prog w s.heap es ks=false:=by
 classical
 unfold mj;exact decide_eq_false λ⟨i,c,h1,h2⟩=>h i _ h1 c rfl h2
theorem FP(h:∃(i:Nat)(c:Addr),es[i]? =some (tupleKeyHash (intKind prog w) ks, .ref c)∧IsTupleKey (intKind prog w) s.heap ks c):mj prog w s.heap es ks=true:=by
 classical
 unfold mj;exact decide_eq_true h
theorem qN{Q:Bool→Shared→Prop}(hu:A.units+64<cLine)(ho:s.heap.get? a=some o)(S:lh (fQ w) o es ep t)(P:Ha prog w s.heap es)(hk:IsTupleKey (intKind prog w) s.heap ks b)
  (h:∀tk,Q (mj prog w s.heap es ks) {s with toks:=tk}):wpAny (model prog w) A (contains (.ref a) (.ref b)) Q E s:=by
 have hT:s.TypeIs (.ref a) "set":=⟨o,ho,S.ex.1⟩;unfold contains
 try with_reducible refine wpAny_holding ?_
 refine wpAny_bind (wpAny_specialOf hT F.slot_set_contains.lookup ?_);show wpAny _ _ (if (some (Value.builtin "set.__contains__")==some Value.none)=true then _ else _) _ E s;rw [if_neg (by rw [beq_builtin_none];exact cZ)]
 refine wpAny_bind (wpAny_callSpecialUnlessNone?_slot (name:=Str.ofString "__contains__") hT F.slot_set_contains
  (wpAny_call_entry F.slot_set_contains hT entry_set_contains ?_ (F.args_set_contains_2 _ _)))
 unfold Builtin.«frozenset.__contains__» Builtin.Frozenset.oneOther;simp only [List.isEmpty_nil,bind_assoc];unfold Builtin.Frozenset.addrOf Builtin.Frozenset.withSetAsKey setContains;refine wpAny_bind (wpAny_pure ?_)
 try dsimp only
 refine wpAny_bind (wpAny_pure ?_)
 try dsimp only
 refine wpAny_bind (wpAny_tryCatch ?_);refine wpAny_holding ?_;refine wpAny_bind (wpAny_pyHash_tuple ?_ hk ?_)
 ·show A.units+1<cLine;omega
 refine wpAny_bind (xk (s:={s with toks:=s.toks+(ks.length+1)}) ?_ ho S P hk (λhy r hr=>?_) λhn=>?_)
 ·show A.units+1<cLine;omega
 ·refine wpAny_pure ?_
  show wpAny _ _ (ret (Value.bool r.isSome)) _ _ _;rw [hr]
  have:=h (s.toks+(ks.length+1))
  rw [FP hy] at this;exact wpAny_pure ⟨_,rfl,wpAny_truthy_bool this⟩
 ·refine wpAny_pure ?_
  show wpAny _ _ (ret (Value.bool false)) _ _ _
  have:=h (s.toks+(ks.length+1))
  rw [IA hn] at this;exact wpAny_pure ⟨_,rfl,wpAny_truthy_bool this⟩
end
end PySem
set_option maxHeartbeats 4000000
namespace L2
open PySem PySem.Spec PyProof.Rows
inductive FV where
 |int (i:Int) |bl (b:Bool)
inductive XD where
 |qw (b:Bool) (ps:List (Int×Int)) |Ou (ks:List (Int×Int)) (vs:List FV)
inductive D where
 |aM|bl (b:Bool) |int (i:Int) |str (x:Str) |lst (l:List D) |tup (l:List D) |km (ns:List Int) |rng (lo hi:Int) |obj (a:Addr) |eV (w:List (List Nat)) |set (b:Bool) (l:List Int) |x (k:XD)
structure DC where
 K:PySem.W.Frag
 C:Addr
def aB(n:Nat):D:= .int n
def aF(r:List Nat):D:= .lst (r.map aB)
def aT(w:List (List Nat)):D:= .lst (w.map aF)
def RJ(es:Array (Int×Value))(ns:List Int):Prop:=(∀e∈es.toList,∃k t,e=(hashInt k,Value.int k t))∧ns.Nodup∧∃ms,IntsAre (es.toList.map (·.2)) ms∧ms.Perm ns
def Na(b:Bool)(a:Addr)(ns:List Int)(h:Heap):Prop:=∃o es ep t,h.get? a=some o∧lh b o es ep t∧RJ es ns
def f9(p:Int×Int):Int:=reduceHash (Builtin.Tuple.tupleHashOf [hashInt p.1,hashInt p.2])
inductive ja (H:Hp):List (Int×Addr)→List (Int×Int)→Prop
 |nil:ja H [] []
 |cons {a:Addr} {p:Int×Int} {es:List (Int×Addr)} {ps:List (Int×Int)}:H a=some (.tup [.int p.1, .int p.2])→ja H es ps→ja H ((f9 p,a)::es) (p::ps)
theorem ja.mono{H H':Hp}(s:aC H H'):∀{es:List (Int×Addr)}{ps:List (Int×Int)},ja H es ps→ja H' es ps
 |_,_, .nil=> .nil
 |_,_, .cons h t=> .cons (s _ _ h) (t.mono s)
def eX(b:Bool)(a:Addr)(es:List (Int×Addr))(h:Heap):Prop:=∃o eA ep t,h.get? a=some o∧lh b o eA ep t∧eA.toList.Perm (es.map λe=>(e.1,Value.ref e.2))
def Yp:FV→Value→Prop
 | .int i,v=>∃t,v= .int i t
 | .bl b,v=>v= .bool b
inductive KN:List DictEntry→List (Int×Addr)→List FV→Prop
 |nil:KN [] [] []
 |cons {e:DictEntry} {l:List DictEntry} {h:Int} {a:Addr} {v:FV} {es:List (Int×Addr)} {vs:List FV}:e.hash=h→e.key= .ref a→Yp v e.val→KN l es vs→KN (e::l) ((h,a)::es) (v::vs)
def OI(a:Addr)(es:List (Int×Addr))(vs:List FV)(h:Heap):Prop:=(a==sysModules)=false∧∃o eA ep,h.get? a=some o∧o.ExactDict∧o.data= .dict eA ep∧KN eA.toList es vs
def Fh(H:Hp)(a:Addr)(φ:Heap→Prop):XD→Prop
 | .qw b ps=>ps.Nodup∧∃es,φ=eX b a es∧ja H es ps
 | .Ou ks vs=>ks.Nodup∧∃es,φ=OI a es vs∧ja H es ks
theorem Fh.mono{H H':Hp}(s:aC H H'){a:Addr}{φ:Heap→Prop}:∀{k:XD},Fh H a φ k→Fh H' a φ k
 | .qw _ _,⟨n,es,e,p⟩=>⟨n,es,e,p.mono s⟩
 | .Ou _ _,⟨n,es,e,p⟩=>⟨n,es,e,p.mono s⟩
mutual
inductive Dv (Z:DC) (H:Hp):V→D→Prop
 |aM:Dv Z H .aM .aM
 |bl (b:Bool):Dv Z H (.bl b) (.bl b)
 |int (i:Int):Dv Z H (.int i) (.int i)
 |str (x:Str) (h:PyData.strOk x=true):Dv Z H (.str x) (.str x)
 |lst {a:Addr} {xs:List V} {ds:List D}:H a=some (.lst xs)→ar Z H xs ds→Dv Z H (.ref a) (.lst ds)
 |tup {a:Addr} {xs:List V} {ds:List D}:H a=some (.tup xs)→ar Z H xs ds→Dv Z H (.ref a) (.tup ds)
 |obj (a:Addr):Dv Z H (.ref a) (.obj a)
 |rng {a:Addr} {lo hi:Int}:H a=some (.rng lo hi)→Dv Z H (.ref a) (.rng lo hi)
 |km {a:Addr} {ns:List Int}:aH Z.K H a (ns.map V.int)→ns.length≤63→Dv Z H (.ref a) (.km ns)
 |eV {p dx R:Addr} {w:List (List Nat)}:H p=some (.ins Z.C dx [("rows", .ref R)])→Dv Z H (.ref R) (aT w)→Wb.Good w→1≤w.length→w.length≤14→Dv Z H (.ref p) (.eV w)
 |set {a:Addr} {b:Bool} {ns:List Int}:H a=some (.ext (Na b a ns))→Dv Z H (.ref a) (.set b ns)
 |x {a:Addr} {φ:Heap→Prop} {k:XD}:H a=some (.ext φ)→Fh H a φ k→Dv Z H (.ref a) (.x k)
inductive ar (Z:DC) (H:Hp):List V→List D→Prop
 |nil:ar Z H [] []
 |cons {v:V} {vs:List V} {d:D} {ds:List D}:Dv Z H v d→ar Z H vs ds→ar Z H (v::vs) (d::ds)
end
theorem aH.mono{K:PySem.W.Frag}{H H':Hp}{a:Addr}{xs:List V}(s:aC H H')(h:aH K H a xs):aH K H' a xs:=by
 rcases h with (h| ⟨o,h⟩) |h
 ·exact .inl (.inl (s _ _ h))
 ·exact .inl (.inr ⟨o,s _ _ h⟩)
 ·exact .inr h
section
variable {Z:DC} {H H' G G':Hp}
theorem Dv.ofInt{v:V}{i:Int}(h:Dv Z H v (.int i)):v= .int i:=by cases h;rfl
theorem Dv.WN{v:V}{b:Bool}(h:Dv Z H v (.bl b)):v= .bl b:=by cases h;rfl
theorem Dv.rP{v:V}{ds:List D}(h:Dv Z H v (.lst ds)):∃a xs,v= .ref a∧H a=some (.lst xs)∧ar Z H xs ds:=by cases h with|lst h e=>exact ⟨_,_,rfl,h,e⟩
theorem Dv.rQ{v:V}{ds:List D}(h:Dv Z H v (.tup ds)):∃a xs,v= .ref a∧H a=some (.tup xs)∧ar Z H xs ds:=by cases h with|tup h e=>exact ⟨_,_,rfl,h,e⟩
theorem Dv.zq{v:V}{ns:List Int}(h:Dv Z H v (.km ns)):∃a,v= .ref a∧aH Z.K H a (ns.map V.int)∧ns.length≤63:=by cases h with|km h z=>exact ⟨_,rfl,h,z⟩
theorem ar.JK{vs:List V}(h:ar Z H vs []):vs= []:=by cases h;rfl
theorem ar.t8{vs:List V}{d:D}{ds:List D}(h:ar Z H vs (d::ds)):∃v us,vs=v::us∧Dv Z H v d∧ar Z H us ds:=by cases h with|cons a b=>exact ⟨_,_,rfl,a,b⟩
theorem ar.ofOne{vs:List V}{d:D}(h:ar Z H vs [d]):∃v,vs= [v]∧Dv Z H v d:=by
 obtain ⟨v,us,rfl,a,b⟩:=h.t8;rw [b.JK];exact ⟨v,rfl,a⟩
theorem ar.zr{vs:List V}{d e:D}(h:ar Z H vs [d,e]):∃v u,vs= [v,u]∧Dv Z H v d∧Dv Z H u e:=by
 obtain ⟨v,us,rfl,a,b⟩:=h.t8;obtain ⟨u,rfl,c⟩:=b.ofOne;exact ⟨v,u,rfl,a,c⟩
mutual
theorem Dv.mono(s:aC H H'):∀{v:V}{d:D},Dv Z H v d→Dv Z H' v d
 |_,_, .aM=> .aM
 |_,_, .bl b=> .bl b
 |_,_, .int i=> .int i
 |_,_, .str x h=> .str x h
 |_,_, .lst h a=> .lst (s _ _ h) (ar.mono s a)
 |_,_, .tup h a=> .tup (s _ _ h) (ar.mono s a)
 |_,_, .obj a=> .obj a
 |_,_, .rng h=> .rng (s _ _ h)
 |_,_, .km h z=> .km (h.mono s) z
 |_,_, .eV h r g a b=> .eV (s _ _ h) (Dv.mono s r) g a b
 |_,_, .set h=> .set (s _ _ h)
 |_,_, .x h k=> .x (s _ _ h) (k.mono s)
theorem ar.mono(s:aC H H'):∀{vs:List V}{ds:List D},ar Z H vs ds→ar Z H' vs ds
 |_,_, .nil=> .nil
 |_,_, .cons a as=> .cons (Dv.mono s a) (ar.mono s as)
end
theorem ar.length:∀{vs:List V}{ds:List D},ar Z H vs ds→vs.length=ds.length
 |_,_, .nil=>rfl
 |_,_, .cons _ as=>congrArg (·+1) as.length
theorem ar.get:∀{vs:List V}{ds:List D}{i:Nat}{d:D},ar Z H vs ds→ds[i]? =some d→∃v,vs[i]? =some v∧Dv Z H v d
 |_,_,_,_, .nil,e=>by simp at e
 |_,_,0,_, .cons a as,e=>by simp at e;subst e;exact ⟨_,rfl,a⟩
 |_,_,i+1,d, .cons a as,e=>by
  obtain ⟨v,h1,h2⟩:=ar.get (i:=i) (d:=d) as (by simpa using e)
  exact ⟨v,by simpa using h1,h2⟩
theorem ar.Et:∀{vs:List V}{ds:List D}{i:Nat}{v:V},ar Z H vs ds→vs[i]? =some v→∃d,ds[i]? =some d∧Dv Z H v d
 |_,_,_,_, .nil,e=>by simp at e
 |_,_,0,_, .cons a as,e=>by simp at e;subst e;exact ⟨_,rfl,a⟩
 |_,_,i+1,d, .cons a as,e=>by
  obtain ⟨v,h1,h2⟩:=ar.Et (i:=i) (v:=d) as (by simpa using e)
  exact ⟨v,by simpa using h1,h2⟩
theorem ar.append:∀{vs us:List V}{ds es:List D},ar Z H vs ds→ar Z H us es→ar Z H (vs++us) (ds++es)
 |_,_,_,_, .nil,b=>b
 |_,_,_,_, .cons a as,b=> .cons a (as.append b)
theorem ar.take:∀{vs:List V}{ds:List D}(n:Nat),ar Z H vs ds→ar Z H (vs.take n) (ds.take n)
 |_,_,0,_=>by simpa using ar.nil
 |_,_,n+1, .nil=>by simpa using ar.nil
 |_,_,n+1, .cons a as=>by simpa using ar.cons a (as.take n)
theorem ar.drop:∀{vs:List V}{ds:List D}(n:Nat),ar Z H vs ds→ar Z H (vs.drop n) (ds.drop n)
 |_,_,0,h=>h
 |_,_,n+1, .nil=>by simpa using ar.nil
 |_,_,n+1, .cons a as=>by simpa using as.drop n
theorem ar.set{v:V}{d:D}(h:Dv Z H v d):∀{vs:List V}{ds:List D}(n:Nat),ar Z H vs ds→ar Z H (vs.set n v) (ds.set n d)
 |_,_,_, .nil=> .nil
 |_,_,0, .cons a as=> .cons h as
 |_,_,n+1, .cons a as=> .cons a (ar.set h n as)
theorem ar.rev:∀{vs:List V}{ds:List D},ar Z H vs ds→ar Z H vs.reverse ds.reverse
 |_,_, .nil=> .nil
 |_,_, .cons a as=>by
  rw [List.reverse_cons,List.reverse_cons];exact as.rev.append (.cons a .nil)
theorem ar.ints:∀(ns:List Int),ar Z H (ns.map V.int) (ns.map D.int)
 | []=> .nil
 |n::ns=> .cons (.int n) (ar.ints ns)
theorem ar.snoc{vs:List V}{ds:List D}{v:V}{d:D}(a:ar Z H vs ds)(b:Dv Z H v d):ar Z H (vs++ [v]) (ds++ [d]):=a.append (.cons b .nil)
structure Ext (G H G' H':Hp):Prop where
 gg:aC G G'
 sub:aC G' H'
 hh:aC H H'
 off:∀b,H b≠none→G b=none→G' b=none
theorem Ext.refl(s:aC G H):Ext G H G H:=⟨.refl _,s, .refl _,λ_ _ h=>h⟩
theorem Ext.trans{G1 H1 G2 H2:Hp}(a:Ext G H G1 H1)(b:Ext G1 H1 G2 H2):Ext G H G2 H2:=
 ⟨a.gg.trans b.gg,b.sub,a.hh.trans b.hh,λx h g=>b.off x (λz=>by
  cases e:H x with
  |none=>exact h e
  |some o=>rw [a.hh x o e] at z;cases z) (a.off x h g)⟩
theorem Ext.new{p:Addr}{o:HO}(s:aC G H)(h:H p=none):Ext G H (upd G p o) (upd H p o):=by
 have hg:G p=none:=s.free h;refine ⟨av hg o,λb u e=>?_,av h o,λb hb hg=>?_⟩
 ·by_cases z:b=p
  ·subst z;rw [aa] at e ⊢;exact e
  ·rw [ab z] at e ⊢;exact s b u e
 ·have:b≠p:=λz=>hb (by rw [z];exact h)
  rw [ab this];exact hg
end
abbrev DN:=List (Option D)
structure dA (Z:DC) (G:Hp) (σ:St) (ρ:DN):Prop where
 len:ρ.length=σ.length
 at_:∀(i:Nat)(d:D),ρ[i]? =some (some d)→∃v,σ[i]? =some (some v)∧Dv Z G v d
section
variable {Z:DC} {G G' H H':Hp} {σ:St} {ρ:DN}
theorem dA.mono(e:dA Z G σ ρ)(s:aC G G'):dA Z G' σ ρ:=⟨e.len,λi d h=>let ⟨v,a,b⟩:=e.at_ i d h;⟨v,a,b.mono s⟩⟩
theorem dA.set{i:Nat}{v:V}{d:D}(e:dA Z G σ ρ)(h:Dv Z G v d):dA Z G (σ.set i (some v)) (ρ.set i (some d)):=by
 refine ⟨by rw [gm,gm];exact e.len,λj c hj=>?_⟩
 by_cases z:i=j
 ·subst z
  by_cases hi:i<ρ.length
  ·rw [mY hi] at hj
   cases hj;exact ⟨v,by rw [mY (by rw [←e.len];exact hi)],h⟩
  ·rw [BK (lI hi)] at hj
   rw [gf (lI hi)] at hj;cases hj
 ·rw [tx z] at hj ⊢
  exact e.at_ j c hj
end
abbrev aP:=DN→(D→Prop)→Prop
abbrev eo:=DN→(Bool→Prop)→Prop
abbrev i8:=DN→(List D→Prop)→Prop
abbrev ik:=D→D→(D→Prop)→Prop
abbrev dW:=D→DN→(DN→Prop)→Prop
abbrev i9:=DN→(List D→Prop)→Prop
def dM(Z:DC)(t:aP):TE:=λσ H Q=>∃(G:Hp)(ρ:DN)(P:D→Prop),aC G H∧dA Z G σ ρ∧t ρ P∧∀d,P d→∀v G' H',Ext G H G' H'→Dv Z G' v d→Q v H'
def liftT(Z:DC)(t:eo):TT:=λσ H Q=>∃(G:Hp)(ρ:DN)(P:Bool→Prop),aC G H∧dA Z G σ ρ∧t ρ P∧∀b,P b→∀G' H',Ext G H G' H'→Q b H'
def CP(Z:DC)(t:i8):TA:=λσ H Q=>∃(G:Hp)(ρ:DN)(P:List D→Prop),aC G H∧dA Z G σ ρ∧t ρ P∧∀ds,P ds→∀vs G' H',Ext G H G' H'→ar Z G' vs ds→Q vs H'
def cv(Z:DC)(r:ik):R2:=λx y H Q=>∃(G:Hp)(a b:D)(P:D→Prop),aC G H∧Dv Z G x a∧Dv Z G y b∧r a b P∧∀d,P d→∀v G' H',Ext G H G' H'→Dv Z G' v d→Q v H'
def jj(Z:DC)(r:List D→(D→Prop)→Prop):List V→Hp→VK→Prop:=λvs H Q=>∃(G:Hp)(ds:List D)(P:D→Prop),aC G H∧ar Z G vs ds∧r ds P∧∀d,P d→∀v G' H',Ext G H G' H'→Dv Z G' v d→Q v H'
abbrev eW:=List D→(D→Prop)→Prop
def aW(Z:DC)(sd:eW):Sp:=λvs H Q _=>jj Z sd vs H Q
def DE(Z:DC)(X:Cx)(e:Expr)(t:aP):Prop:=PE X e (dM Z t)
def DT(Z:DC)(X:Cx)(e:Expr)(t:eo):Prop:=PT X e (liftT Z t)
def DA(Z:DC)(X:Cx)(es:List Expr)(t:i8):Prop:=PA X es (CP Z t)
theorem PE.imp{X:Cx}{e:Expr}{t t':TE}(h:PE X e t)(f:∀σ H Q,t' σ H Q→t σ H Q):PE X e t':=λpins s σ H Q I q=>h pins s σ H Q I (f _ _ _ q)
theorem PT.imp{X:Cx}{e:Expr}{t t':TT}(h:PT X e t)(f:∀σ H Q,t' σ H Q→t σ H Q):PT X e t':=λpins s σ H Q I q=>h pins s σ H Q I (f _ _ _ q)
theorem PW.imp{X:Cx}{e:Expr}{t t':TT}(h:PW X e t)(f:∀σ H Q,t' σ H Q→t σ H Q):PW X e t':=λwh pins s σ H Q I q=>h wh pins s σ H Q I (f _ _ _ q)
theorem PA.imp{X:Cx}{es:List Expr}{t t':TA}(h:PA X es t)(f:∀σ H Q,t' σ H Q→t σ H Q):PA X es t':=λpos pins s σ H Q I q=>h pos pins s σ H Q I (f _ _ _ q)
theorem OpR.imp{X:Cx}{f:Value→Value→Sem Value}{r r':R2}(h:OpR X f r)(g:∀x y H Q,r' x y H Q→r x y H Q):OpR X f r':=λpins s σ H x y v u Q I a b q=>h pins s σ H x y v u Q I a b (g _ _ _ _ q)
theorem bZ.imp{X:Cx}{f:Value}{r r':List V→Hp→VK→Prop}(h:bZ X f r)(g:∀xs H Q,r' xs H Q→r xs H Q):bZ X f r':=λpins s σ H xs us Q I a q=>h pins s σ H xs us Q I a (g _ _ _ q)
def Am(i:Nat):aP:=λρ P=>∃d,ρ[i]? =some (some d)∧P d
def dC(d:D):aP:=λ_ P=>P d
section
variable {Z:DC} {X:Cx}
theorem U(i:Nat){x:Str}{pos:Pos}(hN:X.N[i]? =some x:=by rfl)(hv:rf X.env.scope x:=by first|exact Or.inl rfl|exact Or.inr (Or.inl rfl) |exact Or.inr (Or.inr rfl))(hd:(x==("__debug__":Str))=false:=by decide)
  (fR:(x==("__classdict__":Str))=false:=by decide):DE Z X (.Name x pos) (Am i):=
 (EF hN hv hd fR).imp λσ H Q ⟨G,ρ,P,s,e,⟨d,hd,p⟩,q⟩=>let ⟨v,hv,dv⟩:=e.at_ i d hd;⟨v,hv,q d p v G H (.refl s) dv⟩
theorem bO{i j pos}:DE Z X (.Constant (.int i) j pos) (dC (.int i)):=aO.imp λσ H Q ⟨G,ρ,P,s,e,p,q⟩=>q _ p _ G H (.refl s) (.int i)
theorem lU{b j pos}:DE Z X (.Constant (.bool b) j pos) (dC (.bl b)):=Q2.imp λσ H Q ⟨G,ρ,P,s,e,p,q⟩=>q _ p _ G H (.refl s) (.bl b)
theorem gy{j pos}:DE Z X (.Constant .none j pos) (dC .aM):=Mj.imp λσ H Q ⟨G,ρ,P,s,e,p,q⟩=>q _ p _ G H (.refl s) .aM
theorem fg{x j pos}(h:PyData.strOk x=true:=by decide+kernel):DE Z X (.Constant (.str x) j pos) (dC (.str x)):=Mn.imp λσ H Q ⟨G,ρ,P,s,e,p,q⟩=>q _ p _ G H (.refl s) (.str x h)
theorem xv{x:Str}{i:Int}{pos:Pos}(hg:Gl X x)(hm:∃tk,X.mg x=some (.int i tk))(hd:(x==("__debug__":Str))=false:=by decide):DE Z X (.Name x pos) (dC (.int i)):=by
 obtain ⟨tk,hm⟩:=hm;exact (vz hg hm (v:= .int i) ⟨tk,rfl⟩ hd).imp λσ H Q ⟨G,ρ,P,s,e,p,q⟩=>q _ p _ G H (.refl s) (.int i)
def Al(r:ik)(ta tb:aP):aP:=λρ P=>ta ρ λa=>tb ρ λb=>r a b P
variable {a b c:Expr} {ta tb tc:aP} {pos:Pos}
theorem vd{r:ik}:∀σ H Q,dM Z (Al r ta tb) σ H Q→zM (cv Z r) (dM Z ta) (dM Z tb) σ H Q:=by
 rintro σ H Q ⟨G,ρ,P,s,e,h,q⟩;refine ⟨G,ρ,_,s,e,h,λa ha v G1 H1 x1 dv=>?_⟩;refine ⟨G1,ρ,_,x1.sub,e.mono x1.gg,ha,λb hb u G2 H2 x2 du=>?_⟩;exact ⟨G2,a,b,P,x2.sub,dv.mono x2.gg,du,hb,λd hd v' G' H' x3 oR=>q d hd v' G' H' ((x1.trans x2).trans x3) oR⟩
theorem oQ{op:Operator}{r:ik}(ho:OpR X (binaryOp op) (cv Z r))(ha:DE Z X a ta)(hb:DE Z X b tb):DE Z X (.BinOp a op b pos) (Al r ta tb):=(cm ho ha hb).imp vd
theorem yI{op:CmpOp}{r:ik}(ho:OpR X (compareOp op) (cv Z r))(ha:DE Z X a ta)(hb:DE Z X b tb)(hm:behindInMarks op b=false):DE Z X (.Compare a [op] [b] pos) (Al r ta tb):=(Ba ho ha hb hm).imp vd
def yF(t:aP):eo:=λρ P=>t ρ λd=>∃k,d= .bl k∧P k
theorem xX{t:aP}:∀σ H Q,liftT Z (yF t) σ H Q→DS (dM Z t) σ H Q:=by
 rintro σ H Q ⟨G,ρ,P,s,e,h,q⟩;refine ⟨G,ρ,_,s,e,h,?_⟩;rintro _ ⟨k,rfl,p⟩ v G1 H1 x1 dv;cases dv;exact ⟨k,rfl,q k p G1 H1 x1⟩
theorem bQ{op:CmpOp}{r:ik}(ho:OpR X (compareOp op) (cv Z r))(ha:DE Z X a ta)(hb:DE Z X b tb)(hm:behindInMarks op b=false):DT Z X (.Compare a [op] [b] pos) (yF (Al r ta tb)):=
 (ic ho ha hb hm).imp λσ H Q h=>by
  obtain h:=xX σ H Q h;exact vd σ H _ h
def yE(r r':ik)(ta tb tc:aP):aP:=λρ P=>ta ρ λx=>tb ρ λy=>r x y λz=>∃k,z= .bl k∧(if k=true then tc ρ λw'=>r' y w' P else P (.bl false))
theorem ve{r r':ik}:∀σ H Q,dM Z (yE r r' ta tb tc) σ H Q→zL (cv Z r) (cv Z r') (dM Z ta) (dM Z tb) (dM Z tc) σ H Q:=by
 rintro σ H Q ⟨G,ρ,P,s,e,h,q⟩;refine ⟨G,ρ,_,s,e,h,λa ha v G1 H1 x1 dv=>?_⟩;refine ⟨G1,ρ,_,x1.sub,e.mono x1.gg,ha,λb hb u G2 H2 x2 du=>?_⟩;refine ⟨G2,a,b,_,x2.sub,dv.mono x2.gg,du,hb,?_⟩;rintro _ ⟨k,rfl,hk⟩ v' G3 H3 x3 oR;cases oR;refine ⟨k,rfl,?_⟩;have x:=(x1.trans x2).trans x3;cases k with
 |false=>exact fw (q _ hk _ G3 H3 x (.bl false))
 |true=>
  refine f7 ⟨G3,ρ,_,x3.sub,e.mono x.gg,hk,λc hc w' G4 H4 x4 dw=>?_⟩;exact ⟨G4,b,c,P,x4.sub,(du.mono x3.gg).mono x4.gg,dw,hc,λd hd v'' G' H' x5 d5=>q d hd v'' G' H' ((x.trans x4).trans x5) d5⟩
theorem Fo{op pA:CmpOp}{r r':ik}(ho:OpR X (compareOp op) (cv Z r))(lO:OpR X (compareOp pA) (cv Z r'))(ha:DE Z X a ta)(hb:DE Z X b tb)(hc:DE Z X c tc)
  (hm:lastMarks [op,pA] [b,c]=false:=by with_unfolding_all rfl):DE Z X (.Compare a [op,pA] [b,c] pos) (yE r r' ta tb tc):=(Gq ho lO ha hb hc hm).imp ve
theorem xC{op pA:CmpOp}{r r':ik}(ho:OpR X (compareOp op) (cv Z r))(lO:OpR X (compareOp pA) (cv Z r'))(ha:DE Z X a ta)(hb:DE Z X b tb)(hc:DE Z X c tc)
  (hm:lastMarks [op,pA] [b,c]=false:=by with_unfolding_all rfl):DT Z X (.Compare a [op,pA] [b,c] pos) (yF (yE r r' ta tb tc)):=
 (Gz ho lO ha hb hc hm).imp λσ H Q h=>by
  obtain h:=xX σ H Q h;exact ve σ H _ h
def E3:D→Bool
 | .aM=>false
 | .bl b=>b
 | .int i=>i !=0
 | .str x=>x.length !=0
 | .lst l=>!l.isEmpty
 | .tup l=>!l.isEmpty
 | .km l=>!l.isEmpty
 | .rng lo hi=>decide (lo<hi)
 | .obj _=>true
 | .eV _=>true
 | .set _ l=>!l.isEmpty
 | .x _=>true
def Vn:D→Bool
 | .bl _=>true
 | .int _=>true
 | .lst _=>true
 | .tup _=>true
 | .aM=>true
 |_=>false
def Tf(t:aP):eo:=λρ P=>t ρ λd=>Vn d=true∧P (E3 d)
theorem sL{G:Hp}{vs:List V}{ds:List D}(h:ar Z G vs ds):vs.isEmpty=ds.isEmpty:=by cases h<;>rfl
theorem kE(ha:DE Z X a ta)(he:∀whole,isTrue a X.env whole=(do let v ←whole;standAt a.pos;holding [v] (truthy v)):=by intro _;rfl):DT Z X a (Tf ta):=by
 refine (GA ha he).imp ?_;rintro σ H Q ⟨G,ρ,P,s,e,h,q⟩;refine ⟨G,ρ,_,s,e,h,?_⟩;rintro d ⟨hd,p⟩ v G1 H1 x1 dv;refine ⟨E3 d,?_,q _ p G1 H1 x1⟩;cases dv with
 |aM=>rfl
 |bl b=>rfl
 |int i=>rfl
 |lst h a=>exact .inl ⟨_,aH.of (x1.sub _ _ h),by rw [sL a];rfl⟩
 |tup h a=>exact .inr (.inl ⟨_,dX.of (x1.sub _ _ h),by rw [sL a];rfl⟩)
 |_=>cases hd
def Zo(t u:eo):eo:=λρ P=>t ρ λc=>if c=true then P true else u ρ P
def Tb(t:eo):eo:=λρ P=>t ρ λc=>P (!c)
variable {tA DQ:eo} {rest:List Expr}
def DW(Z:DC)(X:Cx)(e:Expr)(t:eo):Prop:=PW X e (liftT Z t)
theorem DW.dt{e:Expr}{t:eo}(h:DW Z X e t):DT Z X e t:=PW.pt h
theorem t5(ha:DT Z X a tA):DW Z X (.BoolOp .Or [a] pos) tA:=Ms ha
theorem rz(ha:DT Z X a tA)(hb:DW Z X (.BoolOp .Or (b::rest) pos) DQ):DW Z X (.BoolOp .Or (a::b::rest) pos) (Zo tA DQ):=by
 refine (Q6 ha hb).imp ?_;rintro σ H Q ⟨G,ρ,P,s,e,h,q⟩;refine ⟨G,ρ,_,s,e,h,λc hc G1 H1 x1=>?_⟩;cases c with
 |false=>exact fw ⟨G1,ρ,P,x1.sub,e.mono x1.gg,hc,λb hb G2 H2 x2=>q b hb G2 H2 (x1.trans x2)⟩
 |true=>exact f7 (q _ hc G1 H1 x1)
theorem jB(ha:DT Z X a tA):DT Z X (.UnaryOp .Not a pos) (Tb tA):=by
 refine (EH ha).imp ?_;rintro σ H Q ⟨G,ρ,P,s,e,h,q⟩;exact ⟨G,ρ,_,s,e,h,λc hc G1 H1 x1=>q _ hc G1 H1 x1⟩
def O9(ta tb:aP):aP:=λρ P=>ta ρ λx=>∃c,x= .bl c∧if c=true then tb ρ P else P (.bl false)
def Pf(ta:aP):aP:=λρ P=>ta ρ λx=>∃c,x= .bl c∧P (.bl (!c))
theorem El{op}(h:DE Z X a ta):DE Z X (.BoolOp op [a] pos) ta:=Mm h
theorem yH(ha:DE Z X a ta)(hb:DE Z X (.BoolOp .And (b::rest) pos) tb):DE Z X (.BoolOp .And (a::b::rest) pos) (O9 ta tb):=by
 refine (Me ha hb).imp ?_;rintro σ H Q ⟨G,ρ,P,s,e,h,q⟩;refine ⟨G,ρ,_,s,e,h,?_⟩;rintro _ ⟨c,rfl,hc⟩ v G1 H1 x1 dv;cases dv;refine ⟨c,rfl,?_⟩;cases c with
 |true=>exact f7 ⟨G1,ρ,P,x1.sub,e.mono x1.gg,hc,λb hb v G2 H2 x2 d2=>q b hb v G2 H2 (x1.trans x2) d2⟩
 |false=>exact fw (q _ hc _ G1 H1 x1 (.bl false))
theorem Ld(ha:DE Z X a ta):DE Z X (.UnaryOp .Not a pos) (Pf ta):=by
 refine (Ml ha).imp ?_;rintro σ H Q ⟨G,ρ,P,s,e,h,q⟩;refine ⟨G,ρ,_,s,e,h,?_⟩;rintro _ ⟨c,rfl,hc⟩ v G1 H1 x1 dv;cases dv;exact ⟨c,rfl,q _ hc _ G1 H1 x1 (.bl _)⟩
def su:i8:=λ_ P=>P []
def Hv(ta:aP)(t:i8):i8:=λρ P=>ta ρ λx=>t ρ λxs=>P (x::xs)
variable {es:List Expr} {t:i8} {e:Expr}
theorem au:DA Z X [] su:=aq.imp λσ H Q ⟨G,ρ,P,s,e,p,q⟩=>q _ p _ G H (.refl s) .nil
theorem af(ha:DE Z X e ta)(hr:DA Z X es t)(hs:starEach (e::es) X.env=(false,eval e X.env)::starEach es X.env:=by rfl):DA Z X (e::es) (Hv ta t):=by
 refine (ae ha hr hs).imp ?_;rintro σ H Q ⟨G,ρ,P,s,e,h,q⟩;refine ⟨G,ρ,_,s,e,h,λa ha v G1 H1 x1 dv=>?_⟩;exact ⟨G1,ρ,_,x1.sub,e.mono x1.gg,ha,λds hd vs G2 H2 x2 ba=>q _ hd _ G2 H2 (x1.trans x2) (.cons (dv.mono x2.gg) ba)⟩
def Tg(t:i8):aP:=λρ P=>t ρ λxs=>xs.length≤sizeLine∧P (.tup xs)
def NH(t:i8):aP:=λρ P=>t ρ λxs=>xs.length≤sizeLine∧P (.lst xs)
theorem hC{x1}(h:DA Z X es t):DE Z X (.Tuple es x1 pos) (Tg t):=by
 refine (t9 h).imp ?_;rintro σ H Q ⟨G,ρ,P,s,e,h,q⟩;refine ⟨G,ρ,_,s,e,h,?_⟩;rintro ds ⟨hl,hp⟩ vs G1 H1 x1 ba;exact ⟨by rw [ba.length];exact hl,λp uS=>q _ hp _ _ _ (x1.trans (.new x1.sub uS)) (.tup aa (ba.mono (av (x1.sub.free uS) _)))⟩
theorem pV(h:DA Z X es t):DE Z X (.List es pos) (NH t):=by
 refine (dF h).imp ?_;rintro σ H Q ⟨G,ρ,P,s,e,h,q⟩;refine ⟨G,ρ,_,s,e,h,?_⟩;rintro ds ⟨hl,hp⟩ vs G1 H1 x1 ba;exact ⟨by rw [ba.length];exact hl,λp uS=>q _ hp _ _ _ (x1.trans (.new x1.sub uS)) (.lst aa (ba.mono (av (x1.sub.free uS) _)))⟩
def uE(r:List D→(D→Prop)→Prop)(t:i8):aP:=λρ P=>t ρ λds=>r ds P
theorem rK{r:List D→(D→Prop)→Prop}:∀σ H Q,dM Z (uE r t) σ H Q→CP Z t σ H λvs H1=>jj Z r vs H1 Q:=by
 rintro σ H Q ⟨G,ρ,P,s,e,h,q⟩;exact ⟨G,ρ,_,s,e,h,λds hd vs G1 H1 x1 ba=>⟨G1,ds,P,x1.sub,ba,hd,λd hp v G2 H2 x2 dv=>q d hp v G2 H2 (x1.trans x2) dv⟩⟩
theorem HI{sd:eW}{k:Nat}{f:Addr}{fd:FuncData}{ps:List Str}{x:Str}{p:Pos}(F:FnOk X.prog X.w X.K X.mg X.base cq k f fd ps (aW Z sd))(hr:cH k X.A)(hg:Gl X x)(hm:X.mg x=some (.ref f))(hk:PySem.W.keepIn X.K (.ref f)=true)(hb:Binds X.K fd ps [])
  (ha:DA Z X (e::es) t) (jM:(x==("__debug__":Str))=false:=by decide) (he:starEach (e::es) X.env=(false,eval e X.env)::starEach es X.env:=by rfl) (dR:(backTo pos (starEach es X.env)).any (·.1)=false:=by rfl):
  DE Z X (.Call (.Name x p) (e::es) [] pos) (uE sd t):=
 (bh F hr hg hm hk hb .nil bY ha jM he dR).imp λσ H Q h=>by
  have h:=rK σ H Q h;obtain ⟨G,ρ,P,s,e,h,q⟩:=h;exact ⟨G,ρ,P,s,e,h,λds hd vs G1 H1 x1 ba=>by show aW Z sd (vs++ []) H1 Q E0;rw [iK];exact q ds hd vs G1 H1 x1 ba⟩
theorem dJ{id:String}{x:Str}{p:Pos}{r:List D→(D→Prop)→Prop}(hc:bZ X (.builtin id) (jj Z r))(hg:Gl X x)(hm:X.mg x=none)(hv:bootBuiltins x=some (.builtin id))(ha:DA Z X (e::es) t)(hn:x≠"__name__":=by decide)(jM:(x==("__debug__":Str))=false:=by decide)
  (he:starEach (e::es) X.env=(false,eval e X.env)::starEach es X.env:=by rfl) (dR:(backTo pos (starEach es X.env)).any (·.1)=false:=by rfl):
  DE Z X (.Call (.Name x p) (e::es) [] pos) (uE r t):=(b8 hc hg hm hv ha hn jM he dR).imp rK
theorem je{T:String}{x:Str}{p:Pos}{r:List D→(D→Prop)→Prop}(hc:bZ X (.type T) (jj Z r))(hg:Gl X x)(hm:X.mg x=none)(hv:bootBuiltins x=some (.type T))(ha:DA Z X (e::es) t)(hn:x≠"__name__":=by decide)(jM:(x==("__debug__":Str))=false:=by decide)
  (he:starEach (e::es) X.env=(false,eval e X.env)::starEach es X.env:=by rfl) (dR:(backTo pos (starEach es X.env)).any (·.1)=false:=by rfl):
  DE Z X (.Call (.Name x p) (e::es) [] pos) (uE r t):=(pB hc hg hm hv ha hn jM he dR).imp rK
end
end L2
namespace L2
open PySem PySem.Spec PyProof.Rows
section
variable {Z:DC} {X:Cx}
def Ht:ik:=λx y P=>match x,y with
 | .int i, .int j=>P (.int (i+j))
 | .lst a, .lst b=>a.length+b.length≤sizeLine∧P (.lst (a++b))
 | .tup a, .tup b=>a≠ []∧a.length+b.length≤sizeLine∧b≠ []∧P (.tup (a++b))
 |_,_=>False
def dI(c:Int→Int→Prop)(g:Int→Int→Int):ik:=λx y P=>match x,y with
 | .int i, .int j=>c i j∧P (.int (g i j))
 |_,_=>False
def Ta:ik:=dI (λ_ j=>0<j) λi j=>i%j
theorem LV{f:Value→Value→Sem Value}{c:Int→Int→Prop}{g:Int→Int→Int}(h:OpR X f (rI c λi j=> .int (g i j))):OpR X f (cv Z (dI c g)):=by
 refine h.imp ?_;rintro x y H Q ⟨G,a,b,P,s,da,db,hr,q⟩;unfold dI at hr
 split at hr
 ·exact ⟨_,_,da.ofInt,db.ofInt,hr.1,q _ hr.2 _ G H (.refl s) (.int _)⟩
 ·exact hr.elim
theorem ED:OpR X (binaryOp .Mod) (cv Z Ta):=LV nK
theorem qo(e:X.K=Z.K:=by rfl):OpR X (binaryOp .Add) (cv Z Ht):=by
 refine (gF.or (zw.or (JV))).imp ?_;rintro x y H Q ⟨G,a,b,P,s,da,db,hr,q⟩;unfold Ht at hr
 split at hr
 ·exact .inl ⟨_,_,da.ofInt,db.ofInt,q _ hr _ G H (.refl s) (.int _)⟩
 ·obtain ⟨a1,xs1,rfl,h1,e1⟩:=da.rP
  obtain ⟨a2,xs2,rfl,h2,e2⟩:=db.rP;obtain ⟨hz,hp⟩:=hr;refine .inr (.inl ⟨_,_,_,_,rfl,rfl,s _ _ h1,s _ _ h2,by rw [e1.length,e2.length];exact hz,λp hn=>?_⟩)
  exact q _ hp _ _ _ (.new s hn) (.lst aa ((e1.append e2).mono (av (s.free hn) _)))
 ·obtain ⟨a1,xs1,rfl,h1,e1⟩:=da.rQ
  obtain ⟨a2,xs2,rfl,h2,e2⟩:=db.rQ;obtain ⟨h0,hz,ZY,hp⟩:=hr;refine .inr (.inr ⟨_,_,_,_,rfl,rfl,dX.of (s _ _ h1),dX.of (s _ _ h2),?_,by rw [e1.length,e2.length];exact hz,?_⟩)
  ·rintro rfl;cases e1;exact h0 rfl
  ·refine ⟨?_,λ_ p hn=>q _ hp _ _ _ (.new s hn) (.tup aa ((e1.append e2).mono (av (s.free hn) _)))⟩
   rintro rfl;cases e2;exact (ZY rfl).elim
 ·exact hr.elim
mutual
def D.py:D→Option PyData
 | .aM=>some .none
 | .bl b=>some (.bool b)
 | .int i=>some (.int i)
 | .str x=>some (.str x)
 | .lst l=>(iA l).map PyData.list
 | .tup l=>(iA l).map PyData.tuple
 | .km _=>none
 | .rng _ _=>none
 | .obj _=>none
 | .eV _=>none
 | .set _ _=>none
 | .x _=>none
def iA:List D→Option (List PyData)
 | []=>some []
 |d::ds=>(D.py d).bind λa=>(iA ds).map λas=>a::as
end
mutual
theorem Dv.dp{K:PySem.W.Frag}{G:Hp}:∀{v:V}{d:D}{e:PyData},Dv Z G v d→d.py=some e→Dp K G v e
 |_,_,_, .aM,h=>by simp [D.py] at h;subst h;exact .aM
 |_,_,_, .bl b,h=>by simp [D.py] at h;subst h;exact .bl b
 |_,_,_, .int i,h=>by simp [D.py] at h;subst h;exact .int i
 |_,_,_, .str x k,h=>by simp [D.py] at h;subst h;exact .str x k
 |_,_,_, .lst a as,h=>by
  simp [D.py] at h;obtain ⟨l,h1,rfl⟩:=h;exact .lst (aH.of a) (ar.dp as h1)
 |_,_,_, .tup a as,h=>by
  simp [D.py] at h;obtain ⟨l,h1,rfl⟩:=h;exact .tup (dX.of a) (ar.dp as h1)
 |_,_,_, .km _ _,h=>by simp [D.py] at h
 |_,_,_, .rng _,h=>by simp [D.py] at h
 |_,_,_, .obj _,h=>by simp [D.py] at h
 |_,_,_, .eV _ _ _ _ _,h=>by simp [D.py] at h
 |_,_,_, .set _,h=>by simp [D.py] at h
 |_,_,_, .x _ _,h=>by simp [D.py] at h
theorem ar.dp{K:PySem.W.Frag}{G:Hp}:∀{vs:List V}{ds:List D}{es:List PyData},ar Z G vs ds→iA ds=some es→eJ K G vs es
 |_,_,_, .nil,h=>by simp [iA] at h;subst h;exact .nil
 |_,_,_, .cons (d:=d) (ds:=ds) a as,h=>by
  rw [iA] at h;cases h1:d.py with
  |none=>rw [h1] at h;cases h
  |some x=>
   rw [h1] at h;cases h2:iA ds with
   |none=>rw [h2] at h;cases h
   |some y=>rw [h2] at h;cases h;exact .cons (Dv.dp a h1) (ar.dp as h2)
end
theorem dX.mono{K:PySem.W.Frag}{H H':Hp}{a:Addr}{xs:List V}(s:aC H H')(h:dX K H a xs):dX K H' a xs:=by
 rcases h with (h| ⟨o,h⟩) |h
 ·exact .inl (.inl (s _ _ h))
 ·exact .inl (.inr ⟨o,s _ _ h⟩)
 ·exact .inr h
mutual
theorem Dp.mono{K:PySem.W.Frag}{G H:Hp}(s:aC G H):∀{v:V}{d:PyData},Dp K G v d→Dp K H v d
 |_,_, .aM=> .aM
 |_,_, .bl b=> .bl b
 |_,_, .int i=> .int i
 |_,_, .str x h=> .str x h
 |_,_, .lst h a=> .lst (h.mono s) (eJ.mono s a)
 |_,_, .tup h a=> .tup (h.mono s) (eJ.mono s a)
theorem eJ.mono{K:PySem.W.Frag}{G H:Hp}(s:aC G H):∀{vs:List V}{ds:List PyData},eJ K G vs ds→eJ K H vs ds
 |_,_, .nil=> .nil
 |_,_, .cons a as=> .cons (Dp.mono s a) (eJ.mono s as)
end
def NA(neg:Bool):ik:=λx y P=>∃a b,x.py=some a∧y.py=some b∧a.depth≤64∧P (.bl (if neg then !PyData.eqv a b else PyData.eqv a b))
abbrev Hw:ik:=NA false
abbrev tO:ik:=NA true
theorem zo(hu:X.A.units+64<cLine):OpR X (compareOp .Eq) (cv Z Hw):=by
 refine (Mb hu).imp ?_;rintro x y H Q ⟨G,a,b,P,s,da,db,⟨c,d,h1,h2,h3,hp⟩,q⟩;exact ⟨c,d,(da.dp h1).mono s,(db.dp h2).mono s,h3,q _ hp _ G H (.refl s) (.bl _)⟩
theorem kQ(hu:X.A.units+64<cLine):OpR X (compareOp .NotEq) (cv Z tO):=by
 refine (zx hu).imp ?_;rintro x y H Q ⟨G,a,b,P,s,da,db,⟨c,d,h1,h2,h3,hp⟩,q⟩;exact ⟨c,d,(da.dp h1).mono s,(db.dp h2).mono s,h3,q _ hp _ G H (.refl s) (.bl _)⟩
theorem Hx{i j:Int}{P:D→Prop}(h:P (.bl (decide (i=j)))):Hw (.int i) (.int j) P:=⟨.int i, .int j,rfl,rfl,by simp [PyData.depth],by
 have:PyData.eqv (.int i) (.int j)=decide (i=j):=by
  rw [PyData.eqv]
  by_cases z:i=j<;>simp [z]
 simpa [this] using h⟩
theorem Ah{i j:Int}{P:D→Prop}(h:P (.bl (!decide (i=j)))):tO (.int i) (.int j) P:=⟨.int i, .int j,rfl,rfl,by simp [PyData.depth],by
 have:PyData.eqv (.int i) (.int j)=decide (i=j):=by
  rw [PyData.eqv]
  by_cases z:i=j<;>simp [z]
 simpa [this] using h⟩
def Eh(p:Int→Int→Bool):ik:=λx y P=>match x,y with
 | .int i, .int j=>P (.bl (p i j))
 |_,_=>False
theorem AX{f:Value→Value→Sem Value}{p:Int→Int→Bool}(h:OpR X f (Dq λi j=> .bl (p i j))):OpR X f (cv Z (Eh p)):=by
 refine h.imp ?_;rintro x y H Q ⟨G,a,b,P,s,da,db,hr,q⟩;unfold Eh at hr
 split at hr
 ·exact ⟨_,_,da.ofInt,db.ofInt,q _ hr _ G H (.refl s) (.bl _)⟩
 ·exact hr.elim
end
end L2
namespace L2
open PySem PySem.Spec PyProof.Rows
section
variable {Z:DC} {X:Cx}
abbrev Zn:ik:=Eh λi j=>decide (i<j)
abbrev Zm:ik:=Eh λi j=>decide (i≤j)
theorem CZ:OpR X (compareOp .Lt) (cv Z Zn):=AX C5
theorem vo:OpR X (compareOp .LtE) (cv Z Zm):=AX QX
def CL:D→Bool
 | .aM=>true
 |_=>false
def Hz(neg:Bool):ik:=λx y P=>match y with
 | .aM=>P (.bl (if neg then !CL x else CL x))
 |_=>False
theorem xO{G:Hp}{v:V}{d:D}(h:Dv Z G v d):decide (v= .aM)=CL d:=by cases h<;>rfl
theorem zp:OpR X (compareOp .Is) (cv Z (Hz false)):=by
 refine Mc.imp ?_;rintro x y H Q ⟨G,a,b,P,s,da,db,hr,q⟩;cases db<;>first|exact hr.elim|skip
 exact ⟨rfl,by rw [xO da];exact q _ hr _ G H (.refl s) (.bl _)⟩
theorem ya:OpR X (compareOp .IsNot) (cv Z (Hz true)):=by
 refine JY.imp ?_;rintro x y H Q ⟨G,a,b,P,s,da,db,hr,q⟩;cases db<;>first|exact hr.elim|skip
 exact ⟨rfl,by rw [xO da];exact q _ hr _ G H (.refl s) (.bl _)⟩
def iq:D→Bool
 | .aM=>true
 | .bl _=>true
 | .int _=>true
 | .str _=>true
 |_=>false
def jC:D→D→Bool
 | .aM, .aM=>true
 | .bl a, .bl b=>a==b
 | .bl a, .int b=>(if a then 1 else 0)==b
 | .int a, .bl b=>a==(if b then 1 else 0)
 | .int a, .int b=>a==b
 | .str a, .str b=>a==b
 |_,_=>false
def inD(x:D)(l:List D):Bool:=l.any λy=>jC y x
theorem p8{G:Hp}{v:V}{d:D}(h:Dv Z G v d):gz v=iq d:=by cases h<;>rfl
theorem jD{G:Hp}:∀{vs:List V}{ds:List D},ar Z G vs ds→vs.all gz=ds.all iq
 |_,_, .nil=>rfl
 |_,_, .cons a as=>by rw [List.all_cons,List.all_cons,p8 a,jD as]
theorem yM{G:Hp}{v u:V}{d e:D}(h:Dv Z G v d)(k:Dv Z G u e):oT v u=jC d e:=by cases h<;>cases k<;>rfl
theorem CI{G:Hp}{v:V}{d:D}(h:Dv Z G v d):∀{vs:List V}{ds:List D},ar Z G vs ds→CH v vs=inD d ds
 |_,_, .nil=>rfl
 |_,_, .cons a as=>by
  unfold CH inD;rw [List.any_cons,List.any_cons,yM a h];exact congrArg _ (CI h as)
def K4(neg:Bool):ik:=λx y P=>match y with
 | .lst l=>iq x=true∧l.all iq=true∧P (.bl (if neg then !inD x l else inD x l))
 | .tup l=>iq x=true∧l.all iq=true∧P (.bl (if neg then !inD x l else inD x l))
 |_=>False
theorem Kc{neg:Bool}:∀x y H Q,cv Z (K4 neg) x y H Q→Mu X.K neg x y H Q:=by
 rintro x y H Q ⟨G,a,b,P,s,da,db,hr,q⟩;cases db<;>first|exact hr.elim|skip
 ·rename_i p xs ds h e
  obtain ⟨h1,h2,hp⟩:=hr;refine ⟨p,xs,rfl, .inl (aH.of (s _ _ h)),by rw [p8 da];exact h1,by rw [jD e];exact h2,?_⟩
  rw [CI da e];exact q _ hp _ G H (.refl s) (.bl _)
 ·rename_i p xs ds h e
  obtain ⟨h1,h2,hp⟩:=hr;refine ⟨p,xs,rfl, .inr (dX.of (s _ _ h)),by rw [p8 da];exact h1,by rw [jD e];exact h2,?_⟩
  rw [CI da e];exact q _ hp _ G H (.refl s) (.bl _)
theorem JJ:OpR X (compareOp .In) (cv Z (K4 false)):=C4.imp Kc
theorem Gk:OpR X (compareOp .NotIn) (cv Z (K4 true)):=oq.imp Kc
def S9:ik:=λx y P=>match x,y with
 | .lst l, .int i=>∃d,fB l i=some d∧P d
 | .tup l, .int i=>∃d,fB l i=some d∧P d
 | .km l, .int i=>∃n,fB l i=some n∧P (.int n)
 |_,_=>False
theorem Ee{G:Hp}{vs:List V}{ds:List D}{i:Int}{d:D}(h:ar Z G vs ds)(e:fB ds i=some d):∃v,fB vs i=some v∧Dv Z G v d:=by
 unfold fB at e ⊢;rw [h.length];cases z:iw ds.length i with
 |none=>rw [z] at e;cases e
 |some j=>rw [z] at e;exact h.get e
theorem Hf{α β:Type}(f:α→β)(l:List α)(i:Int):fB (l.map f) i=(fB l i).map f:=by
 unfold fB;rw [aN];cases iw l.length i with
 |none=>rfl
 |some j=>show (l.map f)[j]? =_;rw [bW];rfl
variable {a b c e:Expr} {ta tb tc te:aP} {pos:Pos}
theorem rj(ha:DE Z X a ta)(hb:DE Z X b tb)(eK:X.K=Z.K:=by rfl)(hs:lQ b:=by exact λ_ _=>rfl):DE Z X (.Subscript a b pos) (Al S9 ta tb):=by
 refine (b9 (bx.or Ez) ha hb hs).imp λσ H Q h=>?_;obtain ⟨G,ρ,P,s,e,h,q⟩:=vd σ H Q h;refine ⟨G,ρ,P,s,e,h,λd hd v G1 H1 x1 dv=>?_⟩;obtain ⟨G',aD,P',s',e',h',q'⟩:=q d hd v G1 H1 x1 dv;refine ⟨G',aD,P',s',e',h',λd2 hd2 v2 G2 H2 x2 Ci=>?_⟩;obtain ⟨G,a,b,P,s,da,db,hr,q⟩:=q' d2 hd2 v2 G2 H2 x2 Ci;unfold S9 at hr
 split at hr
 ·obtain ⟨d,h1,hp⟩:=hr
  obtain ⟨_,_,rfl,h,e⟩:=da.rP;obtain ⟨v,hv,dv⟩:=Ee e h1;exact .inl ⟨_,_,_,v,rfl,db.ofInt,aH.of (s _ _ h),hv,q _ hp _ G _ (.refl s) dv⟩
 ·obtain ⟨d,h1,hp⟩:=hr
  obtain ⟨_,_,rfl,h,e⟩:=da.rQ;obtain ⟨v,hv,dv⟩:=Ee e h1;exact .inr ⟨_,_,_,v,rfl,db.ofInt,dX.of (s _ _ h),hv,q _ hp _ G _ (.refl s) dv⟩
 rotate_left
 ·exact hr.elim
 ·obtain ⟨d,h1,hp⟩:=hr
  obtain ⟨_,rfl,h,_⟩:=da.zq;refine .inl ⟨_,_,_, .int d,rfl,db.ofInt,by rw [eK];exact h.mono s,by rw [Hf,h1];rfl,q _ hp _ G _ (.refl s) (.int d)⟩
def cutD{α:Type}(xs:List α)(lo hi:Option Int):List α:=(xs.drop (HT.bK xs.length 0 lo)).take (HT.bK xs.length xs.length hi-HT.bK xs.length 0 lo)
theorem Eg{G:Hp}{vs:List V}{ds:List D}(h:ar Z G vs ds)(lo hi:Option Int):ar Z G (gK vs lo hi) (cutD ds lo hi):=by
 unfold gK cutD;rw [h.length];exact (h.drop _).take _
theorem Fm{α β:Type}(f:α→β)(l:List α)(lo hi:Option Int):cutD (l.map f) lo hi=(cutD l lo hi).map f:=by
 unfold cutD;rw [aN,List.map_take,List.map_drop]
abbrev BR:=DN→(Option Int→Prop)→Prop
def HD:BR:=λ_ P=>P none
def Pg(t:aP):BR:=λρ P=>t ρ λd=>match d with
 | .int i=>P (some i)
 |_=>False
def QF(Z:DC)(t:BR):TO:=λσ H Q=>∃(G:Hp)(ρ:DN)(P:Option Int→Prop),aC G H∧dA Z G σ ρ∧t ρ P∧∀o,P o→∀G' H',Ext G H G' H'→Q o H'
def DO(Z:DC)(X:Cx)(e:Option Expr)(t:BR):Prop:=PO X e (QF Z t)
theorem PO.imp{e:Option Expr}{t t':TO}(h:PO X e t)(f:∀σ H Q,t' σ H Q→t σ H Q):PO X e t':=λpins s σ H Q I q=>h pins s σ H Q I (f _ _ _ q)
theorem p4:DO Z X none HD:=vB.imp λσ H Q ⟨G,ρ,P,s,e,p,q⟩=>q _ p G H (.refl s)
theorem p5(h:DE Z X e te):DO Z X (some e) (Pg te):=by
 refine (mE h).imp ?_;rintro σ H Q ⟨G,ρ,P,s,e,h,q⟩;refine ⟨G,ρ,_,s,e,h,λd hd v G1 H1 x1 dv=>?_⟩;cases dv<;>first|exact hd.elim|skip
 exact ⟨_,rfl,q _ hd G1 H1 x1⟩
def Zp(te:aP)(tl th:BR):aP:=λρ P=>te ρ λx=>tl ρ λlo=>th ρ λhi=>match x with
 | .lst l=>P (.lst (cutD l lo hi))
 | .tup l=>¬(HT.bK l.length 0 lo=0∧HT.bK l.length l.length hi=l.length)∧P (.tup (cutD l lo hi))
 | .km l=>P (.lst ((cutD l lo hi).map D.int))
 |_=>False
variable {lo hi:Option Expr} {tl th:BR} {p2:Pos}
theorem ni(he:DE Z X e te)(hl:DO Z X lo tl)(hu:DO Z X hi th)(eK:X.K=Z.K:=by rfl):DE Z X (.Subscript e (.Slice lo hi none p2) pos) (Zp te tl th):=by
 refine (nN (qI.or MC) he hl hu).imp ?_;rintro σ H Q ⟨G,ρ,P,s,en,h,q⟩;refine ⟨G,ρ,_,s,en,h,λd hd v G1 H1 x1 dv=>?_⟩;refine ⟨G1,ρ,_,x1.sub,en.mono x1.gg,hd,λl hl G2 H2 x2=>?_⟩;refine ⟨G2,ρ,_,x2.sub,(en.mono x1.gg).mono x2.gg,hl,λu hu G3 H3 x3=>?_⟩;have x:=(x1.trans x2).trans x3;have dv:=(dv.mono x2.gg).mono x3.gg;cases dv<;>first|exact hu.elim|skip
 ·rename_i h e
  exact .inl ⟨_,_,rfl,aH.of (x3.sub _ _ h),λp hn=>q _ hu _ _ _ (x.trans (.new x3.sub hn)) (.lst aa ((Eg e l u).mono (av (x3.sub.free hn) _)))⟩
 ·rename_i h e
  refine .inr ⟨_,_,rfl,dX.of (x3.sub _ _ h),by rw [e.length];exact hu.1,λp hn=>q _ hu.2 _ _ _ (x.trans (.new x3.sub hn)) (.tup aa ((Eg e l u).mono (av (x3.sub.free hn) _)))⟩
 ·rename_i h _
  refine .inl ⟨_,_,rfl,by rw [eK];exact h.mono x3.sub,λp hn=>q _ hu _ _ _ (x.trans (.new x3.sub hn)) (.lst aa ?_)⟩
  show ar Z _ (cutD _ l u) _;rw [Fm];exact .ints _
def Hh:eW:=λds P=>match ds with
 | [.lst l]=>P (.int l.length)
 | [.tup l]=>P (.int l.length)
 | [.km l]=>P (.int l.length)
 |_=>False
theorem kB(eK:X.K=Z.K:=by rfl):bZ X (.builtin "len") (jj Z Hh):=by
 refine cc.imp ?_;rintro xs H Q ⟨G,ds,P,s,dv,hr,q⟩;unfold Hh at hr
 split at hr
 ·obtain ⟨_,rfl,a⟩:=dv.ofOne
  obtain ⟨_,_,rfl,h,e⟩:=a.rP;exact ⟨_,_,rfl, .inl (aH.of (s _ _ h)),by rw [e.length];exact q _ hr _ G H (.refl s) (.int _)⟩
 ·obtain ⟨_,rfl,a⟩:=dv.ofOne
  obtain ⟨_,_,rfl,h,e⟩:=a.rQ;exact ⟨_,_,rfl, .inr (dX.of (s _ _ h)),by rw [e.length];exact q _ hr _ G H (.refl s) (.int _)⟩
 ·obtain ⟨_,rfl,a⟩:=dv.ofOne
  obtain ⟨_,rfl,h,_⟩:=a.zq;exact ⟨_,_,rfl, .inl (by rw [eK];exact h.mono s),by rw [aN];exact q _ hr _ G H (.refl s) (.int _)⟩
 ·exact hr.elim
def Hj:eW:=λds P=>match ds with
 | [.lst l]=>P (.lst l)
 | [.tup l]=>P (.lst l)
 |_=>False
theorem uz:bZ X (.type "list") (jj Z Hj):=by
 refine oh.imp ?_;rintro xs H Q ⟨G,ds,P,s,dv,hr,q⟩;unfold Hj at hr
 split at hr
 ·obtain ⟨_,rfl,a⟩:=dv.ofOne
  obtain ⟨_,_,rfl,h,e⟩:=a.rP;exact ⟨_,_,rfl, .inl (aH.of (s _ _ h)),λp hn=>q _ hr _ _ _ (.new s hn) (.lst aa (e.mono (av (s.free hn) _)))⟩
 ·obtain ⟨_,rfl,a⟩:=dv.ofOne
  obtain ⟨_,_,rfl,h,e⟩:=a.rQ;exact ⟨_,_,rfl, .inr (dX.of (s _ _ h)),λp hn=>q _ hr _ _ _ (.new s hn) (.lst aa (e.mono (av (s.free hn) _)))⟩
 ·exact hr.elim
def aad:eW:=λds P=>match ds with
 | [.int i]=>P (.int i)
 | [.bl b]=>P (.int (if b then 1 else 0))
 |_=>False
def Vl:String→D→Bool
 |"int", .int _=>true
 |"int", .bl _=>true
 |"bool", .bl _=>true
 |"list", .lst _=>true
 |"tuple", .tup _=>true
 |_,_=>false
def QV(n:String):Bool:=n=="int"||n=="bool"||n=="list"||n=="tuple"
def Oq:D→Bool
 | .aM=>true
 | .bl _=>true
 | .int _=>true
 | .str _=>true
 | .lst _=>true
 | .tup _=>true
 |_=>false
def S8(n:String)(t:aP):aP:=λρ P=>t ρ λd=>Oq d=true∧P (.bl (Vl n d))
theorem LP{K:PySem.W.Frag}{H:Hp}{v:V}{d:D}{n:String}(hn:QV n=true)(hd:Oq d=true)(h:Dv Z H v d):∃t,jb K H v t∧PySem.W.kitOne K t (.type n)=some (Vl n d):=by
 unfold QV at hn;rw [Bool.or_eq_true,Bool.or_eq_true,Bool.or_eq_true,beq_iff_eq,beq_iff_eq,beq_iff_eq,beq_iff_eq] at hn;cases h with
 |aM=>refine ⟨_, .aM,?_⟩;rcases hn with ((rfl|rfl) |rfl) |rfl<;>kernel_rfl
 |bl b=>refine ⟨_, .bl b,?_⟩;rcases hn with ((rfl|rfl) |rfl) |rfl<;>kernel_rfl
 |int b=>refine ⟨_, .int b,?_⟩;rcases hn with ((rfl|rfl) |rfl) |rfl<;>kernel_rfl
 |str b=>refine ⟨_, .str b,?_⟩;rcases hn with ((rfl|rfl) |rfl) |rfl<;>kernel_rfl
 |lst h a=>refine ⟨_, .lst h,?_⟩;rcases hn with ((rfl|rfl) |rfl) |rfl<;>kernel_rfl
 |tup h a=>refine ⟨_, .tup h,?_⟩;rcases hn with ((rfl|rfl) |rfl) |rfl<;>kernel_rfl
 |_=>cases hd
end
section
variable {Z:DC} {X:Cx} {a b c e:Expr} {ta tb tc te:aP} {pos:Pos}
theorem Ej(n:String){x:Str}{p p':Pos}(ha:DE Z X a ta)(hg:Gl X "isinstance")(hm:X.mg "isinstance"=none)(IG:Gl X x)(AG:X.mg x=none)(hv:bootBuiltins x=some (.type n))(ok:QV n=true:=by decide)
  (hn:x≠"__name__":=by decide) (hd:(x==("__debug__":Str))=false:=by decide) (hs:starEach [a, .Name x p'] X.env=(false,eval a X.env)::starEach [.Name x p'] X.env:=by rfl)
  (dR:(backTo pos (starEach [.Name x p'] X.env)).any (·.1)=false:=by rfl) (mv:starEach [.Name x p'] X.env=(false,eval (.Name x p') X.env)::starEach [] X.env:=by rfl):
  DE Z X (.Call (.Name "isinstance" p) [a, .Name x p'] [] pos) (S8 n ta):=by
 have hb:PE X (.Name x p') (tC (.ty n)):=A9 IG AG hv rfl hn hd;refine (b8 pS hg hm (by decide+kernel) (ae ha (ae hb aq mv) hs) (by decide) (by decide) hs dR).imp ?_
 rintro σ H Q ⟨G,ρ,P,s,e,h,q⟩;refine ⟨G,ρ,_,s,e,h,?_⟩;rintro d ⟨hk,hp⟩ v G1 H1 x1 dv;obtain ⟨t,ht,gB⟩:=LP (K:=X.K) (H:=H1) ok hk (dv.mono x1.sub);exact ⟨v,n,t,_,rfl,ht,gB,q _ hp _ G1 H1 x1 (.bl _)⟩
def pj(Z:DC)(g:dW):TG:=λv σ H Q=>∃(G:Hp)(ρ:DN)(d:D)(P:DN→Prop),aC G H∧dA Z G σ ρ∧Dv Z G v d∧g d ρ P∧∀aD,P aD→∀ay,dA Z G ay aD→Q ay H
def DG(Z:DC)(X:Cx)(e:Expr)(g:dW):Prop:=PG X e (pj Z g)
theorem PG.imp{e:Expr}{t t':TG}(h:PG X e t)(f:∀v σ H Q,t' v σ H Q→t v σ H Q):PG X e t':=λpins s σ H v u Q I r q=>h pins s σ H v u Q I r (f _ _ _ _ q)
def nj(i:Nat):dW:=λd ρ P=>P (ρ.set i (some d))
theorem bb(i:Nat){x:Str}(hN:X.N.Nodup)(hi:X.N[i]? =some x:=by rfl)(hx:Loc X.env.scope x:=by exact Or.inl rfl)(hf:X.fn x=true∨X.env.scope.names.lookup x=some .local:=by first|exact .inl rfl|exact .inr rfl|assumption):DG Z X (.Name x pos) (nj i):=
 (bT hN hi hx hf).imp λv σ H Q ⟨G,ρ,d,P,s,e,dv,h,q⟩=>q _ h _ (e.set dv)
abbrev lg:=List D→DN→(DN→Prop)→Prop
def LU(Z:DC)(g:lg):wJ:=λvs σ H Q=>∃(G:Hp)(ρ:DN)(ds:List D)(P:DN→Prop),aC G H∧dA Z G σ ρ∧ar Z G vs ds∧g ds ρ P∧∀aD,P aD→∀ay,dA Z G ay aD→Q ay H
def KO(Z:DC)(X:Cx)(es:List Expr)(g:lg):Prop:=yB X es (LU Z g)
theorem yB.imp{es:List Expr}{t t':wJ}(h:yB X es t)(f:∀v σ H Q,t' v σ H Q→t v σ H Q):yB X es t':=λpins s σ H v u Q I r q=>h pins s σ H v u Q I r (f _ _ _ _ q)
def HP:lg:=λds ρ P=>ds= []∧P ρ
def Em(g:dW)(gs:lg):lg:=λds ρ P=>match ds with
 |d::r=>g d ρ λaD=>gs r aD P
 | []=>False
theorem pZ:KO Z X [] HP:=kg.imp λv σ H Q ⟨G,ρ,ds,P,s,e,dv,⟨h,p⟩,q⟩=>by
 subst h;cases dv;exact ⟨rfl,q _ p _ e⟩
theorem f6{es:List Expr}{g:dW}{gs:lg}(h1:DG Z X e g)(h2:KO Z X es gs)(hs:(assignEach (e::es) X.env).map (·.2)=assign e X.env::(assignEach es X.env).map (·.2):=by rfl):KO Z X (e::es) (Em g gs):=by
 refine (eG h1 h2 hs).imp ?_;rintro v σ H Q ⟨G,ρ,ds,P,s,e,dv,h,q⟩;cases dv with
 |nil=>exact h.elim
 |cons a as=>
  refine ⟨_,_,rfl,G,ρ,_,_,s,e,a,h,λaD hp ay e'=>?_⟩;exact ⟨G,aD,_,P,s,e',as,hp,q⟩
def HQ(n:Nat)(gs:lg):dW:=λd ρ P=>match d with
 | .tup l=>l.length=n∧gs l ρ P
 |_=>False
theorem t4(n:Nat){es:List Expr}{k:Nat}{gs:lg}(hc:X.calm=true)(h:KO Z X es gs)(hn:(assignEach es X.env).length=n:=by rfl)(y4:(assignEach es X.env).findIdx? (·.1)=none:=by rfl):DG Z X (.Tuple es k pos) (HQ n gs):=by
 refine (nO hc h hn y4).imp ?_;rintro v σ H Q ⟨G,ρ,d,P,s,e,dv,h,q⟩;cases dv<;>first|exact h.elim|skip
 rename_i a xs ds ha es
 exact ⟨a,xs,rfl,dX.of (s _ _ ha),by rw [es.length];exact h.1,G,ρ,_,P,s,e,es,h.2,q⟩
def ui(Z:DC)(G:Hp)(J:It)(ds:List D):Prop:=∀G2 H2,aC G G2→aC G2 H2→∀i:Nat,(i<ds.length→J.go i H2)∧(ds.length≤i→J.stop i H2)∧
 ∀x H',i<ds.length→J.yld i H2 x H'→∃G3 d,Ext G2 H2 G3 H'∧ds[i]? =some d∧Dv Z G3 x d
def rL(Z:DC)(wi:i9):TI:=λσ H R=>∃(G:Hp)(ρ:DN)(P:List D→Prop),aC G H∧dA Z G σ ρ∧wi ρ P∧∀ds,P ds→∀J G' H',Ext G H G' H'→ui Z G' J ds→R J H'
def DI(Z:DC)(X:Cx)(tg e:Expr)(wi:i9):Prop:=PI X tg e (rL Z wi)
theorem PI.imp{tg e:Expr}{t t':TI}(h:PI X tg e t)(f:∀σ H Q,t' σ H Q→t σ H Q):PI X tg e t':=λpins s σ H Q I q=>h pins s σ H Q I (f _ _ _ q)
def Pm(t:aP):i9:=λρ P=>t ρ λd=>match d with
 | .lst l=>P l
 |_=>False
theorem Ji{K:PySem.W.Frag}{G:Hp}{a:Addr}{xs:List V}{ds:List D}(h:G a=some (.lst xs))(e:ar Z G xs ds):ui Z G (Fg K a) ds:=by
 intro G2 H2 s1 s2 i;have h2:=aH.of (K:=K) (s2 _ _ (s1 _ _ h));have l:=e.length;refine ⟨λhi=>⟨xs,xs[i],h2,dh (by omega)⟩,λhi=>⟨xs,h2,by omega⟩,?_⟩
 rintro x H' hi ⟨rfl,hx⟩;obtain ⟨d,hd,dv⟩:=e.Et (hx _ h2);exact ⟨G2,d, .refl s2,hd,dv.mono s1⟩
theorem bw{tg:Expr}(h:DE Z X e te):DI Z X tg e (Pm te):=by
 refine (kh h).imp ?_;rintro σ H Q ⟨G,ρ,P,s,en,h,q⟩;refine ⟨G,ρ,_,s,en,h,λd hd v G1 H1 x1 dv=>?_⟩;cases dv<;>first|exact hd.elim|skip
 rename_i ha e
 exact ⟨_,rfl,⟨_,aH.of (x1.sub _ _ ha)⟩,q _ hd _ G1 H1 x1 (Ji ha e)⟩
def dG(lo:Int)(n:Nat):List D:=(List.range n).map λ(k:Nat)=>D.int (lo+(k:Int))
theorem sR{lo:Int}{n i:Nat}(h:i<n):(dG lo n)[i]? =some (.int (lo+i)):=by
 unfold dG;rw [bW,tD h];rfl
theorem F5{G:Hp}(lo:Int)(n:Nat):ui Z G (z0 lo n) (dG lo n):=by
 intro G2 H2 s1 s2 i;have l:(dG lo n).length=n:=by unfold dG;simp
 rw [l];refine ⟨λhi=>hi,λhi=>hi,?_⟩;rintro x H' hi ⟨rfl,rfl⟩;exact ⟨G2,_, .refl s2,sR hi, .int _⟩
def TM(t:i8):i9:=λρ P=>t ρ λds=>match ds with
 | [.int j]=>(-(2^62)≤j∧j<2^62)∧P (dG 0 j.toNat)
 |_=>False
variable {t:i8}
def eM(l:List D):List D:=l.mapIdx λi x=> .tup [.int (i:Int),x]
def Lg(t:i8):i9:=λρ P=>t ρ λds=>match ds with
 | [.lst l]=>P (eM l)
 |_=>False
theorem Jh{K:PySem.W.Frag}{G:Hp}{a:Addr}{xs:List V}{ds:List D}(h:G a=some (.lst xs))(e:ar Z G xs ds):ui Z G (Ff K a) (eM ds):=by
 intro G2 H2 s1 s2 i;have h2:=aH.of (K:=K) (s2 _ _ (s1 _ _ h));have l:=e.length;rw [show (eM ds).length=ds.length by unfold eM;simp]
 refine ⟨λhi=>⟨xs,xs[i],h2,dh (by omega)⟩,λhi=>⟨xs,h2,by omega⟩,?_⟩
 rintro x H' hi ⟨t,y,rfl,ht,rfl,hx⟩;obtain ⟨d,hd,dv⟩:=e.Et (hx _ h2);refine ⟨_,_, .new s2 ht,by unfold eM;rw [List.getElem?_mapIdx,hd];rfl,?_⟩
 exact .tup aa (.cons (.int _) (.cons ((dv.mono s1).mono (av (s2.free ht) _)) .nil))
theorem fE{p:Pos}{es:List Expr}{k1}{tp:Pos}(hg:Gl X "enumerate")(hm:X.mg "enumerate"=none)(ha:DA Z X [a] t)(hs:starEach [a] X.env= [(false,eval a X.env)]:=by rfl):DI Z X (.Tuple es k1 tp) (.Call (.Name "enumerate" p) [a] [] pos) (Lg t):=by
 refine (vA hg hm ha hs).imp ?_;rintro σ H Q ⟨G,ρ,P,s,en,h,q⟩;refine ⟨G,ρ,_,s,en,h,λds hd vs G1 H1 x1 dv=>?_⟩
 split at hd
 ·obtain ⟨_,rfl,a⟩:=dv.ofOne
  obtain ⟨_,_,rfl,h,e⟩:=a.rP;exact ⟨_,rfl,⟨_,x1.sub _ _ h⟩,q _ hd _ G1 H1 x1 (Jh h e)⟩
 ·exact hd.elim
def vQ(src:List (Option Nat))(ρ:DN):DN:=src.map λo=>o.bind λi=>(ρ[i]?).bind id
theorem dA.src{G:Hp}{σ:St}{ρ:DN}(e:dA Z G σ ρ)(src:List (Option Nat)):dA Z G (mR src σ) (vQ src ρ):=by
 refine ⟨by unfold mR vQ;simp,λi d h=>?_⟩
 unfold vQ at h;unfold mR;rw [bW] at h ⊢;cases k:src[i]? with
 |none=>rw [k] at h;cases h
 |some o=>
  rw [k] at h;cases o with
  |none=>cases h
  |some j=>
   have h':(ρ[j]?).bind id=some d:=Option.some.inj h;cases m:ρ[j]? with
   |none=>rw [m] at h';cases h'
   |some z=>
    rw [m] at h';have h2:z=some d:=h';subst h2;obtain ⟨v,hv,dv⟩:=e.at_ j d m;exact ⟨v,by show some ((σ[j]?).bind id)=_;rw [hv];rfl,dv⟩
def lcW(g:dW)(tt:eo)(te:aP):List D→DN→List D→(DN→List D→Prop)→Prop
 | [],ρ,acc,N=>N ρ acc
 |x::xs,ρ,acc,N=>g x ρ λbo=>tt bo λb=>if b=true then te bo λd=>acc.length<sizeLine∧lcW g tt te xs bo (acc++ [d]) N else lcW g tt te xs bo acc N
def Pd(wi:i9)(g:dW)(tt:eo)(te:aP)(src:List (Option Nat)):aP:=λρ P=>wi ρ λds=>lcW g tt te ds (vQ src ρ) [] λ_ out=>P (.lst out)
def om(g:dW)(tt:eo)(gJ:i9)(g1:dW)(e8:eo)(te:aP):List D→DN→List D→(List D→Prop)→Prop
 | [],_,acc,P=>P acc
 |x::xs,ρ,acc,P=>g x ρ λbo=>tt bo λb=>if b=true then gJ bo λes=>lcW g1 e8 te es bo acc λdQ uk=>om g tt gJ g1 e8 te xs dQ uk P else om g tt gJ g1 e8 te xs bo acc P
def NG(wi:i9)(g:dW)(tt:eo)(gJ:i9)(g1:dW)(e8:eo)(te:aP)(src:List (Option Nat)):aP:=λρ P=>wi ρ λds=>om g tt gJ g1 e8 te ds (vQ src ρ) [] λout=>P (.lst out)
def sv:eo:=λ_ P=>P true
def zZ(Z:DC)(X:Cx)(ifs:List Expr)(t:eo):Prop:=oM X ifs (liftT Z t)
theorem oM.imp{ifs:List Expr}{t t':TT}(h:oM X ifs t)(f:∀σ H Q,t' σ H Q→t σ H Q):oM X ifs t':=λpins s σ H Q I q=>h pins s σ H Q I (f _ _ _ q)
theorem cx:zZ Z X [] sv:=mG.imp λσ H Q ⟨G,ρ,P,s,e,p,q⟩=>q _ p G H (.refl s)
theorem Au{tA:eo}(h:DT Z X c tA):zZ Z X [c] tA:=Bd h
def CS(Z:DC)(G1 H1:Hp)(Ad:Addr)(ρ:DN)(acc:List D)(σ:St)(H:Hp):Prop:=
 ∃(G:Hp)(ys:List V),aC G1 G∧aC G H∧aC H1 H∧(∀b,H1 b≠none→G1 b=none→G b=none)∧G Ad=none∧H Ad=some (.lst ys)∧ar Z G ys acc∧dA Z G σ ρ
theorem fL{H H':Hp}(s:aC H H'){b:Addr}(h:H b≠none):H' b≠none:=λz=>by
 cases e:H b with
 |none=>exact h e
 |some o=>rw [s b o e] at z;cases z
theorem lV{α:Type}{l:List α}{i:Nat}{x:α}(h:l[i]? =some x):l.drop i=x::l.drop (i+1):=by
 obtain ⟨hi,e⟩:=cF.mp h;rw [qQ hi,e]
theorem xV{G1 H1:Hp}{Ad:Addr}{J:It}{ds:List D}{g:dW}{tt:eo}{te:aP}{N:DN→List D→Prop}(hA:H1 Ad=none)(G0:Hp)(it:ui Z G0 J ds)(i:Nat)(ρ:DN)(acc:List D)(σ:St)(H:Hp)
  (c:CS Z G1 H1 Ad ρ acc σ H) (hG:∀G,aC G1 G→aC G0 G) (hi:i<ds.length) (h:lcW g tt te (ds.drop i) ρ acc N):
  J.go i H∧∀x H3,J.yld i H x H3→pj Z g x σ H3 λcU H4=>liftT Z tt cU H4 λb H5=>
   if b=true then dM Z te cU H5 λv H6=>∃ys,H6 Ad=some (.lst ys)∧ys.length<sizeLine∧(∃aD jx,CS Z G1 H1 Ad aD jx cU (upd H6 Ad (.lst (ys++ [v])))∧lcW g tt te (ds.drop (i+1)) aD jx N)
   else ∃aD jx,CS Z G1 H1 Ad aD jx cU H5∧lcW g tt te (ds.drop (i+1)) aD jx N:=by
 obtain ⟨G2,ys,s1,s2,s3,off,gA,oY,ba,en⟩:=c;obtain ⟨go,_,yld⟩:=it G2 H (hG _ s1) s2 i;refine ⟨go hi,λx H3 y=>?_⟩;obtain ⟨G3,d,x3,hd,dv⟩:=yld x H3 hi y;rw [lV hd] at h;refine ⟨G3,ρ,d,_,x3.sub,en.mono x3.gg,dv,h,λbo h1 cU tP=>?_⟩;refine ⟨G3,bo,_,x3.sub,tP,h1,λb hb G5 H5 x5=>?_⟩;have mX:=x3.trans x5;have yb:∀{G uh:Hp},Ext G2 H G uh→G Ad=none:=λx=>x.off Ad (by rw [oY];exact λz=>nomatch z) gA
 have A6:∀{G uh:Hp},Ext G2 H G uh→∀b,H1 b≠none→G1 b=none→G b=none:=λx b h1 h2=>x.off b (fL s3 h1) (off b h1 h2);cases b with
 |false=>
  refine fw ⟨bo,acc,⟨G5,ys,s1.trans mX.gg,mX.sub,s3.trans mX.hh,A6 mX,yb mX,mX.hh _ _ oY,ba.mono mX.gg,tP.mono x5.gg⟩,?_⟩;simpa using hb
 |true=>
  refine f7 ⟨G5,bo,_,x5.sub,tP.mono x5.gg,(by simpa using hb),λd' j4 v G6 H6 x6 ZF=>?_⟩
  have x:=mX.trans x6;refine ⟨ys,x.hh _ _ oY,by rw [ba.length];exact j4.1,bo,_,⟨G6,ys++ [v],s1.trans x.gg,λb o e=>?_,λb o e=>?_,A6 x,yb x,aa,(ba.mono x.gg).snoc ZF,(tP.mono x5.gg).mono x6.gg⟩,j4.2⟩
  ·rw [ab (ah e (yb x))];exact x.sub _ _ e
  ·rw [ab (ah e hA)];exact (s3.trans x.hh) _ _ e
theorem CS.done{G H G1 H1 H2:Hp}{Ad:Addr}{ρ:DN}{acc:List D}{σ:St}(c:CS Z G1 H1 Ad ρ acc σ H2)(x1:Ext G H G1 H1)(hA:H1 Ad=none):∃G',Ext G H G' H2∧Dv Z G' (.ref Ad) (.lst acc):=by
 obtain ⟨G2,ys,s1,s2,s3,off,gA,oY,ba,en⟩:=c;refine ⟨upd G2 Ad (.lst ys),⟨(x1.gg.trans s1).trans (av gA _),λb o e=>?_,x1.hh.trans s3,λb hb hg=>?_⟩, .lst aa (ba.mono (av gA _))⟩
 ·by_cases z:b=Ad
  ·subst z;rw [aa] at e;cases e;exact oY
  ·rw [ab z] at e;exact s2 _ _ e
 ·have h1:=fL x1.hh hb
  rw [ab (λz=>h1 (by rw [z];exact hA))]
  exact off b h1 (x1.off b hb hg)
theorem CS.begin{G1 H1:Hp}{Ad:Addr}{ρ:DN}{σ:St}(s:aC G1 H1)(hA:H1 Ad=none)(en:dA Z G1 σ ρ):CS Z G1 H1 Ad ρ [] σ (upd H1 Ad (.lst [])):=
 ⟨G1,[], .refl _,λb o e=>by rw [ab (ah e (s.free hA))];exact s _ _ e,av hA _,λ_ _ h=>h,s.free hA,aa, .nil,en⟩
variable {tg iter elt:Expr} {ifs:List Expr} {scope:Scope} {NC:List Str} {src:List (Option Nat)} {wi:i9} {g:dW} {tt:eo}
theorem EB:∀σ H Q,dM Z (Pd wi g tt te src) σ H Q→Ky (rL Z wi) (pj Z g) (liftT Z tt) (dM Z te) src σ H Q:=by
 rintro σ H Q ⟨G,ρ,P,s,en,h,q⟩;refine ⟨G,ρ,_,s,en,h,λds hd J G1 H1 x1 it Ad hA=>?_⟩;refine ⟨λi m cD H2=>m=ds.length-i∧i≤ds.length∧∃dQ acc,CS Z G1 H1 Ad dQ acc cD H2∧lcW g tt te (ds.drop i) dQ acc λ_ out=>P (.lst out),⟨_,rfl,cS _,_,[], .begin x1.sub hA ((en.mono x1.gg).src src),hd⟩,?_⟩;rintro i m cD H2 ⟨rfl,hi,dQ,acc,c,hl⟩
 by_cases bG:i<ds.length
 ·obtain ⟨go,turn⟩:=xV hA G1 it i dQ acc cD H2 c (λ_ s=>s) bG hl
  exact .inr ⟨go,_,λay H' n=>⟨ds.length-(i+1),by omega,rfl,bG,n⟩,turn⟩
 ·have e:ds.drop i= []:=wy (by omega)
  rw [e] at hl;obtain ⟨G',x,dv⟩:=c.done x1 hA;obtain ⟨G2,ys,s1,s2,_⟩:=c;exact .inl ⟨(it G2 H2 s1 s2 i).2.1 (by omega),q _ hl _ G' H2 x dv⟩
theorem jf(hc:X.calm=true)(c:bp X scope)(fv:dj scope X.N src NC)(hi:DI Z X tg iter wi)
  (hg:∀ex s H,DG Z (cW X scope NC ex s H) tg g) (ht:∀ex s H,zZ Z (cW X scope NC ex s H) ifs tt) (he:∀ex s H,DE Z (cW X scope NC ex s H) elt te)
  (hs:∀x,foldedSetIterable iter X.env x=pure x:=by intro _;rfl):DE Z X (.ListComp elt [⟨tg,iter,ifs,0⟩] scope pos) (Pd wi g tt te src):=(C9 hc c fv hi hg ht he hs).imp EB
variable {t0 i0 t1 i1:Expr} {f0 f1:List Expr} {gJ:i9} {g1:dW} {e8:eo}
theorem Js:∀σ H Q,dM Z (NG wi g tt gJ g1 e8 te src) σ H Q→OA (rL Z wi) (pj Z g) (liftT Z tt) (rL Z gJ) (pj Z g1) (liftT Z e8) (dM Z te) src σ H Q:=by
 rintro σ H Q ⟨G,ρ,P,s,en,h,q⟩;refine ⟨G,ρ,_,s,en,h,λds hd J G1 H1 x1 it Ad hA=>?_⟩;refine ⟨λi m cD H2=>m=ds.length-i∧i≤ds.length∧∃dQ acc,CS Z G1 H1 Ad dQ acc cD H2∧om g tt gJ g1 e8 te (ds.drop i) dQ acc λout=>P (.lst out),⟨_,rfl,cS _,_,[], .begin x1.sub hA ((en.mono x1.gg).src src),hd⟩,?_⟩;rintro i m cD H2 ⟨rfl,hi,dQ,acc,c,hl⟩
 by_cases bG:i<ds.length
 ·have c0:=c
  obtain ⟨G2,ys,s1,s2,s3,off,gA,oY,ba,Pq⟩:=c;obtain ⟨go,_,yld⟩:=it G2 H2 s1 s2 i;refine .inr ⟨go bG,λay H'=>∃aD jx,CS Z G1 H1 Ad aD jx ay H'∧om g tt gJ g1 e8 te (ds.drop (i+1)) aD jx λout=>P (.lst out),λay H' n=>⟨ds.length-(i+1),by omega,rfl,bG,n⟩,λx H3 y=>?_⟩
  obtain ⟨G3,d,x3,IE,dv⟩:=yld x H3 bG y;rw [lV IE] at hl;refine ⟨G3,dQ,d,_,x3.sub,Pq.mono x3.gg,dv,hl,λbo h1 cU tP=>?_⟩;refine ⟨G3,bo,_,x3.sub,tP,h1,λb hb G5 H5 x5=>?_⟩;have mX:=x3.trans x5;have yb:∀{G uh:Hp},Ext G2 H2 G uh→G Ad=none:=λx=>x.off Ad (by rw [oY];exact λz=>nomatch z) gA
  have A6:∀{G uh:Hp},Ext G2 H2 G uh→∀b,H1 b≠none→G1 b=none→G b=none:=λx b h1 h2=>x.off b (fL s3 h1) (off b h1 h2);cases b with
  |false=>exact fw ⟨bo,acc,⟨G5,ys,s1.trans mX.gg,mX.sub,s3.trans mX.hh,A6 mX,yb mX,mX.hh _ _ oY,ba.mono mX.gg,tP.mono x5.gg⟩,by simpa using hb⟩
  |true=>
   refine f7 ⟨G5,bo,_,x5.sub,tP.mono x5.gg,(by simpa using hb),λes hes J1 G6 H6 x6 Jg=>?_⟩
   have x:=mX.trans x6;have c6:CS Z G6 H6 Ad bo acc cU H6→True:=λ_=>trivial
   refine ⟨λk m qY H7=>m=es.length-k∧k≤es.length∧∃(KL:DN)(z4:List D),(∃(G:Hp)(ys:List V),aC G6 G∧aC G H7∧aC H1 H7∧(∀b,H1 b≠none→G1 b=none→G b=none)∧G Ad=none∧H7 Ad=some (.lst ys)∧ar Z G ys z4∧dA Z G qY KL)∧
    lcW g1 e8 te (es.drop k) KL z4 λdQ uk=>om g tt gJ g1 e8 te (ds.drop (i+1)) dQ uk λout=>P (.lst out),
    ⟨_,rfl,cS _,bo,acc,⟨G6,ys, .refl _,x.sub,s3.trans x.hh,A6 x,yb x,x.hh _ _ oY,ba.mono x.gg,(tP.mono x5.gg).mono x6.gg⟩,hes⟩,?_⟩
   rintro k m qY H7 ⟨rfl,hk,KL,z4,⟨G7,M3,a1,a2,a3,a4,a5,a6,a7,a8⟩,uQ⟩;have ZT:aC G1 G6:=s1.trans x.gg
   by_cases II:k<es.length
   ·obtain ⟨ZX,_,Yf⟩:=Jg G7 H7 a1 a2 k
    refine .inr ⟨ZX II,λay H'=>∃(aD:DN)(jx:List D),(∃(G:Hp)(ys:List V),aC G6 G∧aC G H'∧aC H1 H'∧(∀b,H1 b≠none→G1 b=none→G b=none)∧G Ad=none∧H' Ad=some (.lst ys)∧ar Z G ys jx∧dA Z G ay aD)∧
     lcW g1 e8 te (es.drop (k+1)) aD jx λdQ uk=>om g tt gJ g1 e8 te (ds.drop (i+1)) dQ uk λout=>P (.lst out),λay H' n=>⟨es.length-(k+1),by omega,rfl,II,n⟩,λy H8 hy=>?_⟩
    obtain ⟨G8,d8,x8,hd8,ZG⟩:=Yf y H8 II hy;rw [lV hd8] at uQ;refine ⟨G8,KL,d8,_,x8.sub,a8.mono x8.gg,ZG,uQ,λM7 h9 σ9 Ll=>?_⟩;refine ⟨G8,M7,_,x8.sub,Ll,h9,λb hb RH yA KI=>?_⟩;have xx:=x8.trans KI;have oA:∀{G uh:Hp},Ext G7 H7 G uh→G Ad=none:=λx=>x.off Ad (by rw [a6];exact λz=>nomatch z) a5
    have oB:∀{G uh:Hp},Ext G7 H7 G uh→∀b,H1 b≠none→G1 b=none→G b=none:=λx b h1 h2=>x.off b (fL a3 h1) (a4 b h1 h2);cases b with
    |false=>exact fw ⟨M7,z4,⟨RH,M3,a1.trans xx.gg,xx.sub,a3.trans xx.hh,oB xx,oA xx,xx.hh _ _ a6,a7.mono xx.gg,Ll.mono KI.gg⟩,by simpa using hb⟩
    |true=>
     refine f7 ⟨RH,M7,_,KI.sub,Ll.mono KI.gg,(by simpa using hb),λd' j4 v Yq Fe Yd TU=>?_⟩
     have xz:=xx.trans Yd;refine ⟨M3,xz.hh _ _ a6,by rw [a7.length];exact j4.1,M7,_,⟨Yq,M3++ [v],a1.trans xz.gg,λb o e=>?_,λb o e=>?_,oB xz,oA xz,aa,(a7.mono xz.gg).snoc TU,(Ll.mono KI.gg).mono Yd.gg⟩,j4.2⟩
     ·rw [ab (ah e (oA xz))];exact xz.sub _ _ e
     ·rw [ab (ah e hA)];exact (a3.trans xz.hh) _ _ e
   ·have e:es.drop k= []:=wy (by omega)
    rw [e] at uQ;exact .inl ⟨(Jg G7 H7 a1 a2 k).2.1 (by omega),KL,z4,⟨G7,M3,ZT.trans a1,a2,a3,a4,a5,a6,a7,a8⟩,uQ⟩
 ·have e:ds.drop i= []:=wy (by omega)
  rw [e] at hl;obtain ⟨G',x,dv⟩:=c.done x1 hA;obtain ⟨G2,ys,s1,s2,_⟩:=c;exact .inl ⟨(it G2 H2 s1 s2 i).2.1 (by omega),q _ hl _ G' H2 x dv⟩
theorem Lb(hc:X.calm=true)(c:bp X scope)(fv:dj scope X.N src NC)(hi:DI Z X t0 i0 wi)
  (hg:∀ex s H,DG Z (cW X scope NC ex s H) t0 g) (ht:∀ex s H,zZ Z (cW X scope NC ex s H) f0 tt) (wR:∀ex s H,DI Z (cW X scope NC ex s H) t1 i1 gJ) (P5:∀ex s H,DG Z (cW X scope NC ex s H) t1 g1)
  (Qp:∀ex s H,zZ Z (cW X scope NC ex s H) f1 e8) (he:∀ex s H,DE Z (cW X scope NC ex s H) elt te)
  (hs:∀x,foldedSetIterable i0 X.env x=pure x:=by intro _;rfl) (F2:∀env x,foldedSetIterable i1 env x=pure x:=by intro _ _;rfl):
  DE Z X (.ListComp elt [⟨t0,i0,f0,0⟩,⟨t1,i1,f1,0⟩] scope pos) (NG wi g tt gJ g1 e8 te src):=(Mh hc c fv hi hg ht wR P5 Qp he hs F2).imp Js
end
inductive cG (R:V→D→List Addr→Prop):List V→List D→List Addr→Prop
 |nil:cG R [] [] []
 |cons {v:V} {vs:List V} {d:D} {ds:List D} {f fs:List Addr}:R v d f→cG R vs ds fs→cG R (v::vs) (d::ds) (f++fs)
def Vm:D→Bool
 | .lst _=>true
 |_=>false
def Own(Z:DC)(G H:Hp):Nat→V→D→List Addr→Prop
 |0,v,d,fp=>Dv Z G v d∧fp= []
 |n+1,v,d,fp=>(∃a xs ds eZ,v= .ref a∧d= .lst ds∧H a=some (.lst xs)∧fp=a::eZ∧cG (Own Z G H n) xs ds eZ)∨(1≤n∧∃a xs ds,v= .ref a∧d= .tup ds∧G a=some (.tup xs)∧cG (λv d f=>(Vm d=true∧Own Z G H n v d f)∨(Vm d=false∧Dv Z G v d∧f= [])) xs ds fp)∨(∃a φ,v= .ref a∧H a=some (.ext φ)∧fp= [a]∧((n=98∧∃b ns,d= .set b ns∧φ=Na b a ns)∨(n=97∧∃k,d= .x k∧Fh G a φ k)))
theorem Own.lst{Z:DC}{G H:Hp}{n:Nat}{v:V}{ds:List D}{fp:List Addr}(o:Own Z G H (n+1) v (.lst ds) fp):∃a xs hJ eZ,v= .ref a∧D.lst ds= .lst hJ∧H a=some (.lst xs)∧fp=a::eZ∧cG (Own Z G H n) xs hJ eZ:=by
 rcases o with o| ⟨_,a,xs,ds,_,e,_⟩ | ⟨a,φ,_,_,_,⟨_,b,ns,e,_⟩ | ⟨_,k,e,_⟩⟩
 ·exact o
 ·cases e
 ·cases e
 ·cases e
theorem Own.xA{Z:DC}{G H:Hp}{v:V}{k:XD}{fp:List Addr}(o:Own Z G H 98 v (.x k) fp):∃a φ,v= .ref a∧H a=some (.ext φ)∧fp= [a]∧Fh G a φ k:=by
 rcases o with ⟨_,_,_,_,_,e,_⟩ | ⟨_,a,xs,ds,_,e,_⟩ | ⟨a,φ,h1,h2,h3,⟨_,b,ns,e,e2⟩ | ⟨_,k,e,h4⟩⟩
 ·cases e
 ·cases e
 ·cases e
 ·cases e;exact ⟨a,φ,h1,h2,h3,h4⟩
theorem Own.one{Z:DC}{G H:Hp}{v:V}{d:D}{fp:List Addr}(o:Own Z G H 1 v d fp):∃a xs ds eZ,v= .ref a∧d= .lst ds∧H a=some (.lst xs)∧fp=a::eZ∧cG (Own Z G H 0) xs ds eZ:=by
 rcases o with o| ⟨z,_⟩ | ⟨_,_,_,_,_,⟨z,_⟩ | ⟨z,_⟩⟩
 ·exact o
 ·exact absurd z (by decide)
 ·exact absurd z (by decide)
 ·exact absurd z (by decide)
theorem cG.imp{R R':V→D→List Addr→Prop}:∀{vs:List V}{ds:List D}{fp:List Addr},cG R vs ds fp→(∀v d f,(∀b∈f,b∈fp)→R v d f→R' v d f)→cG R' vs ds fp
 |_,_,_, .nil,_=> .nil
 |_,_,_, .cons a as,h=> .cons (h _ _ _ (λb hb=>gh _ hb) a) (as.imp λv d f hf r=>h v d f (λb hb=>cY _ (hf b hb)) r)
theorem cG.length{R:V→D→List Addr→Prop}:∀{vs:List V}{ds:List D}{fp:List Addr},cG R vs ds fp→vs.length=ds.length
 |_,_,_, .nil=>rfl
 |_,_,_, .cons _ as=>congrArg (·+1) as.length
section
variable {Z:DC} {G G' H H':Hp}
theorem Own.keep:∀{n:Nat}{v:V}{d:D}{fp:List Addr},Own Z G H n v d fp→aC G G'→(∀b∈fp,H' b=H b)→Own Z G' H' n v d fp
 |0,_,_,_,⟨a,b⟩,s,_=>⟨a.mono s,b⟩
 |n+1,_,_,_, .inl ⟨a,xs,ds,eZ,hv,hd,ha,hf,ho⟩,s,k=>by
  subst hf;exact .inl ⟨a,xs,ds,eZ,hv,hd,by rw [k a (cC ..)];exact ha,rfl,ho.imp λv d f hb r=>Own.keep r s λb q=>k b (cA _ (hb b q))⟩
 |n+1,_,_,_, .inr (.inl ⟨h1,a,xs,ds,hv,hd,ha,ho⟩),s,k=> .inr (.inl ⟨h1,a,xs,ds,hv,hd,s _ _ ha,ho.imp λv d f hb r=>r.imp (λr=>⟨r.1,Own.keep r.2 s λb q=>k b (hb b q)⟩) λr=>⟨r.1,r.2.1.mono s,r.2.2⟩⟩)
 |n+1,_,_,_, .inr (.inr ⟨a,φ,hv,ha,hf,hx⟩),s,k=> .inr (.inr ⟨a,φ,hv,by rw [k a (by rw [hf];exact cC ..)];exact ha,hf,hx.imp id λ⟨h1,k,h2,h3⟩=>⟨h1,k,h2,h3.mono s⟩⟩)
theorem cG.Av{R:V→D→List Addr→Prop}:∀{vs:List V}{ds:List D}{fp:List Addr},cG R vs ds fp→(∀v d f,(∀b∈f,b∈fp)→R v d f→Dv Z G' v d)→ar Z G' vs ds
 |_,_,_, .nil,_=> .nil
 |_,_,_, .cons a as,k=> .cons (k _ _ _ (λb hb=>gh _ hb) a) (as.Av λv d f hf r=>k v d f (λb hb=>cY _ (hf b hb)) r)
theorem Own.dv:∀{n:Nat}{v:V}{d:D}{fp:List Addr},Own Z G H n v d fp→aC G G'→(∀b∈fp,∀o,H b=some o→G' b=some o)→Dv Z G' v d
 |0,_,_,_,⟨a,_⟩,s,_=>a.mono s
 |n+1,_,_,_, .inl ⟨a,xs,ds,eZ,hv,hd,ha,hf,ho⟩,s,k=>by
  subst hf hv hd;exact .lst (k a (cC ..) _ ha) (ho.Av λv d f hf r=>Own.dv r s λb hb=>k b (cA _ (hf b hb)))
 |n+1,_,_,_, .inr (.inl ⟨_,a,xs,ds,hv,hd,ha,ho⟩),s,k=>by
  subst hv hd;exact .tup (s _ _ ha) (ho.Av λv d f hf r=>r.elim (λr=>Own.dv r.2 s λb hb=>k b (hf b hb)) λr=>r.2.1.mono s)
 |n+1,_,_,_, .inr (.inr ⟨a,φ,hv,ha,hf,hx⟩),s,k=>by
  subst hv hf
  rcases hx with ⟨_,b,ns,hd,hp⟩ | ⟨_,kx,hd,hp⟩
  ·subst hd hp
   exact .set (k a (cC ..) _ ha)
  ·subst hd
   exact .x (k a (cC ..) _ ha) (hp.mono s)
theorem cG.flat:∀{vs:List V}{ds:List D}{fp:List Addr},cG (Own Z G H 0) vs ds fp→ar Z G vs ds∧fp= []
 |_,_,_, .nil=>⟨.nil,rfl⟩
 |_,_,_, .cons a as=>by
  obtain ⟨h1,h2⟩:=as.flat;obtain ⟨a1,a2⟩:=a;exact ⟨.cons a1 h1,by rw [a2,h2];rfl⟩
theorem ar.own:∀{vs:List V}{ds:List D},ar Z G vs ds→cG (Own Z G H 0) vs ds []
 |_,_, .nil=> .nil
 |_,_, .cons a as=> .cons (f:= []) (fs:= []) ⟨a,rfl⟩ as.own
end
mutual
def mB:D→Bool
 | .aM=>true
 | .bl _=>true
 | .int _=>true
 | .str _=>true
 | .tup l=>EC l
 |_=>false
def EC:List D→Bool
 | []=>true
 |d::ds=>mB d&&EC ds
end
mutual
theorem Dv.mB{Z:DC}{G G':Hp}(k:∀b xs,G b=some (.tup xs)→G' b=some (.tup xs)):∀{v:V}{d:D},Dv Z G v d→L2.mB d=true→Dv Z G' v d
 |_,_, .aM,_=> .aM
 |_,_, .bl b,_=> .bl b
 |_,_, .int i,_=> .int i
 |_,_, .str x h,_=> .str x h
 |_,_, .tup h a,f=> .tup (k _ _ h) (ar.mB k a (by rw [L2.mB] at f;exact f))
 |_,_, .lst _ _,f=>by simp [L2.mB] at f
 |_,_, .obj _,f=>by simp [L2.mB] at f
 |_,_, .rng _,f=>by simp [L2.mB] at f
 |_,_, .km _ _,f=>by simp [L2.mB] at f
 |_,_, .eV _ _ _ _ _,f=>by simp [L2.mB] at f
 |_,_, .set _,f=>by simp [L2.mB] at f
 |_,_, .x _ _,f=>by simp [L2.mB] at f
theorem ar.mB{Z:DC}{G G':Hp}(k:∀b xs,G b=some (.tup xs)→G' b=some (.tup xs)):∀{vs:List V}{ds:List D},ar Z G vs ds→EC ds=true→ar Z G' vs ds
 |_,_, .nil,_=> .nil
 |_,_, .cons a as,f=>by
  rw [EC,yz] at f;exact .cons (Dv.mB k a f.1) (ar.mB k as f.2)
end
def Ot:HO→Bool
 | .lst _=>true
 | .ext _=>true
 |_=>false
theorem Own.Po{Z:DC}{G G' H:Hp}:∀{n:Nat}{v:V}{d:D}{fp:List Addr},Own Z G H n v d fp→aC G G'→(∀b∈fp,∀o,Ot o=true→H b=some o→G' b=some o)→Dv Z G' v d
 |0,_,_,_,⟨a,_⟩,s,_=>a.mono s
 |n+1,_,_,_, .inl ⟨a,xs,ds,eZ,hv,hd,ha,hf,ho⟩,s,k=>by
  subst hf hv hd;exact .lst (k a (cC ..) _ rfl ha) (ho.Av λv d f hf r=>Own.Po r s λb hb=>k b (cA _ (hf b hb)))
 |n+1,_,_,_, .inr (.inl ⟨_,a,xs,ds,hv,hd,ha,ho⟩),s,k=>by
  subst hv hd;exact .tup (s _ _ ha) (ho.Av λv d f hf r=>r.elim (λr=>Own.Po r.2 s λb hb=>k b (hf b hb)) λr=>r.2.1.mono s)
 |n+1,_,_,_, .inr (.inr ⟨a,φ,hv,ha,hf,hx⟩),s,k=>by
  subst hv hf
  rcases hx with ⟨_,b,ns,hd,hp⟩ | ⟨_,kx,hd,hp⟩
  ·subst hd hp
   exact .set (k a (cC ..) _ rfl ha)
  ·subst hd
   exact .x (k a (cC ..) _ rfl ha) (hp.mono s)
structure Bs where
 G₀:Hp
 H₀:Hp
 Gf:Hp
structure SIx (Z:DC) (B:Bs) (md:List Nat) (ρ:DN) (σ:St) (H G:Hp) (fp:Nat→List Addr):Prop where
 ex:Ext B.G₀ B.H₀ G H
 fl:aC B.Gf G
 len:ρ.length=σ.length
 at_:∀(i:Nat)(d:D),ρ[i]? =some (some d)→∃v,σ[i]? =some (some v)∧Own Z G H (md.getD i 0) v d (fp i)
 nd:∀i,(fp i).Nodup
 ap:∀i j b,i≠j→b∈fp i→b∉fp j
 nw:∀i b,b∈fp i→B.H₀ b=none∧H b≠none∧G b=none
def SI(Z:DC)(B:Bs)(md:List Nat)(ρ:DN)(σ:St)(H:Hp):Prop:=∃G fp,SIx Z B md ρ σ H G fp
def dr:List Nat→DN→DN
 |_,[]=> []
 | [],o::ρ=>o::ρ
 |0::md,o::ρ=>o::dr md ρ
 | (_+1)::md,_::ρ=>none::dr md ρ
theorem pC:∀(md:List Nat)(ρ:DN),(dr md ρ).length=ρ.length
 |md,[]=>by cases md<;>rfl
 | [],o::ρ=>rfl
 |0::md,o::ρ=>by rw [dr,cp,pC md ρ,cp]
 | (_+1)::md,_::ρ=>by rw [dr,cp,pC md ρ,cp]
theorem rT{d:D}:∀(md:List Nat)(ρ:DN)(i:Nat),(dr md ρ)[i]? =some (some d)→md.getD i 0=0∧ρ[i]? =some (some d)
 |md,[],i,h=>by cases md<;>simp [dr] at h
 | [],o::ρ,i,h=>⟨by simp,h⟩
 |0::md,o::ρ,0,h=>⟨rfl,by simpa [dr] using h⟩
 |0::md,o::ρ,i+1,h=>by
  rw [dr,qS] at h;obtain ⟨a,b⟩:=rT md ρ i h;exact ⟨by rw [E7];exact a,by rw [qS];exact b⟩
 | (_+1)::md,_::ρ,0,h=>by simp [dr] at h
 | (_+1)::md,_::ρ,i+1,h=>by
  rw [dr,qS] at h;obtain ⟨a,b⟩:=rT md ρ i h;exact ⟨by rw [E7];exact a,by rw [qS];exact b⟩
def DZ(md:List Nat):Bool→DN→DN
 |true,ρ=>ρ
 |false,ρ=>dr md ρ
def p7:Bool→D→Prop
 |true,d=>mB d=true
 |false,_=>True
section
variable {Z:DC} {B:Bs} {md:List Nat} {ρ:DN} {σ:St} {H G:Hp} {fp:Nat→List Addr}
theorem Dl{i:Nat}{d:D}(h:(dr md ρ)[i]? =some (some d)):md.getD i 0=0∧ρ[i]? =some (some d):=rT md ρ i h
theorem SIx.Ay(S:SIx Z B md ρ σ H G fp):dA Z G σ (dr md ρ):=by
 refine ⟨by rw [pC];exact S.len,λi d h=>?_⟩
 obtain ⟨z,h⟩:=Dl h;obtain ⟨v,hv,o⟩:=S.at_ i d h;rw [z] at o;exact ⟨v,hv,o.1⟩
theorem SIx.HZ(S:SIx Z B md ρ σ H G fp):dA Z H σ ρ:=by
 refine ⟨S.len,λi d h=>?_⟩;obtain ⟨v,hv,o⟩:=S.at_ i d h;exact ⟨v,hv,o.dv S.ex.sub λb _ u e=>e⟩
theorem SIx.grow{G' H':Hp}(S:SIx Z B md ρ σ H G fp)(x:Ext G H G' H'):SIx Z B md ρ σ H' G' fp where
 ex:=S.ex.trans x
 fl:=S.fl.trans x.gg
 len:=S.len
 at_:=λi d h=>by
  obtain ⟨v,hv,o⟩:=S.at_ i d h;refine ⟨v,hv,o.keep x.gg λb hb=>?_⟩;cases e:H b with
  |none=>exact absurd e (S.nw i b hb).2.1
  |some u=>exact x.hh _ _ e
 nd:=S.nd
 ap:=S.ap
 nw:=λi b hb=>let ⟨h1,h2,h3⟩:=S.nw i b hb;⟨h1,fL x.hh h2,x.off b h2 h3⟩
theorem Ext.all{G' H':Hp}(s:aC G H)(x:Ext H H G' H'):Ext G H G H':=⟨.refl _,s.trans x.hh,x.hh,λ_ _ h=>h⟩
open Classical in
noncomputable def iC(G H:Hp)(fp:Nat→List Addr):Hp:=λb=>if ∃i,b∈fp i then (match H b with|some (.lst xs)=>some (.lst xs) |some (.ext φ)=>some (.ext φ) |_=>none) else G b
open Classical in
noncomputable def rH(G:Hp)(fp:Nat→List Addr):Hp:=λb=>if ∃i,b∈fp i then none else G b
theorem GU{b:Addr}{o:HO}(i:Nat)(h:b∈fp i)(ho:Ot o=true)(e:H b=some o):iC G H fp b=some o:=by
 unfold iC;rw [if_pos ⟨i,h⟩,e];cases o<;>first|rfl|cases ho
theorem pP{b:Addr}(h:¬∃i,b∈fp i):iC G H fp b=G b:=if_neg h
theorem SIx.NN(S:SIx Z B md ρ σ H G fp):aC G (iC G H fp)∧aC (iC G H fp) H∧dA Z (iC G H fp) σ ρ:=by
 have s1:aC G (iC G H fp):=λb o e=>by
  by_cases h:∃i,b∈fp i
  ·obtain ⟨i,hi⟩:=h
   rw [(S.nw i b hi).2.2] at e;cases e
  ·rw [pP h];exact e
 refine ⟨s1,λb o e=>?_,S.len,λi d h=>?_⟩
 ·by_cases h:∃i,b∈fp i
  ·unfold iC at e
   rw [if_pos h] at e
   split at e
   ·next xs hx=>rw [hx];exact e
   ·next φ hx=>rw [hx];exact e
   ·cases e
  ·rw [pP h] at e;exact S.ex.sub _ _ e
 ·obtain ⟨v,hv,o⟩:=S.at_ i d h
  exact ⟨v,hv,o.Po s1 λb hb u hu hx=>GU i hb hu hx⟩
theorem SIx.WO{G' H':Hp}(S:SIx Z B md ρ σ H G fp)(x:Ext (iC G H fp) H G' H'):Ext G H (rH G' fp) H'∧∀b xs,G' b=some (.tup xs)→rH G' fp b=some (.tup xs):=by
 obtain ⟨s1,s2,_⟩:=S.NN;refine ⟨⟨λb o e=>?_,λb o e=>?_,x.hh,λb hb hg=>?_⟩,λb xs e=>?_⟩
 ·have h:¬∃i,b∈fp i:=by
   rintro ⟨i,hi⟩;rw [(S.nw i b hi).2.2] at e;cases e
  unfold rH;rw [if_neg h];exact x.gg _ _ (s1 _ _ e)
 ·unfold rH at e
  split at e
  ·cases e
  ·exact x.sub _ _ e
 ·unfold rH
  split
  ·rfl
  ·next h=>exact x.off b hb (by rw [pP h];exact hg)
 ·have h:¬∃i,b∈fp i:=by
   rintro ⟨i,hi⟩;have hb:=(S.nw i b hi).2.1;cases hw:iC G H fp b with
   |none=>rw [x.off b hb hw] at e;cases e
   |some o=>
    have:=x.gg _ _ hw
    rw [e] at this;cases this;unfold iC at hw;rw [if_pos ⟨i,hi⟩] at hw
    split at hw<;>cases hw
  unfold rH;rw [if_neg h];exact e
theorem SIx.ev{t:aP}{P:D→Prop}{Q:VK}(S:SIx Z B md ρ σ H G fp)(m:Bool)(h:t (DZ md m ρ) P)
  (hq:∀d,P d→p7 m d∧∀v G' H',SIx Z B md ρ σ H' G' fp→Ext G H G' H'→Dv Z G' v d→Q v H'):dM Z t σ H Q:=by
 cases m with
 |false=>exact ⟨G,_,P,S.ex.sub,S.Ay,h,λd hd v G' H' x dv=>(hq d hd).2 v G' H' (S.grow x) x dv⟩
 |true=>
  obtain ⟨s1,s2,e⟩:=S.NN;refine ⟨iC G H fp,_,P,s2,e,h,λd hd v G' H' x dv=>?_⟩;obtain ⟨x',k⟩:=S.WO x;exact (hq d hd).2 v _ H' (S.grow x') x' (dv.mB k (hq d hd).1)
theorem SIx.T4{t:eo}{P:Bool→Prop}{Q:Bool→Hp→Prop}(S:SIx Z B md ρ σ H G fp)(h:t ρ P)(hq:∀b,P b→∀H',SIx Z B md ρ σ H' G fp→Q b H'):liftT Z t σ H Q:=
 ⟨H,ρ,P, .refl _,S.HZ,h,λb hb G' H' x=>hq b hb H' (S.grow (Ext.all S.ex.sub x))⟩
theorem SIx.mQ{i:Nat}{v:V}{d:D}(S:SIx Z B md ρ σ H G fp)(hm:md.getD i 0=0)(dv:Dv Z G v d):SIx Z B md (ρ.set i (some d)) (σ.set i (some v)) H G (λj=>if j=i then [] else fp j) where
 ex:=S.ex
 fl:=S.fl
 len:=by rw [gm,gm];exact S.len
 at_:=λj c h=>by
  by_cases z:i=j
  ·subst z
   by_cases hi:i<ρ.length
   ·rw [mY hi] at h
    cases h;exact ⟨v,mY (by rw [←S.len];exact hi),by rw [hm,if_pos rfl];exact ⟨dv,rfl⟩⟩
   ·rw [BK (lI hi),gf (lI hi)] at h;cases h
  ·rw [tx z] at h ⊢
   rw [if_neg (Ne.symm z)];exact S.at_ j c h
 nd:=λj=>by split;exact kr;exact S.nd j
 ap:=λj k b ne hj hk=>by
  split at hj
  ·cases hj
  ·split at hk
   ·cases hk
   ·exact S.ap j k b ne hj hk
 nw:=λj b hb=>by
  split at hb
  ·cases hb
  ·exact S.nw j b hb
theorem SIx.Oy{i n:Nat}{v:V}{d:D}{f:List Addr}(S:SIx Z B md ρ σ H G fp)(hm:md.getD i 0=n)(o:Own Z G H n v d f)(nd:f.Nodup)(nw:∀b∈f,B.H₀ b=none∧H b≠none∧G b=none)(ap:∀b∈f,∀j,j≠i→b∉fp j):
  SIx Z B md (ρ.set i (some d)) (σ.set i (some v)) H G (λj=>if j=i then f else fp j) where
 ex:=S.ex
 fl:=S.fl
 len:=by rw [gm,gm];exact S.len
 at_:=λj c h=>by
  by_cases z:i=j
  ·subst z
   by_cases hi:i<ρ.length
   ·rw [mY hi] at h
    cases h;exact ⟨v,mY (by rw [←S.len];exact hi),by rw [hm,if_pos rfl];exact o⟩
   ·rw [BK (lI hi),gf (lI hi)] at h;cases h
  ·rw [tx z] at h ⊢
   rw [if_neg (Ne.symm z)];exact S.at_ j c h
 nd:=λj=>by split;exact nd;exact S.nd j
 ap:=λj k b ne hj hk=>by
  split at hj
  ·next z=>
   rw [if_neg (λw=>ne (z.trans w.symm))] at hk;exact ap b hj k (λw=>ne (z.trans w.symm)) hk
  ·next z=>
   split at hk
   ·exact ap b hk j z hj
   ·exact S.ap j k b ne hj hk
 nw:=λj b hb=>by
  split at hb
  ·exact nw b hb
  ·exact S.nw j b hb
noncomputable def plus(G H:Hp)(F:Addr→Prop):Hp:=λb=>open Classical in if F b then H b else G b
theorem e7{F:Addr→Prop}{b:Addr}(h:F b):plus G H F b=H b:=by unfold plus;rw [if_pos h]
theorem dO{F:Addr→Prop}{b:Addr}(h:¬F b):plus G H F b=G b:=by unfold plus;rw [if_neg h]
theorem kj{F:Addr→Prop}(s:aC G H):aC (plus G H F) H:=λb o e=>by
 by_cases h:F b
 ·rw [e7 h] at e;exact e
 ·rw [dO h] at e;exact s _ _ e
theorem iY{F:Addr→Prop}(s:aC G H):aC G (plus G H F):=λb o e=>by
 by_cases h:F b
 ·rw [e7 h];exact s _ _ e
 ·rw [dO h];exact e
theorem SIx.ZJ{t:aP}{P:D→Prop}{Q:VK}(S:SIx Z B md ρ σ H G fp)(h:t ρ P)(hq:∀d,P d→∀v G' H',Ext B.G₀ B.H₀ G' H'→Dv Z G' v d→Q v H'):dM Z t σ H Q:=by
 let F:Addr→Prop:=λb=>∃i,b∈fp i
 have s:=S.ex.sub
 have x0:Ext B.G₀ B.H₀ (plus G H F) H:=⟨S.ex.gg.trans (iY s),kj s,S.ex.hh,λb hb hg=>by
  rw [dO (λ⟨i,hi⟩=>hb (S.nw i b hi).1)];exact S.ex.off b hb hg⟩
 refine ⟨plus G H F,ρ,P,kj s,⟨S.len,λi d h=>?_⟩,h,λd hd v G' H' x dv=>hq d hd v G' H' (x0.trans x) dv⟩;obtain ⟨v,hv,o⟩:=S.at_ i d h;exact ⟨v,hv,o.dv (iY s) λb hb u e=>by rw [e7 ⟨i,hb⟩];exact e⟩
end
structure gw where
 nx:DN→Prop
 rt:D→Prop
 bk:DN→Prop:=λ_=>False
 ct:DN→Prop:=λ_=>False
abbrev dH:=gw→DN→Prop
structure Meets (Z:DC) (B:Bs) (md:List Nat) (rn:Nat) (E:gw) (Dn:Ends):Prop where
 nx:∀ρ,E.nx ρ→∀σ H,SI Z B md ρ σ H→Dn.nx σ H
 rt:∀d,E.rt d→∀v f G' H',Ext B.G₀ B.H₀ G' H'→Own Z G' H' rn v d f→f.Nodup→(∀b∈f,B.H₀ b=none∧H' b≠none∧G' b=none)→Dn.rt v H'
 bk:∀ρ,E.bk ρ→∀σ H,SI Z B md ρ σ H→Dn.bk σ H
 ct:∀ρ,E.ct ρ→∀σ H,SI Z B md ρ σ H→Dn.ct σ H
def jm(Z:DC)(md:List Nat)(rn:Nat)(t:dH):TS:=λDn σ H=>∃(B:Bs)(ρ:DN)(E:gw),SI Z B md ρ σ H∧t E ρ∧Meets Z B md rn E Dn
def DSt(Z:DC)(X:Cx)(md:List Nat)(rn:Nat)(st:Stmt)(t:dH):Prop:=PS X st (jm Z md rn t)
def uf(Z:DC)(X:Cx)(md:List Nat)(rn:Nat)(MU:List Stmt)(t:dH):Prop:=lJ X MU (jm Z md rn t)
theorem PS.imp{X:Cx}{st:Stmt}{t t':TS}(h:PS X st t)(f:∀D σ H,t' D σ H→t D σ H):PS X st t':=λpins s σ H D I q=>h pins s σ H D I (f _ _ _ q)
theorem lJ.imp{X:Cx}{st:List Stmt}{t t':TS}(h:lJ X st t)(f:∀D σ H,t' D σ H→t D σ H):lJ X st t':=λpins s σ H D I q=>h pins s σ H D I (f _ _ _ q)
section
variable {Z:DC} {X:Cx} {md:List Nat} {rn:Nat} {st:Stmt} {MU:List Stmt} {t u:dH} {e:Expr} {te:aP} {pos:Pos}
def HC:dH:=λE ρ=>E.nx ρ
def dSeq(t u:dH):dH:=λE ρ=>t {E with nx:=u E} ρ
theorem bB:uf Z X md rn [] HC:=mF.imp λD σ H ⟨B,ρ,E,S,h,M⟩=>M.nx _ h _ _ S
theorem aw(h1:DSt Z X md rn st t)(h2:uf Z X md rn MU u):uf Z X md rn (st::MU) (dSeq t u):=
 (az h1 h2).imp λD σ H ⟨B,ρ,E,S,h,M⟩=>⟨B,ρ,_,S,h,⟨λaD h' ay H' S'=>⟨B,aD,E,S',h',M⟩,M.rt,M.bk,M.ct⟩⟩
theorem ax(h1:DSt Z X md rn st t):uf Z X md rn [st] t:=aX h1
theorem iT:DSt Z X md rn st (λ_ _=>False):=Gy.imp λD σ H ⟨B,ρ,E,S,h,M⟩=>h
def Te(te:aP):dH:=λE ρ=>te ρ E.rt
theorem bq(he:DE Z X e te):DSt Z X md 0 (.Return (some e) pos) (Te te):=(fm he).imp λD σ H ⟨B,ρ,E,⟨G,fp,S⟩,h,M⟩=>S.ZJ h λd hd v G' H' x dv=>M.rt d hd v [] G' H' x ⟨dv,rfl⟩ kr (λb hb=>by cases hb)
def ND(c:eo)(t u:dH):dH:=λE ρ=>c ρ λb=>if b=true then t E ρ else u E ρ
theorem cT{c:Expr}{a b:List Stmt}{tc:eo}(hc:DT Z X c tc)(ha:uf Z X md rn a t)(hb:uf Z X md rn b u):DSt Z X md rn (.If c a b pos) (ND tc t u):=by
 refine (vC hc ha hb).imp ?_;rintro D σ H ⟨B,ρ,E,⟨G,fp,S⟩,h,M⟩;refine S.T4 h λb hb H' S'=>?_;cases b with
 |true=>exact f7 ⟨B,ρ,E,⟨G,fp,S'⟩,(by simpa using hb),M⟩
 |false=>exact fw ⟨B,ρ,E,⟨G,fp,S'⟩,(by simpa using hb),M⟩
def NJ(md:List Nat)(m:Bool)(i:Nat)(te:aP):dH:=λE ρ=>te (DZ md m ρ) λd=>p7 m d∧E.nx (ρ.set i (some d))
theorem dY(m:Bool)(i:Nat){x:Str}{pos':Pos}(hN:X.N.Nodup)(he:DE Z X e te)(hm:md.getD i 0=0:=by rfl)(hi:X.N[i]? =some x:=by rfl)(hx:Loc X.env.scope x:=by first|exact Or.inl rfl|exact Or.inr rfl)(hs:swapsWith e (some (.Name x pos')) pos.line X.env=pure false:=by rfl)
  (hf:X.fn x=true∨X.env.scope.names.lookup x=some .local:=by first|exact .inl rfl|exact .inr rfl|assumption):DSt Z X md rn (.Assign [.Name x pos'] e pos) (NJ md m i te):=by
 refine (bP hN hi hx he hs hf).imp ?_;rintro D σ H ⟨B,ρ,E,⟨G,fp,S⟩,h,M⟩;exact S.ev m h λd hd=>⟨hd.1,λv G' H' S' x dv=>M.nx _ hd.2 _ _ ⟨G',_,S'.mQ hm dv⟩⟩
theorem rq(i:Nat){x:Str}{px jH:Pos}{tg iter elt:Expr}{ifs:List Expr}{scope:Scope}{NC:List Str}{src:List (Option Nat)}{wi:i9}{g:dW}{tt:eo}(hc:X.calm=true)(hN:X.N.Nodup)(c:bp X scope)(fv:dj scope X.N src NC)(hi:DI Z X tg iter wi)
  (hg:∀ex s H,DG Z (cW X scope NC ex s H) tg g) (ht:∀ex s H,zZ Z (cW X scope NC ex s H) ifs tt) (he:∀ex s H,DE Z (cW X scope NC ex s H) elt te)
  (kH:swapsWith (.ListComp elt [⟨tg,iter,ifs,0⟩] scope pos) (some (.Name x px)) jH.line X.env=pure true:=by rfl) (hm:md.getD i 0=0:=by rfl) (fj:X.N[i]? =some x:=by rfl) (hx:Loc X.env.scope x:=by first|exact Or.inl rfl|exact Or.inr rfl)
  (hf:X.fn x=true∨X.env.scope.names.lookup x=some .local:=by first|exact .inl rfl|exact .inr rfl|assumption)
  (hs:∀x,foldedSetIterable iter X.env x=pure x:=by intro _;rfl):DSt Z X md rn (.Assign [.Name x px] (.ListComp elt [⟨tg,iter,ifs,0⟩] scope pos) jH) (NJ md false i (Pd wi g tt te src)):=by
 refine (iZ hc hN fj hx c fv hi hg ht he kH hf hs).imp ?_;rintro D σ H ⟨B,ρ,E,⟨G,fp,S⟩,h,M⟩;refine EB σ H _ (S.ev false h λd hd=>⟨hd.1,λv G' H' S' x dv=>M.nx _ hd.2 _ _ ⟨G',_,S'.mQ hm dv⟩⟩)
end
end L2
namespace L2
open PySem PySem.Spec PyProof.Rows
section
variable {Z:DC} {X:Cx} {B:Bs} {md:List Nat} {rn:Nat} {ρ:DN} {σ:St} {H G:Hp} {fp:Nat→List Addr}
def EA(Z:DC)(md:List Nat)(g:dW):TG:=λv σ H Q=>∃(B:Bs)(ρ:DN)(d:D)(P:DN→Prop)(G:Hp)(fp:Nat→List Addr),SIx Z B md ρ σ H G fp∧Dv Z G v d∧g d ρ P∧∀aD,P aD→∀ay Co,SIx Z B md aD ay H G Co→Q ay H
def Jr(Z:DC)(md:List Nat)(g:lg):wJ:=λvs σ H Q=>∃(B:Bs)(ρ:DN)(ds:List D)(P:DN→Prop)(G:Hp)(fp:Nat→List Addr),SIx Z B md ρ σ H G fp∧ar Z G vs ds∧g ds ρ P∧∀aD,P aD→∀ay Co,SIx Z B md aD ay H G Co→Q ay H
def Fb(Z:DC)(X:Cx)(md:List Nat)(e:Expr)(g:dW):Prop:=PG X e (EA Z md g)
def Eb(Z:DC)(X:Cx)(md:List Nat)(es:List Expr)(g:lg):Prop:=yB X es (Jr Z md g)
theorem bf(i:Nat){x:Str}{pos:Pos}(hN:X.N.Nodup)(hm:md.getD i 0=0:=by rfl)(hi:X.N[i]? =some x:=by rfl)(hx:Loc X.env.scope x:=by first|exact Or.inl rfl|exact Or.inr rfl)(hf:X.fn x=true∨X.env.scope.names.lookup x=some .local:=by first|exact .inl rfl|exact .inr rfl|assumption):Fb Z X md (.Name x pos) (nj i):=
 (bT hN hi hx hf).imp λv σ H Q ⟨B,ρ,d,P,G,fp,S,dv,h,q⟩=>q _ h _ _ (S.mQ hm dv)
theorem fi:Eb Z X md [] HP:=kg.imp λv σ H Q ⟨B,ρ,ds,P,G,fp,S,dv,⟨h,p⟩,q⟩=>by
 subst h;cases dv;exact ⟨rfl,q _ p _ _ S⟩
theorem bI{e:Expr}{es:List Expr}{g:dW}{gs:lg}(h1:Fb Z X md e g)(h2:Eb Z X md es gs)(hs:(assignEach (e::es) X.env).map (·.2)=assign e X.env::(assignEach es X.env).map (·.2):=by rfl):Eb Z X md (e::es) (Em g gs):=by
 refine (eG h1 h2 hs).imp ?_;rintro v σ H Q ⟨B,ρ,ds,P,G,fp,S,dv,h,q⟩;cases dv with
 |nil=>exact h.elim
 |cons a as=>exact ⟨_,_,rfl,B,ρ,_,_,G,fp,S,a,h,λaD hp ay Co S'=>⟨B,aD,_,P,G,Co,S',as,hp,q⟩⟩
theorem iN(n:Nat){es:List Expr}{k:Nat}{pos:Pos}{gs:lg}(hc:X.calm=true)(h:Eb Z X md es gs)(hn:(assignEach es X.env).length=n:=by rfl)(y4:(assignEach es X.env).findIdx? (·.1)=none:=by rfl):Fb Z X md (.Tuple es k pos) (HQ n gs):=by
 refine (nO hc h hn y4).imp ?_;rintro v σ H Q ⟨B,ρ,d,P,G,fp,S,dv,h,q⟩;cases dv<;>first|exact h.elim|skip
 rename_i a xs ds ha es
 exact ⟨a,xs,rfl,dX.of (S.ex.sub _ _ ha),by rw [es.length];exact h.1,B,ρ,_,P,G,fp,S,es,h.2,q⟩
def SX(md:List Nat)(te:aP)(g:dW):dH:=λE ρ=>te (dr md ρ) λd=>g d ρ E.nx
theorem Lh{tg e:Expr}{te:aP}{g:dW}{pos:Pos}(he:DE Z X e te)(hg:Fb Z X md tg g)(hs:swapsWithSole [tg] e pos.line X.env=pure false:=by rfl)(hw:swappedStores [tg] e X.env=pure none:=by rfl)
  (h1:(assignEach [tg] X.env).map (·.2)= [assign tg X.env]:=by rfl):DSt Z X md rn (.Assign [tg] e pos) (SX md te g):=by
 refine (nP he hg hs hw h1).imp ?_;rintro D σ H ⟨B,ρ,E,⟨G,fp,S⟩,h,M⟩;exact S.ev false h λd hd=>⟨trivial,λv G' H' S' x dv=>⟨B,ρ,d,E.nx,G',fp,S',dv,hd,λaD h' ay Co S2=>M.nx _ h' _ _ ⟨G',Co,S2⟩⟩⟩
def j3(g:dW)(tb:dH)(E:gw):List D→DN→Prop
 | [],ρ=>E.nx ρ
 |x::xs,ρ=>g x ρ λbo=>tb {nx:=j3 g tb E xs,ct:=j3 g tb E xs,bk:=E.nx,rt:=E.rt} bo
def NB(md:List Nat)(m:Bool)(wi:i9)(g:dW)(tb:dH):dH:=λE ρ=>wi (DZ md m ρ) λds=>j3 g tb E ds ρ
theorem xK{D':Ends}{J:It}{ds:List D}{g:dW}{tb:dH}{E:gw}(S:SIx Z B md ρ σ H G fp)(it:ui Z G J ds)(hd:j3 g tb E ds ρ)(M:Meets Z B md rn E D'):
  ∃W:Nat→Nat→St→Hp→Prop,(∃m,W 0 m σ H)∧∀i m σ H,W i m σ H→
   (J.stop i H∧D'.nx σ H)∨(J.go i H∧∃N:St→Hp→Prop,(∀ay H',N ay H'→∃m',m'<m∧W (i+1) m' ay H')∧∀x H',J.yld i H x H'→EA Z md g x σ H' λcD H2=>jm Z md rn tb {D' with nx:=N,ct:=N,bk:=D'.nx} cD H2):=by
 let B1:Bs:={B with Gf:=G}
 have back:∀ρ σ H,SI Z B1 md ρ σ H→SI Z B md ρ σ H:=λρ σ H ⟨G2,Cp,S2⟩=>⟨G2,Cp,⟨S2.ex,S.fl.trans S2.fl,S2.len,S2.at_,S2.nd,S2.ap,S2.nw⟩⟩;have S1:SIx Z B1 md ρ σ H G fp:=⟨S.ex, .refl _,S.len,S.at_,S.nd,S.ap,S.nw⟩;refine ⟨λi m σ H=>m=ds.length-i∧i≤ds.length∧∃ρ,SI Z B1 md ρ σ H∧j3 g tb E (ds.drop i) ρ,⟨_,rfl,cS _,ρ,⟨G,fp,S1⟩,hd⟩,?_⟩;rintro i m cD H2 ⟨rfl,hi,dQ,⟨G2,Cp,S2⟩,hf⟩;obtain ⟨go,stop,yld⟩:=it G2 H2 S2.fl S2.ex.sub i
 by_cases bG:i<ds.length
 ·refine .inr ⟨go bG,λay H'=>∃aD,SI Z B1 md aD ay H'∧j3 g tb E (ds.drop (i+1)) aD,λay H' n=>⟨ds.length-(i+1),by omega,rfl,bG,n⟩,λx H' y=>?_⟩
  obtain ⟨G3,d,x3,IE,dv⟩:=yld x H' bG y;rw [lV IE] at hf;refine ⟨B1,dQ,d,_,G3,Cp,S2.grow x3,dv,hf,λρ4 h4 cU ZQ S4=>?_⟩;exact ⟨B1,ρ4,_,⟨G3,ZQ,S4⟩,h4,⟨λaD h' ay H' s'=>⟨aD,s',h'⟩,M.rt,λaD h' ay H' s'=>M.nx _ h' _ _ (back _ _ _ s'),λaD h' ay H' s'=>⟨aD,s',h'⟩⟩⟩
 ·have e:ds.drop i= []:=wy (by omega)
  rw [e] at hf;exact .inl ⟨stop (by omega),M.nx _ hf _ _ (back _ _ _ ⟨G2,Cp,S2⟩)⟩
variable {tg iter:Expr} {body:List Stmt} {wi:i9} {g:dW} {tb:dH} {pos:Pos}
theorem fh(hc:X.calm=true)(hp:PassesOwn (model X.prog X.w) X.A X.env X.xe)(hi:DI Z X tg iter wi)(hg:Fb Z X md tg g)(hb:uf Z X md rn body tb)
  (hs:∀x,foldedSetIterable iter X.env x=pure x:=by intro _;rfl):DSt Z X md rn (.For tg iter body [] pos) (NB md false wi g tb):=by
 refine (iQ hp hc hi hg hb hs).imp ?_;rintro D σ H ⟨B,ρ,E,⟨G,fp,S⟩,h,M⟩;exact ⟨G,_,_,S.ex.sub,S.Ay,h,λds hd J G1 H1 x1 it=>xK (S.grow x1) it hd M⟩
def LW(Z:DC)(wi:i9):TI:=λσ H R=>∃(G:Hp)(ρ:DN)(P:List D→Prop),aC G H∧dA Z G σ ρ∧wi ρ P∧∀ds,P ds→∀J G' H',Ext G H G' H'→(∀G2,ui Z G2 J ds)→R J H'
def RG(Z:DC)(X:Cx)(tg e:Expr)(wi:i9):Prop:=PI X tg e (LW Z wi)
theorem HV(hc:X.calm=true)(hp:PassesOwn (model X.prog X.w) X.A X.env X.xe)(hi:RG Z X tg iter wi)(hg:Fb Z X md tg g)(hb:uf Z X md rn body tb)
  (hs:∀x,foldedSetIterable iter X.env x=pure x:=by intro _;rfl):DSt Z X md rn (.For tg iter body [] pos) (NB md true wi g tb):=by
 refine (iQ hp hc hi hg hb hs).imp ?_;rintro D σ H ⟨B,ρ,E,⟨G,fp,S⟩,h,M⟩;exact ⟨H,ρ,_, .refl _,S.HZ,h,λds hd J G1 H1 x1 it=>xK (S.grow (Ext.all S.ex.sub x1)) (it _) hd M⟩
variable {a b e:Expr} {ta te:aP} {t:i8}
theorem Cd{p:Pos}(hg:Gl X "range")(hm:X.mg "range"=none)(ha:DA Z X [a] t)(hs:starEach [a] X.env= [(false,eval a X.env)]:=by rfl):RG Z X tg (.Call (.Name "range" p) [a] [] pos) (TM t):=by
 refine (kT hg hm ha hs).imp ?_;rintro σ H Q ⟨G,ρ,P,s,en,h,q⟩;refine ⟨G,ρ,_,s,en,h,λds hd vs G1 H1 x1 dv=>?_⟩
 split at hd
 ·obtain ⟨_,rfl,a⟩:=dv.ofOne
  exact ⟨_,by rw [a.ofInt],hd.1.1,hd.1.2,q _ hd.2 _ G1 H1 x1 λ_=>F5 0 _⟩
 ·exact hd.elim
def Ei(c:eo)(tb:dH):dH:=λE ρ=>∃W:Nat→DN→Prop,(∃m,W m ρ)∧∀m ρ,W m ρ→c ρ λb=>if b=true then tb {nx:=λaD=>∃m',m'<m∧W m' aD,ct:=λaD=>∃m',m'<m∧W m' aD,bk:=E.nx,rt:=E.rt} ρ else E.nx ρ
theorem xB{c:Expr}{tc:eo}(hp:PassesOwn (model X.prog X.w) X.A X.env X.xe)(hc:DT Z X c tc)(hb:uf Z X md rn body tb):DSt Z X md rn (.While c body [] pos) (Ei tc tb):=by
 refine (yd hp hc hb).imp ?_;rintro D σ H ⟨B,ρ,E,S,⟨W,⟨m0,w0⟩,turn⟩,M⟩;refine ⟨λm σ H=>∃ρ,SI Z B md ρ σ H∧W m ρ,⟨m0,ρ,S,w0⟩,?_⟩;rintro m cD H2 ⟨dQ,⟨G2,Cp,S2⟩,w2⟩;refine S2.T4 (turn m dQ w2) λb hb H' S'=>?_;cases b with
 |false=>exact fw (M.nx _ (by simpa using hb) _ _ ⟨G2,Cp,S'⟩)
 |true=>
  refine f7 ⟨λay H'=>∃aD m',m'<m∧SI Z B md aD ay H'∧W m' aD,λay H' ⟨aD,m',h1,h2,h3⟩=>⟨m',h1,aD,h2,h3⟩,B,dQ,_,⟨G2,Cp,S'⟩,(by simpa using hb),?_⟩
  exact ⟨λaD ⟨m',h1,h2⟩ ay H' s'=>⟨aD,m',h1,s',h2⟩,M.rt,M.nx,λaD ⟨m',h1,h2⟩ ay H' s'=>⟨aD,m',h1,s',h2⟩⟩
abbrev jV:=DN→(List D→Prop)→Prop
def vf(Z:DC)(n:Nat)(t:jV):TE:=λσ H Q=>∃(G:Hp)(ρ:DN)(P:List D→Prop),aC G H∧dA Z G σ ρ∧t ρ P∧∀ds,P ds→∀v f G' H',Ext G H G' H'→Own Z G' H' n v (.lst ds) f→f.Nodup→(∀b∈f,H b=none∧H' b≠none∧G' b=none)→Q v H'
def DF(Z:DC)(X:Cx)(n:Nat)(e:Expr)(t:jV):Prop:=PE X e (vf Z n t)
theorem Ext.side{p:Addr}{o:HO}{G1 H1:Hp}(x:Ext G H G1 H1)(hp:H1 p=none):Ext G H G1 (upd H1 p o):=
 ⟨x.gg,λb u e=>by rw [ab (ah e (x.sub.free hp))];exact x.sub _ _ e,x.hh.trans (av hp _),x.off⟩
theorem vy{p:Addr}{xs:List V}{ds:List D}{G1 H1:Hp}(x:Ext G H G1 H1)(hp:H1 p=none)(dv:ar Z G1 xs ds):
  Own Z G1 (upd H1 p (.lst xs)) 1 (.ref p) (.lst ds) [p]∧([p]:List Addr).Nodup∧∀b∈([p]:List Addr),H b=none∧(upd H1 p (.lst xs)) b≠none∧G1 b=none:=by
 refine ⟨.inl ⟨p,xs,ds,[],rfl,rfl,aa,rfl,dv.own⟩,by simp,λb hb=>?_⟩
 have:b=p:=by simpa using hb
 subst this;exact ⟨x.hh.free hp,(by rw [aa];exact λz=>nomatch z),x.sub.free hp⟩
def NP(t:i8):jV:=λρ P=>t ρ λds=>ds.length≤sizeLine∧P ds
theorem pY{es:List Expr}(h:DA Z X es t):DF Z X 1 (.List es pos) (NP t):=by
 refine (dF h).imp ?_;rintro σ H Q ⟨G,ρ,P,s,e,h,q⟩;refine ⟨G,ρ,_,s,e,h,?_⟩;rintro ds ⟨hl,hp⟩ vs G1 H1 x1 ba;refine ⟨by rw [ba.length];exact hl,λp uS=>?_⟩
 obtain ⟨o1,o2,o3⟩:=vy x1 uS ba;exact q _ hp _ _ _ _ (x1.side uS) o1 o2 o3
def Ib(te:aP):jV:=λρ P=>te ρ λd=>match d with
 | .lst l=>P l
 | .tup l=>P l
 |_=>False
theorem Aq{x:Str}{p:Pos}(hx:x="list")(hg:Gl X x)(hm:X.mg x=none)(hv:bootBuiltins x=some (.type "list"))(ha:DE Z X a ta)(hn:x≠"__name__":=by decide)(jM:(x==("__debug__":Str))=false:=by decide)
  (he:starEach [a] X.env=(false,eval a X.env)::starEach [] X.env:=by rfl) (dR:(backTo pos (starEach [] X.env)).any (·.1)=false:=by rfl):DF Z X 1 (.Call (.Name x p) [a] [] pos) (Ib ta):=by
 refine (pB oh hg hm hv (ae ha aq he) hn jM he dR).imp ?_;rintro σ H Q ⟨G,ρ,P,s,e,h,q⟩;refine ⟨G,ρ,_,s,e,h,λd hd v G1 H1 x1 dv=>?_⟩;cases dv<;>first|exact hd.elim|skip
 ·rename_i h e
  refine ⟨_,_,rfl, .inl (aH.of (x1.sub _ _ h)),λp hp=>?_⟩;obtain ⟨o1,o2,o3⟩:=vy x1 hp e;exact q _ hd _ _ _ _ (x1.side hp) o1 o2 o3
 ·rename_i h e
  refine ⟨_,_,rfl, .inr (dX.of (x1.sub _ _ h)),λp hp=>?_⟩;obtain ⟨o1,o2,o3⟩:=vy x1 hp e;exact q _ hd _ _ _ _ (x1.side hp) o1 o2 o3
def Pu(wi:i9)(g:dW)(tt:eo)(te:aP)(src:List (Option Nat)):jV:=λρ P=>wi ρ λds=>lcW g tt te ds (vQ src ρ) [] λ_ out=>P out
theorem AY{src:List (Option Nat)}{tt:eo}:∀σ H Q,vf Z 1 (Pu wi g tt te src) σ H Q→Ky (rL Z wi) (pj Z g) (liftT Z tt) (dM Z te) src σ H Q:=by
 rintro σ H Q ⟨G,ρ,P,s,en,h,q⟩;refine ⟨G,ρ,_,s,en,h,λds hd J G1 H1 x1 it Ad hA=>?_⟩;refine ⟨λi m cD H2=>m=ds.length-i∧i≤ds.length∧∃dQ acc,CS Z G1 H1 Ad dQ acc cD H2∧lcW g tt te (ds.drop i) dQ acc λ_ out=>P out,⟨_,rfl,cS _,_,[], .begin x1.sub hA ((en.mono x1.gg).src src),hd⟩,?_⟩;rintro i m cD H2 ⟨rfl,hi,dQ,acc,c,hl⟩
 by_cases bG:i<ds.length
 ·obtain ⟨go,turn⟩:=xV hA G1 it i dQ acc cD H2 c (λ_ s=>s) bG hl
  exact .inr ⟨go,_,λay H' n=>⟨ds.length-(i+1),by omega,rfl,bG,n⟩,turn⟩
 ·have e:ds.drop i= []:=wy (by omega)
  rw [e] at hl;obtain ⟨G2,ys,s1,s2,s3,off,gA,oY,ba,en⟩:=c;refine .inl ⟨(it G2 H2 s1 s2 i).2.1 (by omega),q _ hl (.ref Ad) [Ad] G2 H2 ⟨x1.gg.trans s1,s2,x1.hh.trans s3,λb hb hg=>off b (fL x1.hh hb) (x1.off b hb hg)⟩ (.inl ⟨Ad,ys,acc,[],rfl,rfl,oY,rfl,ba.own⟩) (by simp) λb hb=>?_⟩
  have:b=Ad:=by simpa using hb
  subst this;exact ⟨x1.hh.free hA,(by rw [oY];exact λz=>nomatch z),gA⟩
variable {elt:Expr} {ifs:List Expr} {scope:Scope} {NC:List Str} {src:List (Option Nat)} {tt:eo}
def HB(md:List Nat)(i:Nat)(t:jV):dH:=λE ρ=>t (dr md ρ) λds=>E.nx (ρ.set i (some (.lst ds)))
theorem rO{n i:Nat}{t:jV}{D':Ends}{E:gw}(hm:md.getD i 0=n)(S:SIx Z B md ρ σ H G fp)(h:t (dr md ρ) λds=>E.nx (ρ.set i (some (.lst ds))))(M:Meets Z B md rn E D'):vf Z n t σ H λv H'=>D'.nx (σ.set i (some v)) H':=by
 refine ⟨G,_,_,S.ex.sub,S.Ay,h,λds hd v f G' H' x o nd nw=>?_⟩;refine M.nx _ hd _ _ ⟨G',_,(S.grow x).Oy hm o nd (λb hb=>⟨S.ex.hh.free (nw b hb).1,(nw b hb).2⟩) λb hb j _ hj=>(S.nw j b hj).2.1 (nw b hb).1⟩
theorem p6(i:Nat){n:Nat}{x:Str}{pos':Pos}{t:jV}(hN:X.N.Nodup)(he:DF Z X n e t)(hm:md.getD i 0=n:=by rfl)(hi:X.N[i]? =some x:=by rfl)(hx:Loc X.env.scope x:=by first|exact Or.inl rfl|exact Or.inr rfl)(hs:swapsWith e (some (.Name x pos')) pos.line X.env=pure false:=by rfl)
  (hf:X.fn x=true∨X.env.scope.names.lookup x=some .local:=by first|exact .inl rfl|exact .inr rfl|assumption):DSt Z X md rn (.Assign [.Name x pos'] e pos) (HB md i t):=by
 refine (bP hN hi hx he hs hf).imp ?_;rintro D σ H ⟨B,ρ,E,⟨G,fp,S⟩,h,M⟩;exact rO hm S h M
theorem Fw(i:Nat){x:Str}{px jH:Pos}(hc:X.calm=true)(hN:X.N.Nodup)(c:bp X scope)(fv:dj scope X.N src NC)(hi:DI Z X tg iter wi)
  (hg:∀ex s H,DG Z (cW X scope NC ex s H) tg g) (ht:∀ex s H,zZ Z (cW X scope NC ex s H) ifs tt) (he:∀ex s H,DE Z (cW X scope NC ex s H) elt te)
  (kH:swapsWith (.ListComp elt [⟨tg,iter,ifs,0⟩] scope pos) (some (.Name x px)) jH.line X.env=pure true:=by rfl) (hm:md.getD i 0=1:=by rfl) (fj:X.N[i]? =some x:=by rfl) (hx:Loc X.env.scope x:=by first|exact Or.inl rfl|exact Or.inr rfl)
  (hf:X.fn x=true∨X.env.scope.names.lookup x=some .local:=by first|exact .inl rfl|exact .inr rfl|assumption)
  (hs:∀x,foldedSetIterable iter X.env x=pure x:=by intro _;rfl):DSt Z X md rn (.Assign [.Name x px] (.ListComp elt [⟨tg,iter,ifs,0⟩] scope pos) jH) (HB md i (Pu wi g tt te src)):=by
 refine (iZ hc hN fj hx c fv hi hg ht he kH hf hs).imp ?_;rintro D σ H ⟨B,ρ,E,⟨G,fp,S⟩,h,M⟩;exact AY σ H _ (rO hm S h M)
end
section
variable {Z:DC} {X:Cx} {B:Bs} {md:List Nat} {rn:Nat} {ρ:DN} {σ:St} {H G:Hp} {fp:Nat→List Addr} {a e k o:Expr} {ta te tk tp:aP} {pos apos aG p2:Pos}
theorem SIx.mut{i:Nat}{v:V}{d':D}{b:Addr}{c:HO}(S:SIx Z B md ρ σ H G fp)(hi:σ[i]? =some (some v))(hb:b∈fp i)(o:Own Z G (upd H b c) (md.getD i 0) v d' (fp i)):SIx Z B md (ρ.set i (some d')) σ (upd H b c) G fp where
 ex:=by
  obtain ⟨h1,h2,h3⟩:=S.nw i b hb;exact ⟨S.ex.gg,λx u e=>by rw [ab (ah e h3)];exact S.ex.sub _ _ e,λx u e=>by rw [ab (ah e h1)];exact S.ex.hh _ _ e,S.ex.off⟩
 fl:=S.fl
 len:=by rw [gm];exact S.len
 at_:=λj w h=>by
  by_cases z:i=j
  ·subst z
   by_cases hl:i<ρ.length
   ·rw [mY hl] at h
    cases h;exact ⟨v,hi,o⟩
   ·rw [BK (lI hl),gf (lI hl)] at h;cases h
  ·rw [tx z] at h
   obtain ⟨u,hu,ow⟩:=S.at_ j w h;exact ⟨u,hu,ow.keep (.refl _) λx hx=>ab λq=>S.ap i j b z hb (by rw [←q];exact hx)⟩
 nd:=S.nd
 ap:=S.ap
 nw:=λj x hx=>by
  obtain ⟨h1,h2,h3⟩:=S.nw j x hx;refine ⟨h1,?_,h3⟩
  by_cases z:x=b
  ·rw [z,aa];exact λq=>nomatch q
  ·rw [ab z];exact h2
theorem SIx.one{i:Nat}{d:D}(S:SIx Z B md ρ σ H G fp)(hm:md.getD i 0=1)(h:ρ[i]? =some (some d)):∃l xs ds,d= .lst ds∧σ[i]? =some (some (.ref l))∧H l=some (.lst xs)∧ar Z G xs ds∧
  ∀iD hJ,ar Z G iD hJ→SIx Z B md (ρ.set i (some (.lst hJ))) σ (upd H l (.lst iD)) G fp:=by
 obtain ⟨v,hv,o⟩:=S.at_ i d h;rw [hm] at o;obtain ⟨l,xs,ds,eZ,rfl,rfl,hl,hf,ol⟩:=o.one;obtain ⟨dv,rfl⟩:=ol.flat;refine ⟨l,xs,ds,rfl,hv,hl,dv,λiD hJ oR=>S.mut hv (by rw [hf];simp) ?_⟩
 rw [hm,hf];exact .inl ⟨l,iD,hJ,[],rfl,rfl,aa,rfl,oR.own⟩
theorem cG.nZ:∀{ys:List V}{eL:List D}{eZ:List Addr}(p:Nat){dp:D},cG (Own Z G H 1) ys eL eZ→eZ.Nodup→eL[p]? =some dp→∃l xs ds,dp= .lst ds∧ys[p]? =some (.ref l)∧H l=some (.lst xs)∧ar Z G xs ds∧l∈eZ∧
  ∀iD hJ,ar Z G iD hJ→cG (Own Z G (upd H l (.lst iD)) 1) ys (eL.set p (.lst hJ)) eZ
 |_,_,_,_,_, .nil,_,h=>by simp at h
 |_,_,_,0,dp, .cons (f:=f) (fs:=fs) a as,nd,h=>by
  simp at h;subst h;obtain ⟨l,xs,ds,eZ,rfl,rfl,hl,hf,ol⟩:=a.one;obtain ⟨dv,rfl⟩:=ol.flat;subst hf;refine ⟨l,xs,ds,rfl,rfl,hl,dv,by simp,λiD hJ oR=> .cons (.inl ⟨l,iD,hJ,[],rfl,rfl,aa,rfl,oR.own⟩) (as.imp λv d f hf r=>r.keep (.refl _) λb hb=>ab λz=>?_)⟩
  have:=(fz.mp nd).1
  exact this (by subst z;exact hf _ hb)
 |_,_,_,p+1,dp, .cons (f:=f) (fs:=fs) a as,nd,h=>by
  obtain ⟨rN,n9,vk⟩:=cJ.mp nd;obtain ⟨l,xs,ds,e1,e2,e3,e4,e5,e6⟩:=cG.nZ p (dp:=dp) as n9 (by simpa using h)
  refine ⟨l,xs,ds,e1,by simpa using e2,e3,e4,cY _ e5,λiD hJ oR=>?_⟩
  refine .cons (a.keep (.refl _) λb hb=>ab λz=>?_) (e6 iD hJ oR);exact vk b hb l e5 z
theorem SIx.two{i p:Nat}{eL:List D}{dp:D}(S:SIx Z B md ρ σ H G fp)(hm:md.getD i 0=2)(h:ρ[i]? =some (some (.lst eL)))(hp:eL[p]? =some dp):∃T ys l xs ds,dp= .lst ds∧σ[i]? =some (some (.ref T))∧H T=some (.lst ys)∧ys.length=eL.length∧ys[p]? =some (.ref l)∧H l=some (.lst xs)∧ar Z G xs ds∧
  ∀iD hJ,ar Z G iD hJ→SIx Z B md (ρ.set i (some (.lst (eL.set p (.lst hJ))))) σ (upd H l (.lst iD)) G fp:=by
 obtain ⟨v,hv,o⟩:=S.at_ i _ h;rw [hm] at o;obtain ⟨T,ys,HR,eZ,rfl,e0,hT,hf,ol⟩:=o.lst;cases e0;have nd:=S.nd i;rw [hf] at nd;obtain ⟨nT,n9⟩:=fz.mp nd;obtain ⟨l,xs,ds,e1,e2,e3,e4,e5,e6⟩:=cG.nZ p ol n9 hp;refine ⟨T,ys,l,xs,ds,e1,hv,hT,ol.length,e2,e3,e4,λiD hJ oR=>S.mut hv (by rw [hf];exact cA _ e5) ?_⟩
 rw [hm,hf];exact .inl ⟨T,ys,_,eZ,rfl,rfl,by rw [ab (λz=>nT (by rw [z];exact e5))];exact hT,rfl,e6 iD hJ oR⟩
theorem ty_list{K:PySem.W.Frag}{l:Addr}{xs:List V}(h:H l=some (.lst xs)):MZ K "list" (.ref l) H:= .inl ⟨rfl,_,aH.of h⟩
def SW(md:List Nat)(m:Bool)(i:Nat)(te:aP):dH:=λE ρ=>∃ds,ρ[i]? =some (some (.lst ds))∧te (DZ md m ρ) λd=>p7 m d∧ds.length<sizeLine∧E.nx (ρ.set i (some (.lst (ds++ [d]))))
theorem yL(m:Bool)(i:Nat){x:Str}{px:Pos}(he:DE Z X e te)(hm:md.getD i 0=1:=by rfl)(hi:X.N[i]? =some x:=by rfl)(hv:rf X.env.scope x:=by first|exact Or.inl rfl|exact Or.inr (Or.inl rfl) |exact Or.inr (Or.inr rfl))(hd:(x==("__debug__":Str))=false:=by decide)(fR:(x==("__classdict__":Str))=false:=by decide)
  (b7:attributeBase (.Name x px) "append" X.env (eval (.Name x px) X.env)=eval (.Name x px) X.env:=by rfl)
  (fF:((backTo aG (starEach [e] X.env)).all (λx=>!x.1)&&(backToKw aG (keywordEach [] X.env)).all (λx=>x.1.isSome)&&decide (([e]:List Expr).length+([]:List Keyword).length+(if ([]:List Keyword).isEmpty then 0 else 1)<30))=true:=by rfl)
  (bE:(apos.endLine==aG.line)=true:=by rfl) (hs:starEach [e] X.env=(false,eval e X.env)::starEach [] X.env:=by rfl) (cf:(backTo aG (starEach [] X.env)).any (·.1)=false:=by rfl)
  (kH:swapsWith (.Call (.Attribute (.Name x px) "append" apos) [e] [] aG) none pos.line X.env=pure false:=by rfl):
  DSt Z X md rn (.Expr (.Call (.Attribute (.Name x px) "append" apos) [e] [] aG) pos) (SW md m i te):=by
 refine (cN (dZ PySem.F.plainAttrs_list PySem.F.slot_list_append PySem.F.type_list_append fW (pv i hi hv hd fR) (ae he aq hs) b7 fF bE hs cf) kH).imp ?_;rintro D σ H ⟨B,ρ,E,⟨G,fp,S⟩,⟨ds,h1,h⟩,M⟩;obtain ⟨l,xs,_,_,e2,e3,_⟩:=S.one hm h1;refine ⟨_,e2,ty_list e3,S.ev m h λd hd=>⟨hd.1,λv G' H' S' x dv=>?_⟩⟩;obtain ⟨_,h2,h3⟩:=hd;obtain ⟨l',iD,hJ,e1,kF,Cj,ba,put⟩:=S'.one hm h1;cases e1;rw [e2] at kF;cases kF;exact ⟨l,iD,v,rfl,rfl,Cj,by rw [ba.length];exact h2,M.nx _ h3 _ _ ⟨G',fp,put _ _ (ba.snoc dv)⟩⟩
def Hu(md:List Nat)(m:Bool)(i:Nat)(tp te:aP):dH:=λE ρ=>∃eL,ρ[i]? =some (some (.lst eL))∧tp ρ λpp=>∃p j ds,pp= .int p∧iw eL.length p=some j∧eL[j]? =some (.lst ds)∧
 te (DZ md m ρ) λd=>p7 m d∧ds.length<sizeLine∧E.nx (ρ.set i (some (.lst (eL.set j (.lst (ds++ [d]))))))
theorem Ef{α:Type}{xs:List α}{i:Int}{j n:Nat}{v:α}(hn:xs.length=n)(h:iw n i=some j)(e:xs[j]? =some v):fB xs i=some v:=by unfold fB;rw [hn,h];exact e
theorem HU(m:Bool)(i:Nat){x:Str}{px ps:Pos}(hp:DE Z X k tp)(he:DE Z X e te)(hm:md.getD i 0=2:=by rfl)(y0:lQ k:=by exact λ_ _=>rfl)(hi:X.N[i]? =some x:=by rfl)(hv:rf X.env.scope x:=by first|exact Or.inl rfl|exact Or.inr (Or.inl rfl) |exact Or.inr (Or.inr rfl))(hd:(x==("__debug__":Str))=false:=by decide)(fR:(x==("__classdict__":Str))=false:=by decide)
  (b7:attributeBase (.Subscript (.Name x px) k ps) "append" X.env (eval (.Subscript (.Name x px) k ps) X.env)=eval (.Subscript (.Name x px) k ps) X.env:=by rfl)
  (fF:((backTo aG (starEach [e] X.env)).all (λx=>!x.1)&&(backToKw aG (keywordEach [] X.env)).all (λx=>x.1.isSome)&&decide (([e]:List Expr).length+([]:List Keyword).length+(if ([]:List Keyword).isEmpty then 0 else 1)<30))=true:=by rfl)
  (bE:(apos.endLine==aG.line)=true:=by rfl) (hs:starEach [e] X.env=(false,eval e X.env)::starEach [] X.env:=by rfl) (cf:(backTo aG (starEach [] X.env)).any (·.1)=false:=by rfl)
  (kH:swapsWith (.Call (.Attribute (.Subscript (.Name x px) k ps) "append" apos) [e] [] aG) none pos.line X.env=pure false:=by rfl):
  DSt Z X md rn (.Expr (.Call (.Attribute (.Subscript (.Name x px) k ps) "append" apos) [e] [] aG) pos) (Hu md m i tp te):=by
 refine (cN (dZ PySem.F.plainAttrs_list PySem.F.slot_list_append PySem.F.type_list_append fW (b9 bx (pv i hi hv hd fR) hp y0) (ae he aq hs) b7 fF bE hs cf) kH).imp ?_;rintro D σ H ⟨B,ρ,E,⟨G,fp,S⟩,⟨eL,h1,h⟩,M⟩;obtain ⟨v0,j6,o⟩:=S.at_ i _ h1;refine ⟨_,j6,S.ev true h ?_⟩;rintro _ ⟨p,j,ds,rfl,hj,hd,h⟩;refine ⟨rfl,λv1 G1 H1 S1 x1 HY=>?_⟩;cases HY;obtain ⟨T,ys,l,xs,hJ,e1,e2,e3,e4,e5,e6,ba,_⟩:=S1.two hm h1 hd;rw [e2] at j6;cases j6;refine ⟨T,ys,p, .ref l,rfl,rfl,aH.of e3,Ef e4 hj e5,ty_list e6,S1.ev m h λd j4=>⟨j4.1,λv G' H' S' x dv=>?_⟩⟩;obtain ⟨T',ys',l',iD,jZ,ZH,kF,Cj,e4',TY,ZI,NL,put⟩:=S'.two hm h1 hd;cases ZH;rw [e2] at kF;cases kF
 have:ys'=ys:=by
  have:=x.hh _ _ e3
  rw [Cj] at this;cases this;rfl
 rw [this,e5] at TY;cases TY;exact ⟨l,iD,v,rfl,rfl,ZI,by rw [NL.length];exact j4.2.1,M.nx _ j4.2.2 _ _ ⟨G',fp,put _ _ (NL.snoc dv)⟩⟩
def K8(md:List Nat)(m:Bool)(i:Nat)(tk te:aP):dH:=λE ρ=>te (DZ md m ρ) λd=>p7 m d∧∃ds,ρ[i]? =some (some (.lst ds))∧tk ρ λkk=>∃k j,kk= .int k∧iw ds.length k=some j∧E.nx (ρ.set i (some (.lst (ds.set j d))))
theorem xy(m:Bool)(i:Nat){x:Str}{px ps:Pos}(hk:DE Z X k tk)(he:DE Z X e te)(hm:md.getD i 0=1:=by rfl)(hi:X.N[i]? =some x:=by rfl)(hv:rf X.env.scope x:=by first|exact Or.inl rfl|exact Or.inr (Or.inl rfl) |exact Or.inr (Or.inr rfl))(hd:(x==("__debug__":Str))=false:=by decide)(fR:(x==("__classdict__":Str))=false:=by decide)
  (ha:∀v,assign (.Subscript (.Name x px) k ps) X.env v=(do
   let ov ←holding [v] (eval (.Name x px) X.env)
   let iv ←holding [v,ov] (eval k X.env)
   standAt ps
   holding [v,ov,iv] (setItem ov iv v)
   release [v,ov,iv] []):=by intro _;rfl)
  (hs:swapsWithSole [.Subscript (.Name x px) k ps] e pos.line X.env=pure false:=by rfl) (hw:swappedStores [.Subscript (.Name x px) k ps] e X.env=pure none:=by rfl)
  (h1:(assignEach [.Subscript (.Name x px) k ps] X.env).map (·.2)= [assign (.Subscript (.Name x px) k ps) X.env]:=by rfl):DSt Z X md rn (.Assign [.Subscript (.Name x px) k ps] e pos) (K8 md m i tk te):=by
 refine (nP he (zy (pv i hi hv hd fR) hk set_list ha) hs hw h1).imp ?_;rintro D σ H ⟨B,ρ,E,⟨G,fp,S⟩,h,M⟩;refine S.ev m h λd hd=>⟨hd.1,λv G' H' S' x dv=>?_⟩;obtain ⟨_,ds,h1,h⟩:=hd;obtain ⟨l,xs,_,_,e2,e3,_⟩:=S'.one hm h1;refine ⟨_,e2,S'.ev true h ?_⟩;rintro _ ⟨k,j,rfl,hj,h3⟩;refine ⟨rfl,λv1 G1 H1 S1 x1 HY=>?_⟩;cases HY;obtain ⟨l',iD,hJ,e1,kF,Cj,ba,put⟩:=S1.one hm h1;cases e1;rw [e2] at kF;cases kF;exact ⟨l,iD,k,j,rfl,rfl,Cj,by rw [ba.length];exact hj,M.nx _ h3 _ _ ⟨G1,fp,put _ _ (ba.set (dv.mono x1.gg) j)⟩⟩
def Td(md:List Nat)(i j:Nat):dH:=λE ρ=>∃ds d,ρ[j]? =some (some (.lst (ds++ [d])))∧E.nx ((ρ.set j (some (.lst ds))).set i (some d))
theorem Lj(i j:Nat){x y:Str}{px py:Pos}(hN:X.N.Nodup)(hm:md.getD i 0=0:=by rfl)(Qf:md.getD j 0=1:=by rfl)(hi:X.N[i]? =some x:=by rfl)(hx:Loc X.env.scope x:=by first|exact Or.inl rfl|exact Or.inr rfl)
  (hj:X.N[j]? =some y:=by rfl) (hv:rf X.env.scope y:=by first|exact Or.inl rfl|exact Or.inr (Or.inl rfl) |exact Or.inr (Or.inr rfl)) (hd:(y==("__debug__":Str))=false:=by decide) (fR:(y==("__classdict__":Str))=false:=by decide)
  (b7:attributeBase (.Name y py) "pop" X.env (eval (.Name y py) X.env)=eval (.Name y py) X.env:=by rfl) (bE:(apos.endLine==aG.line)=true:=by rfl)
  (hs:swapsWith (.Call (.Attribute (.Name y py) "pop" apos) [] [] aG) (some (.Name x px)) pos.line X.env=pure false:=by rfl)
  (hf:X.fn x=true∨X.env.scope.names.lookup x=some .local:=by first|exact .inl rfl|exact .inr rfl|assumption):DSt Z X md rn (.Assign [.Name x px] (.Call (.Attribute (.Name y py) "pop" apos) [] [] aG) pos) (Td md i j):=by
 refine (bP hN hi hx (EE PySem.F.plainAttrs_list PySem.F.slot_list_pop PySem.F.type_list_pop LY (pv j hj hv hd fR) b7 bE) hs hf).imp ?_;rintro D σ H ⟨B,ρ,E,⟨G,fp,S⟩,⟨ds,d,h1,h⟩,M⟩;obtain ⟨l,xs,hJ,e1,e2,e3,ba,put⟩:=S.one Qf h1;cases e1;have hl:xs.length=ds.length+1:=by rw [ba.length];simp
 obtain ⟨v,Qt,dv⟩:=ba.get (i:=xs.length-1) (d:=d) (by rw [hl];simp)
 refine ⟨_,e2,ty_list e3,l,xs,v,rfl,rfl,e3,Qt,M.nx _ h _ _ ⟨G,_,(put xs.dropLast ds ?_).mQ hm dv⟩⟩
 have:=ba.take ds.length
 rw [List.take_left'] at this
 ·rw [List.dropLast_eq_take,hl];exact this
 ·rfl
end
structure RD (mg:Str→Option Value):Prop where
 len:mg "len"=none
 range:mg "range"=none
 max:mg "max"=none
 min:mg "min"=none
 enumerate:mg "enumerate"=none
 zip:mg "zip"=none
 sorted:mg "sorted"=none
 all:mg "all"=none
 isinstance:mg "isinstance"=none
 int:mg "int"=none
 bool:mg "bool"=none
 list:mg "list"=none
 tuple:mg "tuple"=none
 sum:mg "sum"=none
 reversed:mg "reversed"=none
theorem Hk:bootBuiltins "bool"=some (.type "bool"):=by decide+kernel
theorem K0:bootBuiltins "int"=some (.type "int"):=by decide+kernel
theorem jY:bootBuiltins "list"=some (.type "list"):=by decide+kernel
theorem kA:bootBuiltins "sorted"=some (.builtin "sorted"):=by decide+kernel
theorem jz:bootBuiltins "len"=some (.builtin "len"):=by decide+kernel
theorem Fi:bootBuiltins "range"=some (.type "range"):=by decide+kernel
section
variable {P:Program} {w:World} {K:PySem.W.Frag} {mg:Str→Option Value} {base:Heap} {Z:DC}
def ud(N:List Str)(ds:List D):DN:=ds.map some++List.replicate (N.length-ds.length) none
def vg(Z:DC)(n:Nat)(sd:eW):Sp:=λvs H Q _=>∃(G:Hp)(ds:List D)(P:D→Prop),aC G H∧ar Z G vs ds∧sd ds P∧∀d,P d→∀v f G' H',Ext G H G' H'→Own Z G' H' n v d f→f.Nodup→(∀b∈f,H b=none∧H' b≠none∧G' b=none)→Q v H'
theorem Own.pure{n:Nat}{v:V}{d:D}{f:List Addr}{G H G' H':Hp}(x:Ext G H G' H')(o:Own Z G' H' n v d f)(nw:∀b∈f,H b=none∧H' b≠none∧G' b=none):∃G2,Ext G H G2 H'∧Dv Z G2 v d:=by
 refine ⟨plus G' H' λb=>b∈f,⟨x.gg.trans (iY x.sub),kj x.sub,x.hh,λb hb hg=>?_⟩,o.dv (iY x.sub) λb hb u e=>by rw [e7 hb];exact e⟩
 rw [dO (λz=>hb (nw b z).1)];exact x.off b hb hg
theorem Rh{n:Nat}{sd:eW}:∀vs H Q E,aW Z sd vs H Q E→vg Z n sd vs H Q E:=by
 rintro vs H Q E ⟨G,ds,P,s,dv,h,q⟩;exact ⟨G,ds,P,s,dv,h,λd hd v f G' H' x o nd nw=>let ⟨G2,x2,Ci⟩:=o.pure x nw;q d hd v G2 H' x2 Ci⟩
theorem xH(rn:Nat){x qual:Str}{st:Stmt}{f:Addr}{fd:FuncData}{N ps:List Str}{k:Nat}{sd:eW}(F:wH K x qual st f fd)(S:aL N ps (ao st))(md:List Nat)(Qe:∀i,i<ps.length→md.getD i 0=0)(len:∀ds P,sd ds P→ds.length=ps.length)
  (oZ:∀(bu:Value)(A:Around)(outer:List Env)(s:Shared)(H:Hp)(E:XK)(ds:List D)(R:D→Prop),cH k (A.deeper (envOfC qual (ao st) s.heap.objs.size f bu))→sd ds R→
   ∃t,uf Z (pT cq P w K mg base N qual (ao st) f bu A outer s H E).jw md rn (eY st) t∧t {nx:=λ_=>rn=0∧R .aM,rt:=R} (ud N ds)):FnOk P w K mg base cq (k+1) f fd ps (vg Z rn sd):=by
 refine F.ok S (λvs H Q E h=>?_) (λbu A outer s H vs Q E hr h=>?_)
 ·obtain ⟨G,ds,R,s,dv,h,q⟩:=h
  rw [dv.length];exact len _ _ h
 obtain ⟨G,ds,R,s0,dv,h,q⟩:=h;have U8:=q;obtain ⟨t,ht,hq⟩:=oZ bu A outer s H E ds R hr h;have hl:=len _ _ h;refine ⟨_,ht,⟨G,H,G⟩,_,_,⟨G,λ_=> [],?_⟩,hq,⟨λρ Vi ay H' ⟨G',fp,S'⟩=>q _ Vi.2 _ [] G' H' S'.ex (by rw [Vi.1];exact ⟨.aM,rfl⟩) kr (λb hb=>by cases hb),U8,λ_ z=>z.elim,λ_ z=>z.elim⟩⟩
 refine ⟨.refl s0, .refl _,by unfold ud start;simp [dv.length],λi d hi=>?_,λ_=>kr,(λ_ _ _ _ z=>by cases z),(λ_ _ z=>by cases z)⟩
 unfold ud at hi
 have Cz:i<ds.length:=by
  apply Classical.byContradiction;intro z;rw [jt (by simpa using lI z),BL] at hi
  split at hi<;>cases hi
 rw [jK (by simpa using Cz),bW] at hi
 have j4:ds[i]? =some d:=by
  cases z:ds[i]? with
  |none=>rw [z] at hi;cases hi
  |some d'=>rw [z] at hi;cases hi;rfl
 obtain ⟨v,hv,oR⟩:=dv.get j4;refine ⟨v,?_,by rw [Qe i (by omega)];exact ⟨oR,rfl⟩⟩
 unfold start;rw [jK (by simpa [dv.length] using Cz),bW,hv];rfl
theorem bR{x qual:Str}{st:Stmt}{f:Addr}{fd:FuncData}{N ps:List Str}{k:Nat}{sd:eW}(F:wH K x qual st f fd)(S:aL N ps (ao st))(md:List Nat)(Qe:∀i,i<ps.length→md.getD i 0=0)(len:∀ds P,sd ds P→ds.length=ps.length)
  (oZ:∀(bu:Value)(A:Around)(outer:List Env)(s:Shared)(H:Hp)(E:XK)(ds:List D)(R:D→Prop),cH k (A.deeper (envOfC qual (ao st) s.heap.objs.size f bu))→sd ds R→
   ∃t,uf Z (pT cq P w K mg base N qual (ao st) f bu A outer s H E).jw md 0 (eY st) t∧t {nx:=λ_=>0=0∧R .aM,rt:=R} (ud N ds)):FnOk P w K mg base cq (k+1) f fd ps (aW Z sd):=
 (xH 0 F S md Qe len λbu A outer s H E ds R hr h=>let ⟨t,a,b⟩:=oZ bu A outer s H E ds R hr h;⟨t,a,b⟩).imp Rh
end
section
variable {Z:DC} {X:Cx} {a b c e o:Expr} {ta tb te:aP} {t:i8} {es:List Expr} {pos apos:Pos}
def NI(ta:aP):aP:=λρ P=>ta ρ λd=>match d with
 | .int i=>P (.int (-i))
 |_=>False
theorem Lc(ha:DE Z X a ta):DE Z X (.UnaryOp .USub a pos) (NI ta):=by
 refine (Q3 M0 ha).imp ?_;rintro σ H Q ⟨G,ρ,P,s,en,h,q⟩;refine ⟨G,ρ,_,s,en,h,λd hd v G1 H1 x1 dv=>?_⟩;cases dv<;>first|exact hd.elim|skip
 exact ⟨_,rfl,q _ hd _ G1 H1 x1 (.int _)⟩
theorem uJ{G:Hp}:∀{vs:List V}{ns:List Int},ar Z G vs (ns.map D.int)→vs=ns.map V.int
 |vs,[],h=>by cases h;rfl
 |vs,b::bs,h=>by
  cases h with
  |cons a as=>cases a;rw [uJ as];rfl
def KY:eW:=λds P=>∃ns:List Int,ds= [.lst (ns.map D.int)]∧ns.length<64∧∀ms:List Int,ms.Perm ns→ms.Pairwise (·≤·)→P (.lst (ms.map D.int))
theorem Fl:bZ X (.builtin "sorted") (jj Z KY):=by
 refine wM.imp ?_;rintro xs H Q ⟨G,ds,P,s,dv,⟨ns,rfl,hl,hp⟩,q⟩;cases dv with
 |cons a as=>
  cases as;cases a with
  |lst h e=>
   refine ⟨_,ns,rfl,aH.of (by rw [←uJ e];exact s _ _ h),hl,λp ms hn h1 h2=>?_⟩
   exact q _ (hp ms h1 h2) _ _ _ (.new s hn) (.lst aa (.ints ms))
def pairD(k:Nat×Nat):D:= .tup [.int (k.1:Nat), .int (k.2:Nat)]
def KZ:eW:=λds P=>∃ns:List (Nat×Nat),ds= [.lst (ns.map pairD)]∧ns.length≤1000∧∀ms:List (Nat×Nat),ms.Perm ns→ms.Pairwise Wb.lexLe→P (.lst (ms.map pairD))
theorem xD{G:Hp}:∀{vs:List V}{ns:List (Nat×Nat)},ar Z G vs (ns.map pairD)→∃L:List (Addr×(Nat×Nat)),vs=L.map (λe=>V.ref e.1)∧L.map (·.2)=ns∧oN G L
 |vs,[],h=>by cases h;exact ⟨[],rfl,rfl,λp hp=>by cases hp⟩
 |vs,n::ns,h=>by
  cases h with
  |cons a as=>
   obtain ⟨L,h1,h2,h3⟩:=xD as;unfold pairD at a;cases a with
   | @tup p xs ds hp e=>
    refine ⟨(p,n)::L,by rw [h1];rfl,by rw [←h2];rfl,λq hq=>?_⟩
    rcases bV.mp hq with rfl|hq
    ·have:xs=gG n:=by
      cases e with
      |cons a1 a2=>
       cases a2 with
       |cons b1 b2=>cases a1;cases b1;cases b2;rfl
     rw [←this];exact hp
    ·exact h3 q hq
theorem oN.dv{G:Hp}:∀{L:List (Addr×(Nat×Nat))},oN G L→ar Z G (L.map λe=>V.ref e.1) ((L.map (·.2)).map pairD)
 | [],_=> .nil
 |x::L,h=> .cons (.tup (h x (cC ..)) (.cons (.int _) (.cons (.int _) .nil))) (oN.dv λp hp=>h p (cA _ hp))
theorem xn:bZ X (.builtin "sorted") (jj Z KZ):=by
 refine wN.imp ?_;rintro xs H Q ⟨G,ds,P,s,dv,⟨ns,rfl,hl,hp⟩,q⟩;cases dv with
 |cons a as=>
  cases as;cases a with
  | @lst p iD ds h e=>
   obtain ⟨L,rfl,h2,h3⟩:=xD e;have hL:L.length=ns.length:=by rw [←h2];simp
   refine ⟨_,L,rfl,aH.of (s _ _ h),λp hp=>s _ _ (h3 p hp),by omega,λp M hn m1 m2=>?_⟩
   have pm:(M.map (·.2)).Perm ns:=by rw [←h2];exact m1.map _
   have hM:oN (upd G p (.lst (M.map λe=>V.ref e.1))) M:=λx hx=>av (s.free hn) _ _ _ (h3 x (m1.mem_iff.mp hx));exact q _ (hp _ pm m2) _ _ _ (.new s hn) (.lst aa hM.dv)
def K5(ta tb:aP):aP:=λρ P=>ta ρ λd=>∃l,d= .lst l∧tb ρ λy=>iq y=true∧l.all iq=true∧∃(j:Nat)(z:D),l[j]? =some z∧jC z y=true∧(∀(m:Nat) z,m<j→l[m]? =some z→jC z y=false)∧P (.int (j:Nat))
theorem Fp{aG:Pos}(ho:DE Z X o ta)(he:DE Z X e tb)
  (b7:attributeBase o "index" X.env (eval o X.env)=eval o X.env:=by rfl)
  (fF:((backTo aG (starEach [e] X.env)).all (λx=>!x.1)&&(backToKw aG (keywordEach [] X.env)).all (λx=>x.1.isSome)&&decide (([e]:List Expr).length+([]:List Keyword).length+(if ([]:List Keyword).isEmpty then 0 else 1)<30))=true:=by rfl)
  (bE:(apos.endLine==aG.line)=true:=by rfl) (hs:starEach [e] X.env=(false,eval e X.env)::starEach [] X.env:=by rfl) (cf:(backTo aG (starEach [] X.env)).any (·.1)=false:=by rfl):
  DE Z X (.Call (.Attribute o "index" apos) [e] [] aG) (K5 ta tb):=by
 refine (dZ PySem.F.plainAttrs_list PySem.F.slot_list_index PySem.F.type_list_index nJ ho (ae he aq hs) b7 fF bE hs cf).imp ?_;rintro σ H Q ⟨G,ρ,P,s,en,h,q⟩;refine ⟨G,ρ,_,s,en,h,?_⟩;rintro _ ⟨l,rfl,hd⟩ v G1 H1 x1 dv;cases dv with
 | @lst p xs ds hp e=>
  refine ⟨ty_list (x1.sub _ _ hp),G1,ρ,_,x1.sub,en.mono x1.gg,hd,λy hy u G2 H2 x2 du=>?_⟩;obtain ⟨h1,h2,j,z,h3,h4,h5,h6⟩:=hy;have e2:=e.mono x2.gg;obtain ⟨w,hw,dw⟩:=e2.get h3;refine ⟨p,xs,u,j,w,rfl,rfl,x2.hh _ _ (x1.sub _ _ hp),by rw [p8 du];exact h1,by rw [jD e2];exact h2,hw,by rw [yM dw du];exact h4,λm z' hm hz=>?_,q _ h6 _ G2 H2 (x1.trans x2) (.int _)⟩
  obtain ⟨d',j4,oR⟩:=e2.Et hz;rw [yM oR du];exact h5 m d' hm j4
end
structure z3 (Z:DC):Prop where
 cl:ue Z.K Z.C
 nR:kz Z.K Z.C "rows"
section
variable {Z:DC} {X:Cx} {a b c e o:Expr} {ta tb te:aP} {t:i8} {es:List Expr} {pos apos:Pos}
def Pj(ta:aP):aP:=λρ P=>ta ρ λd=>∃w,d= .eV w∧P (aT w)
theorem pW(T:z3 Z)(ha:DE Z X o ta)(eK:X.K=Z.K:=by rfl)(hb:attributeBase o "rows" X.env (eval o X.env)=eval o X.env:=by rfl):DE Z X (.Attribute o "rows" apos) (Pj ta):=by
 refine (Mg ha hb).imp ?_;rintro σ H Q ⟨G,ρ,P,s,en,h,q⟩;refine ⟨G,ρ,_,s,en,h,?_⟩;rintro _ ⟨w,rfl,hd⟩ v G1 H1 x1 dv;cases dv with
 | @eV p dx R w hp hr g h1 h2=>exact ⟨p,Z.C,dx,_, .ref R,rfl,x1.sub _ _ hp,by rw [eK];exact T.cl,by rw [eK];exact T.nR,rfl,q _ hd _ G1 H1 x1 hr⟩
def Cb(sd:eW)(ta:aP)(t:i8):aP:=λρ P=>ta ρ λd=>∃w,d= .eV w∧t ρ λds=>sd (.eV w::ds) P
theorem xW{m:Str}{sd:eW}(hm:([("rows",V.ref 0)]:List (Str×V)).lookup m=none):∀σ H Q,dM Z (Cb sd ta t) σ H Q→DR Z.C m (aW Z sd) [] E0 (dM Z ta) (CP Z t) σ H Q:=by
 rintro σ H Q ⟨G,ρ,P,s,en,h,q⟩;refine ⟨G,ρ,_,s,en,h,?_⟩;rintro _ ⟨w,rfl,hd⟩ v G1 H1 x1 dv;have ZD:=dv;cases dv with
 | @eV p dx R w hp hr g h1 h2=>
  refine ⟨p,dx,_,rfl,x1.sub _ _ hp,?_,G1,ρ,_,x1.sub,en.mono x1.gg,hd,λds FR vs G2 H2 x2 ba=>?_⟩
  ·have hz:(m==("rows":Str))=false:=by
    cases z:(m==("rows":Str)) with
    |false=>rfl
    |true=>simp [List.lookup,z] at hm
   simp [List.lookup,hz]
  ·show aW Z sd (V.ref p::(vs++ [])) H2 Q E0
   rw [iK];exact ⟨G2,_,P,x2.sub, .cons (ZD.mono x2.gg) ba,FR,λd hd v G3 H3 x3 ZE=>q d hd v G3 H3 ((x1.trans x2).trans x3) ZE⟩
variable {sd:eW} {k:Nat} {f:Addr} {fd:FuncData} {ps:List Str} {m:Str}
theorem uG{pl:Sem Bool}(T:z3 Z)(ho:DE Z X o ta)(hm:Meth Z.K Z.C m f)(F:FnOk X.prog X.w X.K X.mg X.base cq k f fd ps (aW Z sd))(hr:cH k X.A)(hb:Binds X.K fd ps [])(ha:DA Z X (e::es) t)(eK:X.K=Z.K:=by rfl)
  (Qg:([("rows",V.ref 0)]:List (Str×V)).lookup m=none:=by decide) (y4:starEach (e::es) X.env=(false,eval e X.env)::starEach es X.env:=by rfl) (dR:(backTo pos (starEach es X.env)).any (·.1)=false:=by rfl)
  (ht:eval (.Call (.Attribute o m apos) (e::es) [] pos) X.env=(do
   let ov ←eval o X.env
   standAt apos.atName
   let (f,first) ←holding [ov] (getMethod ov m pl)
   callWith pos f first (backTo pos (starEach (e::es) X.env)) (backToKw pos (keywordEach [] X.env))):=by rfl):DE Z X (.Call (.Attribute o m apos) (e::es) [] pos) (Cb sd ta t):=
 (J0 (pl:=pl) ho (by rw [eK];exact T.cl) (by rw [eK];exact hm) F hr hb .nil bY ha y4 dR ht).imp (xW Qg)
theorem fZ{pl:Sem Bool}(T:z3 Z)(ho:DE Z X o ta)(hm:Meth Z.K Z.C m f)(F:FnOk X.prog X.w X.K X.mg X.base cq k f fd ps (aW Z sd))(hr:cH k X.A)(hb:Binds X.K fd ps [])(eK:X.K=Z.K:=by rfl)
  (Qg:([("rows",V.ref 0)]:List (Str×V)).lookup m=none:=by decide)
  (ht:eval (.Call (.Attribute o m apos) [] [] pos) X.env=(do
   let ov ←eval o X.env
   standAt apos.atName
   let (f,first) ←holding [ov] (getMethod ov m pl)
   callWith pos f first (backTo pos (starEach [] X.env)) (backToKw pos (keywordEach [] X.env))):=by rfl):DE Z X (.Call (.Attribute o m apos) [] [] pos) (Cb sd ta su):=
 (Gr (pl:=pl) ho (by rw [eK];exact T.cl) (by rw [eK];exact hm) F hr hb .nil bY ht).imp λσ H Q h=>by
  obtain ⟨G,ρ,P,s,en,h,q⟩:=xW Qg σ H Q h;refine ⟨G,ρ,P,s,en,h,λd hd v G1 H1 x1 dv=>?_⟩;obtain ⟨p,dx,fs,h1,h2,h3,G',aD,P',s',en',h',q'⟩:=q d hd v G1 H1 x1 dv;exact ⟨p,dx,fs,h1,h2,h3,q' _ h' _ G' _ (.refl s') .nil⟩
def Bt(Z:DC):Sp:=λvs H Q _=>∃(p dx:Addr)(v:V)(G:Hp)(w:List (List Nat)),vs= [.ref p,v]∧H p=some (.ins Z.C dx [])∧aC G H∧G p=none∧Dv Z G v (aT w)∧Wb.Good w∧1≤w.length∧w.length≤14∧
 ∀(R:Addr)(G' H':Hp),aC G G'→aC G' H'→(∀b o,H b=some o→b≠p→H' b=some o)→(∀b,H b≠none→G b=none→G' b=none)→H' p=some (.ins Z.C dx [("rows", .ref R)])→Dv Z G' (.ref R) (aT w)→Q .aM H'
def Pe(t:i8):aP:=λρ P=>t ρ λds=>∃w,ds= [aT w]∧Wb.Good w∧1≤w.length∧w.length≤14∧P (.eV w)
theorem Ao{x:Str}{p:Pos}(M:Mk Z.K Z.C f)(F:FnOk X.prog X.w X.K X.mg X.base cq k f fd ps (Bt Z))(hr:cH (k+1) X.A)(hg:Gl X x)(hm:X.mg x=some (.ref Z.C))(hb:Binds X.K fd ps [])
  (ha:DA Z X (e::es) t) (eK:X.K=Z.K:=by rfl) (jM:(x==("__debug__":Str))=false:=by decide) (he:starEach (e::es) X.env=(false,eval e X.env)::starEach es X.env:=by rfl) (dR:(backTo pos (starEach es X.env)).any (·.1)=false:=by rfl):
  DE Z X (.Call (.Name x p) (e::es) [] pos) (Pe t):=by
 refine (Bb (by rw [eK];exact M) F hr hg hm hb .nil bY ha jM he dR).imp ?_
 rintro σ H Q ⟨G,ρ,P,s,en,h,q⟩;refine ⟨G,ρ,_,s,en,h,?_⟩;rintro _ ⟨w,rfl,g,h1,bS,hp⟩ vs G1 H1 x1 ba p dx hx PV ne;cases ba with
 | @cons v _ _ _ dv ba=>
  cases ba;have wZ:upd H1 dx (.own p) p=none:=by rw [ab (Ne.symm ne)];exact hx
  have sJ:=(av PV (.own p)).trans (av wZ (.ins Z.C dx []));refine ⟨p,dx,v,G1,w,rfl,aa,x1.sub.trans sJ,x1.sub.free hx,dv,g,h1,bS,λR G2 H2 g1 g2 kp off F0 Ci=>⟨rfl,?_⟩⟩;have gp:G2 p=none:=off p (by rw [aa];exact λz=>nomatch z) (x1.sub.free hx)
  refine q _ hp _ (upd G2 p (.ins Z.C dx [("rows", .ref R)])) H2 ⟨(x1.gg.trans g1).trans (av gp _),λb o e=>?_,λb o e=>?_,λb hb hg=>?_⟩ (.eV aa (Ci.mono (av gp _)) g h1 bS)
  ·by_cases z:b=p
   ·subst z;rw [aa] at e;cases e;exact F0
   ·rw [ab z] at e;exact g2 _ _ e
  ·have e1:=x1.hh _ _ e
   exact kp b o (sJ _ _ e1) (ah e1 hx)
  ·have Ut:=fL x1.hh hb
   have nb:b≠p:=λz=>Ut (by rw [z];exact hx)
   rw [ab nb];exact off b (fL sJ Ut) (x1.off b hb hg)
end
section
variable {Z:DC} {X:Cx} {pos:Pos}
def Jo(g:dW)(tf:jV):List D→DN→List D→(List D→Prop)→Prop
 | [],_,acc,N=>N acc
 |x::xs,ρ,acc,N=>g x ρ λbo=>tf bo λds=>acc.length<sizeLine∧Jo g tf xs bo (acc++ [.lst ds]) N
def NO(wi:i9)(g:dW)(tf:jV)(src:List (Option Nat)):jV:=λρ P=>wi ρ λds=>Jo g tf ds (vQ src ρ) [] P
def RF(Z:DC)(n:Nat)(G1 H1:Hp)(Ad:Addr)(ρ:DN)(acc:List D)(σ:St)(H:Hp):Prop:=
 ∃(G:Hp)(ys:List V)(fs:List Addr),aC G1 G∧aC G H∧aC H1 H∧(∀b,H1 b≠none→G1 b=none→G b=none)∧H Ad=some (.lst ys)∧cG (Own Z G H n) ys acc fs∧(Ad::fs).Nodup∧(∀b∈Ad::fs,H1 b=none∧H b≠none∧G b=none)∧dA Z G σ ρ
theorem cG.snoc{R:V→D→List Addr→Prop}:∀{vs:List V}{ds:List D}{fs:List Addr}{v:V}{d:D}{f:List Addr},cG R vs ds fs→R v d f→cG R (vs++ [v]) (ds++ [d]) (fs++f)
 |_,_,_,v,d,f, .nil,r=>by simpa using cG.cons r .nil
 |_,_,_,v,d,f, .cons a as,r=>by rw [m7];exact .cons a (as.snoc r)
theorem Ga{n:Nat}{src:List (Option Nat)}{wi:i9}{g:dW}{tf:jV}:∀σ H Q,vf Z (n+1) (NO wi g tf src) σ H Q→Ky (rL Z wi) (pj Z g) E2 (vf Z n tf) src σ H Q:=by
 rintro σ H Q ⟨G,ρ,P,s,en,h,q⟩;refine ⟨G,ρ,_,s,en,h,λds hd J G1 H1 x1 it Ad hA=>?_⟩;refine ⟨λi m cD H2=>m=ds.length-i∧i≤ds.length∧∃dQ acc,RF Z n G1 H1 Ad dQ acc cD H2∧Jo g tf (ds.drop i) dQ acc P,⟨_,rfl,cS _,_,[],⟨G1,[],[], .refl _,λb o e=>?_,av hA _,λ_ _ h=>h,aa, .nil,by simp,λb hb=>?_,(en.mono x1.gg).src src⟩,hd⟩,?_⟩
 ·rw [ab (ah e (x1.sub.free hA))];exact x1.sub _ _ e
 ·have:b=Ad:=by simpa using hb
  subst this;exact ⟨hA,(by rw [aa];exact λz=>nomatch z),x1.sub.free hA⟩
 rintro i m cD H2 ⟨rfl,hi,dQ,acc,⟨G2,ys,fs,s1,s2,s3,off,oY,ol,nd,nw,Pq⟩,hl⟩
 by_cases bG:i<ds.length
 ·obtain ⟨go,_,yld⟩:=it G2 H2 s1 s2 i
  refine .inr ⟨go bG,λay H'=>∃aD jx,RF Z n G1 H1 Ad aD jx ay H'∧Jo g tf (ds.drop (i+1)) aD jx P,λay H' k=>⟨ds.length-(i+1),by omega,rfl,bG,k⟩,λx H3 y=>?_⟩
  obtain ⟨G3,d,x3,IE,dv⟩:=yld x H3 bG y;rw [lV IE] at hl;refine ⟨G3,dQ,d,_,x3.sub,Pq.mono x3.gg,dv,hl,λbo h1 cU tP=>?_⟩;unfold E2;dsimp only;rw [if_pos rfl];refine ⟨G3,bo,_,x3.sub,tP,h1,λhJ j4 v f G6 H6 x6 ow ZO T8=>?_⟩;have x:=x3.trans x6;have aA:Ad∈Ad::fs:=cC ..
  have rF:∀b∈Ad::fs,H6 b=H2 b∧G6 b=none:=λb hb=>by
   obtain ⟨_,q2,q3⟩:=nw b hb;refine ⟨?_,x.off b q2 q3⟩;cases e:H2 b with
   |none=>exact absurd e q2
   |some o=>exact x.hh _ _ e
  have Z2:H6 Ad=some (.lst ys):=by rw [(rF Ad aA).1];exact oY
  have T5:∀b∈f,H2 b=none:=λb hb=>x3.hh.free (T8 b hb).1;have T7:∀b∈f,∀c∈Ad::fs,b≠c:=λb hb c hc z=>(nw c hc).2.1 (by rw [←z];exact T5 b hb)
  refine ⟨ys,Z2,by rw [ol.length];exact j4.1,bo,_,⟨G6,ys++ [v],fs++f,s1.trans x.gg,λb o e=>?_,λb o e=>?_,λb hb hg=>x.off b (fL s3 hb) (off b hb hg),aa,?_,?_,λb hb=>?_,tP.mono x6.gg⟩,j4.2⟩
  ·rw [ab (ah e (rF Ad aA).2)];exact x.sub _ _ e
  ·rw [ab (ah e hA)];exact (s3.trans x.hh) _ _ e
  ·refine cG.snoc (ol.imp λv d f' hf r=>r.keep x.gg λb hb=>?_) (ow.keep (.refl _) λb hb=>?_)
   ·have Ct:b∈fs:=hf b hb
    rw [ab (λz=>(fz.mp nd).1 (by rw [←z];exact Ct))]
    exact (rF b (cA _ Ct)).1
   ·exact ab (T7 b hb Ad aA)
  ·rw [←List.cons_append]
   exact cJ.mpr ⟨nd,ZO,λa ha b hb=>Ne.symm (T7 b hb a ha)⟩
  ·rw [←List.cons_append] at hb
   by_cases z:b=Ad
   ·subst z
    exact ⟨hA,(by rw [aa];exact λz=>nomatch z),(rF b aA).2⟩
   ·rcases cw.mp hb with hb|hb
    ·rw [ab z,(rF b hb).1]
     exact ⟨(nw b hb).1,(nw b hb).2.1,(rF b hb).2⟩
    ·rw [ab z]
     exact ⟨s3.free (T5 b hb),(T8 b hb).2⟩
 ·have e:ds.drop i= []:=wy (by omega)
  rw [e] at hl;refine .inl ⟨(it G2 H2 s1 s2 i).2.1 (by omega),q _ hl (.ref Ad) (Ad::fs) G2 H2 ⟨x1.gg.trans s1,s2,x1.hh.trans s3,λb hb hg=>off b (fL x1.hh hb) (x1.off b hb hg)⟩ (.inl ⟨Ad,ys,acc,fs,rfl,rfl,oY,rfl,ol⟩) nd λb hb=>⟨x1.hh.free (nw b hb).1,(nw b hb).2⟩⟩
variable {tg iter elt:Expr} {scope:Scope} {NC:List Str} {src:List (Option Nat)} {wi:i9} {g:dW} {tf:jV} {md:List Nat} {rn:Nat}
theorem uI(i:Nat){n:Nat}{x:Str}{px jH:Pos}(hc:X.calm=true)(hN:X.N.Nodup)(c:bp X scope)(fv:dj scope X.N src NC)(hi:DI Z X tg iter wi)
  (hg:∀ex s H,DG Z (cW X scope NC ex s H) tg g) (he:∀ex s H,DF Z (cW X scope NC ex s H) n elt tf)
  (kH:swapsWith (.ListComp elt [⟨tg,iter,[],0⟩] scope pos) (some (.Name x px)) jH.line X.env=pure true:=by rfl) (hm:md.getD i 0=n+1:=by rfl) (fj:X.N[i]? =some x:=by rfl) (hx:Loc X.env.scope x:=by first|exact Or.inl rfl|exact Or.inr rfl)
  (hf:X.fn x=true∨X.env.scope.names.lookup x=some .local:=by first|exact .inl rfl|exact .inr rfl|assumption)
  (hs:∀x,foldedSetIterable iter X.env x=pure x:=by intro _;rfl):DSt Z X md rn (.Assign [.Name x px] (.ListComp elt [⟨tg,iter,[],0⟩] scope pos) jH) (HB md i (NO wi g tf src)):=by
 refine (iZ hc hN fj hx c fv hi hg (λ_ _ _=>mG) he kH hf hs).imp ?_;rintro D σ H ⟨B,ρ,E,⟨G,fp,S⟩,h,M⟩;exact Ga σ H _ (rO hm S h M)
end
abbrev iV:=inClass
structure BU (Z:DC) (m qual:Str) (st:Stmt) (ps:List Str) where
 f:Addr
 fd:FuncData
 F:wH Z.K m qual st f fd
 b:Binds Z.K fd ps []
 m:Meth Z.K Z.C m f
def qK(K:PySem.W.Frag):Sp:=λvs H Q _=>∃(a:Addr)(ns:List Int),vs= [.ref a]∧aH K H a (ns.map V.int)∧ns.length≤63∧∀H',Q (.bl true) H'
def EW:eW:=λds P=>∃ns:List Int,ds= [.km ns]∧ns.length≤63∧P (.bl true)
theorem LR{Z:DC}:∀vs H Q E,qK Z.K vs H Q E→aW Z EW vs H Q E:=by
 rintro vs H Q E ⟨a,ns,rfl,hS,hl,q⟩;exact ⟨H,[.km ns],λd=>d= .bl true, .refl _, .cons (.km hS hl) .nil,⟨ns,rfl,hl,rfl⟩,λd hd v G' H' x dv=>by subst hd;cases dv;exact q H'⟩
theorem Rx(k:Nat){l:PySem.W.OpenLaw}{q:Program}{loose:List Str}{XP:(Str→Option Value)→Heap→Prop}{YP:World→Heap→Prop}{d:DefRec}{K:Params→PySem.W.Frag}(wU:3*k<150)(hn:l.most=some 63)(Cw:d.params.defaults= [])
  (hY:∀(w:World)(h:Heap),YP w h→(K w.params).In h)
  (F:∀(w:World)(mg:Str→Option Value)(fa:Addr)(h:Heap),(K w.params).In h→h.Ns mainGlobals mg→mg d.name=some (.ref fa)→
   ∃fd:FuncData,(∀(s:Shared)(u:Value),BindsTo s fd ⟨[u],[]⟩ [("_law_script",u)])∧∀base:Heap,(K w.params).In base→base.Ns mainGlobals mg→FnOk l.prog w (K w.params) mg base cq k fa fd ["_law_script"] (qK (K w.params))):
  PySem.W.WalkO q loose XP YP l.row.toRowW d [] (λf vs=>PySem.call f vs):=
 L2.KD (n:=63) (k:=50) (x:="_law_script") (CX:=λ_=>cq) (sp:=λw=>qK (K w.params)) hn (by decide) Cw ⟨rfl,by decide,by decide⟩ hY (λw mg fa h a b c=>by
  obtain ⟨fd,h1,h2⟩:=F w mg fa h a b c;exact ⟨fd,h1,λbase x y=>(h2 base x y).mono (by omega)⟩) (λ_ _ a ns hl _ hS=>⟨a,ns,rfl,hS,hl,λ_=>rfl⟩) λ_ _ _ _ _ z=>z
theorem nB{c:Bool}{A B:Prop}(h1:c=true→A)(h2:c=false→B):if c=true then A else B:=by
 cases c with
 |true=>exact f7 (h1 rfl)
 |false=>exact fw (h2 rfl)
theorem u4{i:Nat}{tt:eo}{te:aP}{ρ:DN}{α:Type}(enc:α→D)(p:α→Bool)(f:α→D):∀(ys:List α)(aD:DN)(acc:List D)(N:DN→List D→Prop),(∀y∈ys,∀(Y:D→Prop)(Nn:Prop),(p y=true→Y (f y))→(p y=false→Nn)→tt (ρ.set i (some (enc y))) λb=>if b=true then te (ρ.set i (some (enc y))) Y else Nn)→
  (∃o,aD=ρ.set i o)→acc.length+ys.length≤sizeLine→(∀aD,N aD (acc++(ys.filter p).map f))→lcW (nj i) tt te (ys.map enc) aD acc N
 | [],aD,acc,N,_,_,_,h=>by
  show N aD acc;simpa using h aD
 |y::ys,aD,acc,N,hs,⟨o,ho⟩,hz,h=>by
  show tt (aD.set i (some (enc y))) _;rw [ho,List.set_set];rw [cp] at hz;refine hs y (cC ..) _ _ (λhp=>⟨by omega,?_⟩) (λhp=>?_)
  ·refine u4 enc p f ys _ (acc++ [f y]) N (λz hz=>hs z (cA _ hz)) ⟨_,rfl⟩ (by simp;omega) λwF=>?_
   have:=h wF
   rw [List.filter_cons,hp] at this;simpa using this
  ·refine u4 enc p f ys _ acc N (λz hz=>hs z (cA _ hz)) ⟨_,rfl⟩ (by omega) λwF=>?_
   have:=h wF
   rw [List.filter_cons,hp] at this;simpa using this
theorem lc_all{i:Nat}{te:aP}{ρ:DN}{α:Type}(enc:α→D)(f:α→D)(ys:List α)(N:DN→List D→Prop)(hs:∀y∈ys,∀(Y:D→Prop),Y (f y)→te (ρ.set i (some (enc y))) Y)(h0:ρ[i]? =some none)(hz:ys.length≤sizeLine)(h:∀aD,N aD (ys.map f)):lcW (nj i) sv te (ys.map enc) ρ [] N:=by
 refine u4 (ρ:=ρ) enc (λ_=>true) f ys ρ [] N (λy hy Y Nn h1 _=>?_) ⟨none,?_⟩ (by simpa using hz) λaD=>by rw [List.filter_eq_self.mpr (λ_ _=>rfl),tI];exact h aD
 ·unfold sv
  dsimp only;rw [if_pos rfl];exact hs y hy Y (h1 rfl)
 ·obtain ⟨hi,e⟩:=cF.mp h0
  rw [←e,List.set_getElem_self]
theorem xI{g:dW}{tb:dH}{E:gw}(I:Nat→DN→Prop):∀(ds:List D)(k:Nat)(ρ:DN),I k ρ→(∀(j:Nat)(d:D)(ρ:DN),ds[j]? =some d→I (k+j) ρ→∀A:DN→Prop,(∀ρ,I (k+j+1) ρ→A ρ)→g d ρ λbo=>tb {nx:=A,ct:=A,bk:=E.nx,rt:=E.rt} bo)→
  (∀ρ,I (k+ds.length) ρ→E.nx ρ)→j3 g tb E ds ρ
 | [],k,ρ,h0,hs,he=>he ρ h0
 |d::ds,k,ρ,h0,hs,he=>by
  refine hs 0 d ρ rfl h0 _ λaD h'=>?_
  exact xI I ds (k+1) aD h' (λj d' dQ hj h2 A hA=>by
   refine hs (j+1) d' dQ (by simpa using hj) (by rw [show k+(j+1)=k+1+j by omega];exact h2) A λρ3 h3=>hA ρ3 ?_
   rw [show k+1+j+1=k+(j+1)+1 by omega];exact h3) (λdQ h2=>he dQ (by rw [cp,show k+(ds.length+1)=k+1+ds.length by omega];exact h2))
theorem cX{g:dW}{tb:dH}{E:gw}{ds:List D}{ρ:DN}(I:Nat→DN→Prop)(h0:I 0 ρ)(hs:∀(j:Nat)(d:D)(ρ:DN),ds[j]? =some d→I j ρ→∀A:DN→Prop,(∀ρ,I (j+1) ρ→A ρ)→g d ρ λbo=>tb {nx:=A,ct:=A,bk:=E.nx,rt:=E.rt} bo)
  (he:∀ρ,I ds.length ρ→E.nx ρ):j3 g tb E ds ρ:=xI I ds 0 ρ h0 (λj d ρ hj h A hA=>hs j d ρ hj (by simpa using h) A λaD h'=>hA aD (by simpa using h')) (λρ h=>he ρ (by simpa using h))
theorem Ih{g:dW}{tb:dH}{E:gw}{lo:Int}{n:Nat}{ρ:DN}(I:Nat→DN→Prop)(h0:I 0 ρ)(hs:∀(j:Nat)(ρ:DN),j<n→I j ρ→∀A:DN→Prop,(∀ρ,I (j+1) ρ→A ρ)→g (.int (lo+j)) ρ λbo=>tb {nx:=A,ct:=A,bk:=E.nx,rt:=E.rt} bo)
  (he:∀ρ,I n ρ→E.nx ρ):j3 g tb E (dG lo n) ρ:=by
 have l:(dG lo n).length=n:=by unfold dG;simp
 refine cX I h0 (λj d ρ hj h A hA=>?_) (λρ h=>he ρ (by rw [l] at h;exact h))
 have bG:j<n:=by
  have:=(cF.mp hj).1
  rw [l] at this;exact this
 rw [sR bG] at hj;cases hj;exact hs j ρ bG h A hA
theorem v7{c:eo}{tb:dH}{E:gw}{ρ:DN}(I:Nat→DN→Prop)(m0:Nat)(h0:I m0 ρ)(hs:∀m ρ,I m ρ→c ρ λb=>if b=true then tb {nx:=λaD=>∃m',m'<m∧I m' aD,ct:=λaD=>∃m',m'<m∧I m' aD,bk:=E.nx,rt:=E.rt} ρ else E.nx ρ):Ei c tb E ρ:=⟨I,⟨m0,h0⟩,hs⟩
section
variable {X:Cx} {elt t0 i0 t1 i1:Expr} {f0 f1:List Expr} {scope:Scope} {pos:Pos} {wi gJ:TI} {g g1:TG} {tt e8:TT} {te:TE} {src:List (Option Nat)} {NC:List Str}
end
section
variable {Z:DC} {X:Cx} {md:List Nat} {rn:Nat} {elt t0 i0 t1 i1:Expr} {f0 f1:List Expr} {scope:Scope} {pos:Pos} {wi gJ:i9} {g g1:dW} {tt e8:eo} {te:aP} {src:List (Option Nat)} {NC:List Str}
end
section
variable {Z:DC} {X:Cx} {md:List Nat} {rn:Nat} {e:Expr} {pos:Pos}
end
theorem oS{l:List D}{j:Nat}{d:D}(h:(eM l)[j]? =some d):∃x,l[j]? =some x∧d= .tup [.int (j:Int),x]:=by
 unfold eM at h;rw [List.getElem?_mapIdx] at h;cases e:l[j]? with
 |none=>rw [e] at h;cases h
 |some x=>rw [e] at h;cases h;exact ⟨x,rfl,rfl⟩
theorem gU(l:List D):(eM l).length=l.length:=by unfold eM;simp
theorem fH{α β:Type}{f:α→β}{l:List α}{j:Nat}{y:β}(h:(l.map f)[j]? =some y):∃x,l[j]? =some x∧y=f x:=by
 rw [bW] at h;cases e:l[j]? with
 |none=>rw [e] at h;cases h
 |some x=>rw [e] at h;cases h;exact ⟨x,rfl,rfl⟩
theorem j2(r:List Nat):(r.map aB).all iq=true:=by simp [aB,iq]
theorem uW{r:List Nat}{p:Nat}:inD (aB p) (r.map aB)=decide (p∈r):=by
 unfold inD;rw [List.any_map]
 have:((λy=>jC y (aB p))∘aB)=λq:Nat=>decide (q=p):=by
  funext q
  simp [aB,jC,Function.comp]
  by_cases z:q=p
  ·simp [z]
  ·have:¬(q:Int)=(p:Int):=by omega
   simp [z,this]
 rw [this]
 by_cases h:p∈r
 ·rw [decide_eq_true h,List.any_eq_true];exact ⟨p,h,by simp⟩
 ·rw [decide_eq_false h]
  apply tG.mpr;intro z;rw [List.any_eq_true] at z;obtain ⟨q,hq,e⟩:=z
  exact h (by have:q=p:=by simpa using e
              rw [←this];exact hq)
theorem jX{l:List D}{p:Nat}{d:D}(h:l[p]? =some d):fB l (p:Int)=some d:=ck h
theorem v5{w:List (List Nat)}{p:Nat}(h:p<w.length):(w.map aF)[p]? =some (aF (Wb.row w p)):=by
 rw [bW,Wb.Bi h];rfl
section
variable {Z:DC} {X:Cx} {md:List Nat} {rn:Nat} {e:Expr} {te:aP} {pos:Pos}
end
theorem OD{ρ:DN}{A B:Prop}(h:A):sv ρ (λb=>if b=true then A else B):=by
 unfold sv;dsimp only;rw [if_pos rfl];exact h
theorem lj{c:Bool}{A B:Prop}(e:c=false)(h:B):if c=true then A else B:=by rw [if_neg (by rw [e];exact cZ)];exact h
theorem kL{g:dW}{tt:eo}{te:aP}{α:Type}(I:DN→Prop)(enc:α→D)(p:α→Bool)(f:α→D):∀(ys:List α)(aD:DN)(acc:List D)(N:DN→List D→Prop),(∀y∈ys,∀aD,I aD→∀(Y:DN→D→Prop)(Nn:DN→Prop),(∀bo,I bo→p y=true→Y bo (f y))→(∀bo,I bo→p y=false→Nn bo)→g (enc y) aD λbo=>tt bo λb=>if b=true then te bo (Y bo) else Nn bo)→
  I aD→acc.length+ys.length≤sizeLine→(∀aD,I aD→N aD (acc++(ys.filter p).map f))→lcW g tt te (ys.map enc) aD acc N
 | [],aD,acc,N,_,hI,_,h=>by
  show N aD acc;simpa using h aD hI
 |y::ys,aD,acc,N,hs,hI,hz,h=>by
  rw [cp] at hz;refine hs y (cC ..) aD hI (λbo d=>acc.length<sizeLine∧lcW g tt te (ys.map enc) bo (acc++ [d]) N) (λbo=>lcW g tt te (ys.map enc) bo acc N) (λbo h1 hp=>⟨by omega,?_⟩) (λbo h1 hp=>?_)
  ·refine kL I enc p f ys _ (acc++ [f y]) N (λz hz=>hs z (cA _ hz)) h1 (by simp;omega) λwF h2=>?_
   have:=h wF h2
   rw [List.filter_cons,hp] at this;simpa using this
  ·refine kL I enc p f ys _ acc N (λz hz=>hs z (cA _ hz)) h1 (by omega) λwF h2=>?_
   have:=h wF h2
   rw [List.filter_cons,hp] at this;simpa using this
theorem h8{α:Type}{us:List α}(h:us.length=1):∃a0,us= [a0]:=by
 cases us with
 |nil=>cases h
 |cons a l=>
  cases l with
  |nil=>exact ⟨a,rfl⟩
  |cons _ _=>cases h
theorem lq{α:Type}{us:List α}(h:us.length=2):∃a0 a1,us= [a0,a1]:=by
 cases us with
 |nil=>cases h
 |cons a l=>
  obtain ⟨a1,rfl⟩:=h8 (Nat.succ.inj h);exact ⟨a,a1,rfl⟩
theorem AS{α:Type}{us:List α}(h:us.length=3):∃a0 a1 a2,us= [a0,a1,a2]:=by
 cases us with
 |nil=>cases h
 |cons a l=>
  obtain ⟨a1,a2,rfl⟩:=lq (Nat.succ.inj h);exact ⟨a,a1,a2,rfl⟩
section
variable {Z:DC} {X:Cx}
end
theorem bp.nest{X:Cx}{scope r9:Scope}{NC:List Str}{ex:List Addr}{s:Shared}{H:Hp}(k:r9.kind= .function)(a:∀x∈r9.names,x.2= .local→r9.names.lookup x.1=some .local)(b:∀x∈r9.names,x.2≠ .cell)
  (d:∀x∈r9.names,x.2= .free→scope.names.lookup x.1=some .free):bp (cW X scope NC ex s H) r9 where
 kind:=k
 names:=a
 nocell:=b
 free:=λx hx e=>by
  have h:(cW X scope NC ex s H).env.kindOf x.1=(scope.names.lookup x.1).map λk=>if (k==NameKind.free&&X.env.scope.kind== .function&&X.env.kindOf x.1==some .cell) then NameKind.cell else k:=fO scope.names x.1;rw [h,d x hx e,Option.map_some]
  split
  ·exact .inl rfl
  ·exact .inr rfl
section
variable {Z:DC} {X:Cx} {e:Expr} {es:List Expr} {t:i8} {pos:Pos}
theorem aZ{sd:eW}{k j:Nat}{x:Str}{st:Stmt}{ps:List Str}{p:Pos}(d:bX X.K X.mg x st ps)(F:FnOk X.prog X.w X.K X.mg X.base cq k d.f d.fd ps (aW Z sd))(hr:cH j X.A)(ha:DA Z X (e::es) t)(hg:Gl X x:=by rfl)(hk:k≤j:=by first|decide|omega)
  (jM:(x==("__debug__":Str))=false:=by decide) (he:starEach (e::es) X.env=(false,eval e X.env)::starEach es X.env:=by rfl) (dR:(backTo pos (starEach es X.env)).any (·.1)=false:=by rfl):
  DE Z X (.Call (.Name x p) (e::es) [] pos) (uE sd t):=HI F (hr.mono hk) hg d.m d.F.kp d.b ha jM he dR
theorem lT{scope:Scope}(sc:Scope)(e:X.env.scope=sc:=by rfl)(k:scope.kind= .function:=by rfl)(a:∀x∈scope.names,x.2= .local→scope.names.lookup x.1=some .local:=by decide+kernel)(b:∀x∈scope.names,x.2≠ .cell:=by decide+kernel)
  (c:∀x∈scope.names,x.2= .free→sc.names.lookup x.1=some .cell∨sc.names.lookup x.1=some .free:=by decide+kernel):bp X scope:=bp.of sc e k a b c
theorem Nz{scope r9:Scope}{NC:List Str}{ex:List Addr}{s:Shared}{H:Hp}(k:r9.kind= .function:=by rfl)(a:∀x∈r9.names,x.2= .local→r9.names.lookup x.1=some .local:=by decide+kernel)(b:∀x∈r9.names,x.2≠ .cell:=by decide+kernel)
  (d:∀x∈r9.names,x.2= .free→scope.names.lookup x.1=some .free:=by decide+kernel):bp (cW X scope NC ex s H) r9:=bp.nest k a b d
end
section
variable {K:PySem.W.Frag} {h:Heap} {mg:Str→Option Value}
abbrev gQ(K:PySem.W.Frag)(x:Str)(d:Addr):Prop:=PySem.W.nsIn K mainGlobals x=some (some (.ref d))
abbrev fb(K:PySem.W.Frag)(x qual:Str)(st:Stmt)(d:Addr)(od an:Option Addr)(sl:Array (Option Value))(oc kV dc pm cd ct:Value):Prop:=K.lookup d=some ⟨oc,od, .func (PySem.W.fnOf x qual (jg st) (eY st) (ao st) .none kV dc pm an cd ct),sl⟩
def bX.of{x:Str}{st:Stmt}{ps:List Str}{d:Addr}{od an:Option Addr}{sl:Array (Option Value)}{oc kV dc pm cd ct:Value}(X:K.In h)(G:h.Ns mainGlobals mg)(a:gQ K x d)(l:fb K x x st d od an sl oc kV dc pm cd ct)(c:PySem.W.codeIn K cd x=true)(k:PySem.W.keepIn K (.ref d)=true)
  (b:∀(kV doc pm:Value)(an:Option Addr)(bu ct:Value)(us:List Value),us.length=ps.length→bindArgs (PySem.W.fnOf x x (jg st) (eY st) (ao st) .none kV doc pm an bu ct) ⟨us,[]⟩=pure (ps.zip us)):bX K mg x st ps:=
 ⟨d,_,qa l c k,(qa l c k).binds b,PySem.W.mg_of X G a⟩
def BU.of{Z:DC}{m qual:Str}{st:Stmt}{ps:List Str}{d:Addr}{od an:Option Addr}{sl:Array (Option Value)}{oc kV dc pm cd ct:Value}(a:PySem.W.findIn Z.K (.ref Z.C) m=some (some (.ref d)))(f:PySem.W.isFn Z.K (.ref d)=true)(l:fb Z.K m qual st d od an sl oc kV dc pm cd ct)(c:PySem.W.codeIn Z.K cd qual=true)(k:PySem.W.keepIn Z.K (.ref d)=true)
  (b:∀(kV doc pm:Value)(an:Option Addr)(bu ct:Value)(us:List Value),us.length=ps.length→bindArgs (PySem.W.fnOf m qual (jg st) (eY st) (ao st) .none kV doc pm an bu ct) ⟨us,[]⟩=pure (ps.zip us)):BU Z m qual st ps:=
 ⟨d,_,qa l c k,(qa l c k).binds b,⟨a,f,k⟩⟩
end
end L2
namespace Wb
def fC(w:W):Nat:=(w.map List.length).sum
theorem pX{r:List Nat}:∀{w:W}{p:Nat},p<w.length→fC (w.set p r)+(row w p).length=fC w+r.length
 | [],_,h=>by simp at h
 |a::w,0,_=>by simp [fC,row];omega
 |a::w,p+1,h=>by
  have ih:=pX (r:=r) (w:=w) (p:=p) (by simpa using h)
  have e:row (a::w) (p+1)=row w p:=by simp [row]
  rw [e];simp only [fC,List.set_cons_succ,gI,List.sum_cons] at ih ⊢;omega
theorem Fu(w:W)(r:List Nat):fC (w++ [r])=fC w+r.length:=by simp [fC]
theorem Ft{w:W}{p i:Nat}(h:p<w.length):fC (leaf w p i)=fC w+2:=by
 unfold leaf
 have:=pX (r:=ins (row w p) i w.length) h
 rw [uX] at this;rw [Fu];simp;omega
theorem Ap{w:W}{p i u j:Nat}(hp:p<w.length)(hu:u<w.length)(ne:u≠p):fC (lP w p i u j)=fC w+2:=by
 unfold lP;have h1:=pX (r:=ins (row w p) i u) hp;have h2:=pX (w:=w.set p (ins (row w p) i u)) (r:=ins (row w u) j p) (p:=u) (by simpa using hu)
 rw [fK hp,if_neg (Ne.symm ne)] at h2;rw [uX] at h1 h2;omega
theorem Gu{l l':List Nat}(h:l.Perm l'):l.sum=l'.sum:=by
 induction h with
 |nil=>rfl
 |cons x _ ih=>simp [ih]
 |swap x y l=>simp;omega
 |trans _ _ ih1 ih2=>exact ih1.trans ih2
theorem rk(w:W):fC w=((List.range w.length).map λp=>(row w p).length).sum:=by
 unfold fC
 congr 1
 refine List.ext_getElem (by simp) λi h1 h2=>?_
 rw [List.getElem_map,List.getElem_map,List.getElem_range];have hi:i<w.length:=by simpa using h1
 have:=Bi hi
 rw [dh hi] at this;rw [Option.some.inj this]
theorem HM{w w':W}{ord:List Nat}(hl:w'.length=w.length)(pm:ord.Perm (List.range w.length))(hZ:∀p,p<w.length→(row w' (ord.getD p 0)).Perm ((row w p).map λx=>ord.getD x 0)):fC w'=fC w:=by
 rw [rk w',hl,rk w,←Gu (pm.map λp=>(row w' p).length)]
 congr 1
 have ll:ord.length=w.length:=by rw [pm.length_eq,iG]
 refine List.ext_getElem (by simp [ll]) λi h1 h2=>?_
 rw [List.getElem_map,List.getElem_map,List.getElem_range];have hi:i<w.length:=by simpa using h2
 have e:ord.getD i 0=ord[i]'(by rw [ll];exact hi):=by rw [eS,dh (by rw [ll];exact hi)];rfl
 have:=(hZ i hi).length_eq
 rw [aN,e] at this;exact this
theorem uF(w:W):(aQ w).length=fC w:=by
 rw [rk];unfold aQ;rw [List.length_flatMap]
 congr 1
 apply E8;intro p _;rw [aN]
theorem bA{w:W}(g:Good w):(aQ w).Nodup:=by
 unfold aQ List.Nodup;refine mD (λp _=>?_) ?_
 ·rw [iH]
  exact (g.nod p).imp λne e=>ne (congrArg Prod.snd e)
 ·refine List.Pairwise.imp ?_ List.pairwise_lt_range
  intro a b lt x hx y hy e;obtain ⟨_,_,rfl⟩:=bz.mp hx;obtain ⟨_,_,rfl⟩:=bz.mp hy
  have:=congrArg Prod.fst e
  simp at this;omega
theorem mT(w:W):fP (row w) w.length=(aQ w).filter λd=>decide (d.1<d.2):=by
 unfold fP aQ;rw [List.filter_flatMap]
 congr 1
 funext p
 rw [List.filter_map];rfl
theorem DV{w:W}(g:Good w):2*(fP (row w) w.length).length≤fC w:=by
 rw [mT,←uF];have h1:=List.length_eq_countP_add_countP (λd:Nat×Nat=>decide (d.1<d.2)) (l:=aQ w)
 have h2:((aQ w).filter λd=>decide (d.1<d.2)).length≤((aQ w).filter λd=>decide (d.2<d.1)).length:=by
  have:=bg (l:=((aQ w).filter λd=>decide (d.1<d.2)).map λd=>(d.2,d.1)) (m:=(aQ w).filter λd=>decide (d.2<d.1)) ?_ ?_
  ·rwa [aN] at this
  ·unfold List.Nodup
   rw [iH];refine List.Pairwise.imp ?_ ((bA g).filter _);intro a b ne e;have e1:=congrArg Prod.fst e;have e2:=congrArg Prod.snd e;exact ne (Prod.ext e2 e1)
  ·intro x hx
   obtain ⟨d,hd,rfl⟩:=bz.mp hx;obtain ⟨hd1,hd2⟩:=wj.mp hd;refine wj.mpr ⟨aK.mpr (g.sym _ _ (aK.mp hd1)),?_⟩;simpa using hd2
 have h3:((aQ w).filter λd=>decide (d.2<d.1)).length≤(aQ w).countP λd=>!decide (d.1<d.2):=by
  rw [←List.countP_eq_length_filter];apply List.countP_mono_left;intro d _ h;simp at h ⊢;omega
 rw [List.countP_eq_length_filter] at h1
 have h4:(aQ w).countP (λd=>!decide (d.1<d.2))=List.countP (λa=>decide ¬(decide (a.1<a.2)=true)) (aQ w):=by
  congr 1
  funext d
  by_cases h:d.1<d.2<;>simp [h]
 omega
structure RI (w:W) (bs:List Bool) (ws ex:List Nat) (c:Nat):Prop where
 len:bs.length=w.length
 z:bs[0]? =some true
 wt:∀x∈ws,bs[x]? =some true
 cl:∀x,bs[x]? =some true→x∈ws∨x∈ex∨∀q∈row w x,bs[q]? =some true
 cnt:bs.count false+ws.length≤c
theorem RI.pop{w:W}{bs:List Bool}{ws:List Nat}{p c:Nat}(h:RI w bs (ws++ [p]) [] (c+1)):RI w bs ws [p] c:=
 ⟨h.len,h.z,λx hx=>h.wt x (gh _ hx),λx hx=>by
  rcases h.cl x hx with q|q|q
  ·rcases cw.mp q with q|q
   ·exact .inl q
   ·exact .inr (.inl q)
  ·cases q
  ·exact .inr (.inr q),by have:=h.cnt;rw [dS] at this;simp at this;omega⟩
theorem RI.push{w:W}{bs:List Bool}{ws ex:List Nat}{q c:Nat}(h:RI w bs ws ex c)(hq:bs[q]? =some false):RI w (bs.set q true) (ws++ [q]) ex c:=by
 obtain ⟨hl,he⟩:=cF.mp hq
 have up:∀x,bs[x]? =some true→(bs.set q true)[x]? =some true:=λx hx=>by
  rw [qU]
  by_cases e:q=x
  ·rw [if_pos e,if_pos hl]
  ·rw [if_neg e];exact hx
 refine ⟨by rw [gm];exact h.len,up _ h.z,λx hx=>?_,λx hx=>?_,?_⟩
 ·rcases cw.mp hx with z|z
  ·exact up _ (h.wt x z)
  ·have:x=q:=by simpa using z
   rw [this,qU,if_pos rfl,if_pos hl]
 ·by_cases e:q=x
  ·exact .inl (by rw [e];simp)
  ·rw [qU,if_neg e] at hx
   rcases h.cl x hx with z|z|z
   ·exact .inl (gh _ z)
   ·exact .inr (.inl z)
   ·exact .inr (.inr λy hy=>up _ (z y hy))
 ·have hc:=h.cnt
  have:0<bs.count false:=List.count_pos_iff.mpr (by rw [←he];exact oK hl)
  rw [List.count_set hl,he,dS];simp;omega
theorem RI.close{w:W}{bs:List Bool}{ws:List Nat}{p c:Nat}(h:RI w bs ws [p] c)(hp:∀q∈row w p,bs[q]? =some true):RI w bs ws [] c:=
 ⟨h.len,h.z,h.wt,λx hx=>by
  rcases h.cl x hx with q|q|q
  ·exact .inl q
  ·have:x=p:=by simpa using q
   rw [this];exact .inr (.inr hp)
  ·exact .inr (.inr q),h.cnt⟩
theorem RI.all{w:W}{bs:List Bool}{c:Nat}(g:Good w)(h:RI w bs [] [] c):bs=List.replicate w.length true:=by
 have:=Ae g (S:=λx=>bs[x]? =some true) h.z λp q hp hq=>by
  rcases h.cl p hp with z|z|z
  ·cases z
  ·cases z
  ·exact z q hq
 refine oJ λi=>?_
 by_cases hi:i<w.length
 ·rw [this i hi,BL,if_pos hi]
 ·rw [gf (by rw [h.len];omega),gf (by simp;omega)]
end Wb
namespace L2
open PySem PySem.Spec PyProof.Rows
section
variable {X:Cx} {Z:DC} {pins:List (Addr×Obj)} {σ:St} {H:Hp} {s:Shared}
open Classical in
open Classical in
end
section
variable {X:Cx} {Z:DC}
theorem B7:bZ X (.type "range") (λxs H Q=>∃i:Int,xs= [.int i]∧∀q,H q=none→Q (.ref q) (upd H q (.rng 0 i))):=by
 intro pins s σ H xs us Q I rv h;obtain ⟨i,rfl,q⟩:=h;obtain ⟨u1,rfl,⟨t1,rfl⟩⟩:=rv.one;refine call_range_1 ?_;exact ⟨.ref s.heap.objs.size,_,I.laid (λb o hb=>Heap.get?_push_of_some _ hb) (aV _) (o:= .rng 0 i) ⟨_,_,_,Heap.get?_push_size _ rfl⟩,rfl,q _ (I.hok.fresh (aV _))⟩
def OP:eW:=λds P=>∃i:Int,ds= [.int i]∧P (.rng 0 i)
theorem Hr:bZ X (.type "range") (jj Z OP):=by
 refine B7.imp ?_;rintro xs H Q ⟨G,ds,P,s,dv,⟨i,rfl,hp⟩,q⟩;obtain ⟨v,rfl,a⟩:=dv.ofOne;refine ⟨i,by rw [a.ofInt],λp hn=>q _ hp _ _ _ (.new s hn) (.rng aa)⟩
def KW:eW:=λds P=>∃i j:Int,ds= [.rng i j]∧(-(2^62)≤i∧i<2^62∧-(2^62)≤j∧j<2^62∧(j-i).toNat≤1000)∧P (.lst (dG i (j-i).toNat))
theorem Dr{G:Hp}(i:Int)(n:Nat):ar Z G (kX i n) (dG i n):=by
 unfold kX dG
 induction List.range n with
 |nil=>exact .nil
 |cons k l ih=>exact .cons (.int _) ih
theorem Fj(hc:X.calm=true):bZ X (.type "list") (jj Z KW):=by
 refine (ux hc).imp ?_;rintro xs H Q ⟨G,ds,P,s,dv,⟨i,j,rfl,⟨b1,b2,b3,b4,b5⟩,hp⟩,q⟩;obtain ⟨v,rfl,a⟩:=dv.ofOne;cases a with
 |rng h=>exact ⟨_,i,j,rfl,s _ _ h,b1,b2,b3,b4,b5,λp hn=>q _ hp _ _ _ (.new s hn) (.lst aa (Dr i _))⟩
end
section
variable {Z:DC} {X:Cx} {md:List Nat} {rn:Nat} {a b e k:Expr} {pos:Pos} {ta tb te tk:aP} {t:jV}
variable {tg iter elt:Expr} {ifs:List Expr} {scope:Scope} {NC:List Str} {src:List (Option Nat)} {wi:i9} {g:dW} {tt:eo}
theorem Pl(hc:X.calm=true)(c:bp X scope)(fv:dj scope X.N src NC)(hi:DI Z X tg iter wi)
  (hg:∀ex s H,DG Z (cW X scope NC ex s H) tg g) (ht:∀ex s H,zZ Z (cW X scope NC ex s H) ifs tt) (he:∀ex s H,DE Z (cW X scope NC ex s H) elt te)
  (hs:∀x,foldedSetIterable iter X.env x=pure x:=by intro _;rfl):DF Z X 1 (.ListComp elt [⟨tg,iter,ifs,0⟩] scope pos) (Pu wi g tt te src):=(C9 hc c fv hi hg ht he hs).imp AY
variable {B:Bs} {ρ:DN} {σ:St} {H G:Hp} {fp:Nat→List Addr}
end
open PySem.Builtin PySem.Builtin.Str
theorem Bz:∀{ts:List Str}{us:List Value},Vals (ts.map V.str) us→∃l:List (Str×Tok),us=strValues l∧l.map (·.1)=ts
 | [],us,r=>by cases r;exact ⟨[],rfl,rfl⟩
 |t::ts,us,r=>by
  cases r with
  |cons a b=>
   obtain ⟨l,rfl,e⟩:=Bz b;obtain ⟨k,rfl⟩:=a;exact ⟨(t,k)::l,rfl,by rw [gI,e]⟩
theorem vW:∀l:List (Str×Tok),Vals ((l.map (·.1)).map V.str) (strValues l)
 | []=> .nil
 |p::r=> .cons ⟨p.2,rfl⟩ (vW r)
section
variable {Z:DC} {X:Cx} {o e a b:Expr} {ta tb:aP} {apos pos:Pos}
theorem CW:BW X "str.index" (λx vs H Q=>∃(z y:Str)(i:Nat)(rest:List Nat),x= .str z∧vs= [.str y]∧occurrences z y 0 z.length 1=i::rest∧Q (.int i) H):=by
 intro pins s σ H x vs v us Q I rx rv h;obtain ⟨z,y,i,rest,rfl,rfl,ho,q⟩:=h;obtain ⟨t,rfl⟩:=rx;obtain ⟨u,rfl,ru⟩:=rv.one;obtain ⟨tk,rfl⟩:=ru;exact SC.index ho ⟨.int i,H,I.tok _,⟨_,rfl⟩,q⟩
theorem Jz:BW X "str.join" (λx vs H Q=>∃(z:Str)(p:Addr)(ts:List Str),x= .str z∧vs= [.ref p]∧H p=some (.lst (ts.map V.str))∧JoinOk z ts=true∧Q (.str (Txt.join z ts)) H):=by
 intro pins s σ H x vs v us Q I rx rv h;obtain ⟨z,p,ts,rfl,rfl,hp,hk,q⟩:=h;obtain ⟨t,rfl⟩:=rx;obtain ⟨u,rfl,ru⟩:=rv.one;cases ru;obtain ⟨its,r,pl,hz⟩:=I.list (aH.of hp);obtain ⟨l,rfl,el⟩:=Bz r;exact SC.join pl.isList el hk λt' k=>⟨.str _,H,I.tok _,⟨_,rfl⟩,q⟩
theorem DK(z y:Str)(h:z.length+2≤sizeLine):(Txt.split z y).length≤sizeLine:=by
 have e1:=StrLaws.occ_length_le z y 0 z.length (z.length+1);unfold Txt.split
 split
 ·show 1≤sizeLine;omega
 ·split
  ·show 1≤sizeLine;omega
  ·rw [length_partsBetween];omega
theorem Gg:BW X "str.split" (λx vs H Q=>∃(z y:Str),x= .str z∧vs= [.str y]∧(y.length==0)=false∧z.length+2≤sizeLine∧∀l,H l=none→Q (.ref l) (upd H l (.lst ((Txt.split z y).map V.str)))):=by
 intro pins s σ H x vs v us Q I rx rv h;obtain ⟨z,y,rfl,rfl,hy,hz,q⟩:=h;obtain ⟨t,rfl⟩:=rx;obtain ⟨u,rfl,ru⟩:=rv.one;obtain ⟨tk,rfl⟩:=ru;have few:=DK z y hz
 have fin:∀(l:List (Str×Tok))(k:Nat),l.map (·.1)=Txt.split z y→EP X pins σ Q (.ref s.heap.objs.size) {s with heap:=s.heap.push {cls:= .type "list",data:= .seq (strValues l).toArray},toks:=k}:=λl k el=>
  ⟨.ref s.heap.objs.size,_,I.laid (t':=k) (λb o e=>Heap.get?_push_of_some _ e) (aV _) (show cL X.prog X.w _ _ _ (.lst ((Txt.split z y).map V.str)) from ⟨by rw [aN];exact few,strValues l,0,by rw [←el];exact vW l,Heap.get?_push_size _ rfl⟩),rfl,q _ (I.hok.fresh (aV _))⟩
 have hn:(partsBetween z (occurrences z y 0 z.length (z.length+1)) y.length).length≤sizeLine:=by
  have e1:=StrLaws.occ_length_le z y 0 z.length (z.length+1);rw [length_partsBetween];omega
 cases h1:(decide (z.length<y.length) ||decide (strKind z<strKind y))
 ·cases hf:(occurrences z y 0 z.length (z.length+1)).isEmpty
  ·refine call_meets F.slot_str_split (typeIs_str _ _ _) F.entry_str_split (F.args_str_split_2 _ _) (meets_str_split_sep z y t tk h1 hy hf (by omega) hn) ?_
   show wants _ _ _ {s with toks:=_,heap:=s.heap.push {cls:= .type "list",data:= .seq (strsFrom s.toks (partsBetween z (occurrences z y 0 z.length (z.length+1)) y.length)).toArray}}
   rw [strsFrom_eq];exact fin (numbered s.toks _) _ ((numbered_texts _ _).trans ((if_neg (ne_true_of_eq_false h1)).trans (if_neg (ne_true_of_eq_false hf))).symm)
  ·exact call_meets F.slot_str_split (typeIs_str _ _ _) F.entry_str_split (F.args_str_split_2 _ _) (meets_str_split_not_found z y t tk h1 hy hf) (fin [(z,t)] s.toks ((if_neg (ne_true_of_eq_false h1)).trans (if_pos hf)).symm)
 ·exact call_meets F.slot_str_split (typeIs_str _ _ _) F.entry_str_split (F.args_str_split_2 _ _) (meets_str_split_cannot_occur z y t tk h1) (fin [(z,t)] s.toks (if_pos h1).symm)
end
section
variable {Z:DC} {X:Cx} {o e a b:Expr} {ta tb:aP} {apos pos:Pos}
theorem rh{x:Str}{z:Str}{pos:Pos}(hg:Gl X x)(hm:∃tk,X.mg x=some (.str z tk))(hd:(x==("__debug__":Str))=false:=by decide)(ok:PyData.strOk z=true:=by decide+kernel):DE Z X (.Name x pos) (dC (.str z)):=by
 obtain ⟨tk,hm⟩:=hm;exact (vz hg hm (v:= .str z) ⟨tk,rfl⟩ hd).imp λσ H Q ⟨G,ρ,P,s,e,p,q⟩=>q _ p _ G H (.refl s) (.str z ok)
def HA:ik:=λx y P=>match x,y with
 | .str z, .int i=>∃c,z.length≤sizeLine∧fB z.cps.toList i=some c∧PyData.strOk ⟨#[c]⟩=true∧P (.str ⟨#[c]⟩)
 |_,_=>False
theorem Ek(ha:DE Z X a ta)(hb:DE Z X b tb)(hs:lQ b:=by exact λ_ _=>rfl):DE Z X (.Subscript a b pos) (Al HA ta tb):=by
 refine (b9 LI ha hb hs).imp λσ H Q h=>?_;obtain ⟨G,ρ,P,s,e,h,q⟩:=vd σ H Q h;refine ⟨G,ρ,P,s,e,h,λd hd v G1 H1 x1 dv=>?_⟩;obtain ⟨G',aD,P',s',e',h',q'⟩:=q d hd v G1 H1 x1 dv;refine ⟨G',aD,P',s',e',h',λd2 hd2 v2 G2 H2 x2 Ci=>?_⟩;obtain ⟨G,a,b,P,s,da,db,hr,q⟩:=q' d2 hd2 v2 G2 H2 x2 Ci;unfold HA at hr
 split at hr
 ·obtain ⟨c,hz,hc,ok,hp⟩:=hr
  cases da;exact ⟨_,_,c,rfl,db.ofInt,hz,hc,q _ hp _ G _ (.refl s) (.str _ ok)⟩
 ·exact hr.elim
def Hi:eW:=λds P=>match ds with
 | [.str z]=>z.length≤sizeLine∧P (.int z.length)
 |_=>False
theorem Hq:bZ X (.builtin "len") (jj Z Hi):=by
 refine wL.imp ?_;rintro xs H Q ⟨G,ds,P,s,dv,hr,q⟩;unfold Hi at hr
 split at hr
 ·obtain ⟨_,rfl,a⟩:=dv.ofOne
  cases a;exact ⟨_,rfl,hr.1,q _ hr.2 _ G H (.refl s) (.int _)⟩
 ·exact hr.elim
def Jf(i j:Str):Bool:= !(occurrences j i 0 j.length 1).isEmpty
def NF(neg:Bool):ik:=λx y P=>match x,y with
 | .str i, .str j=>P (.bl (if neg then !Jf i j else Jf i j))
 |_,_=>False
theorem C1:OpR X (compareOp .NotIn) (cv Z (NF true)):=by
 refine xf.imp ?_;rintro x y H Q ⟨G,a,b,P,s,da,db,hr,q⟩;unfold NF at hr
 split at hr
 ·cases da;cases db
  exact ⟨_,_,rfl,rfl,q _ hr _ G H (.refl s) (.bl _)⟩
 ·exact hr.elim
def HG(ta tb:aP):aP:=λρ P=>ta ρ λd=>∃z,d= .str z∧tb ρ λy=>∃(t:Str)(i:Nat)(r:List Nat),y= .str t∧occurrences z t 0 z.length 1=i::r∧P (.int i)
theorem Cc{aG:Pos}(ho:DE Z X o ta)(he:DE Z X e tb)
  (b7:attributeBase o "index" X.env (eval o X.env)=eval o X.env:=by rfl)
  (fF:((backTo aG (starEach [e] X.env)).all (λx=>!x.1)&&(backToKw aG (keywordEach [] X.env)).all (λx=>x.1.isSome)&&decide (([e]:List Expr).length+([]:List Keyword).length+(if ([]:List Keyword).isEmpty then 0 else 1)<30))=true:=by rfl)
  (bE:(apos.endLine==aG.line)=true:=by rfl) (hs:starEach [e] X.env=(false,eval e X.env)::starEach [] X.env:=by rfl) (cf:(backTo aG (starEach [] X.env)).any (·.1)=false:=by rfl):
  DE Z X (.Call (.Attribute o "index" apos) [e] [] aG) (HG ta tb):=by
 refine (dZ PySem.F.plainAttrs_str PySem.F.slot_str_index PySem.F.type_str_index CW ho (ae he aq hs) b7 fF bE hs cf).imp ?_;rintro σ H Q ⟨G,ρ,P,s,en,h,q⟩;refine ⟨G,ρ,_,s,en,h,?_⟩;rintro _ ⟨z,rfl,hd⟩ v G1 H1 x1 dv;cases dv;refine ⟨rfl,G1,ρ,_,x1.sub,en.mono x1.gg,hd,λy hy u G2 H2 x2 du=>?_⟩;obtain ⟨t,i,r,rfl,h5,h6⟩:=hy;cases du;exact ⟨z,t,i,r,rfl,rfl,h5,q _ h6 _ G2 H2 (x1.trans x2) (.int _)⟩
theorem Aw{H:Hp}:∀{vs:List V}{ts:List Str},ar Z H vs (ts.map D.str)→vs=ts.map V.str
 |_,[],h=>by rw [h.JK];rfl
 |_,t::ts,h=>by
  obtain ⟨v,us,rfl,a,b⟩:=h.t8;cases a;rw [Aw b];rfl
theorem By{H:Hp}:∀{ts:List Str},(∀t∈ts,PyData.strOk t=true)→ar Z H (ts.map V.str) (ts.map D.str)
 | [],_=> .nil
 |t::ts,h=> .cons (.str t (h t (.head _))) (By λx hx=>h x (.tail _ hx))
def Pc(ta tb:aP):aP:=λρ P=>ta ρ λd=>∃z,d= .str z∧tb ρ λy=>∃ts:List Str,y= .lst (ts.map D.str)∧JoinOk z ts=true∧PyData.strOk (Txt.join z ts)=true∧P (.str (Txt.join z ts))
theorem pU{aG:Pos}(ho:DE Z X o ta)(he:DE Z X e tb)
  (b7:attributeBase o "join" X.env (eval o X.env)=eval o X.env:=by rfl)
  (fF:((backTo aG (starEach [e] X.env)).all (λx=>!x.1)&&(backToKw aG (keywordEach [] X.env)).all (λx=>x.1.isSome)&&decide (([e]:List Expr).length+([]:List Keyword).length+(if ([]:List Keyword).isEmpty then 0 else 1)<30))=true:=by rfl)
  (bE:(apos.endLine==aG.line)=true:=by rfl) (hs:starEach [e] X.env=(false,eval e X.env)::starEach [] X.env:=by rfl) (cf:(backTo aG (starEach [] X.env)).any (·.1)=false:=by rfl):
  DE Z X (.Call (.Attribute o "join" apos) [e] [] aG) (Pc ta tb):=by
 refine (dZ PySem.F.plainAttrs_str PySem.F.slot_str_join PySem.F.type_str_join Jz ho (ae he aq hs) b7 fF bE hs cf).imp ?_;rintro σ H Q ⟨G,ρ,P,s,en,h,q⟩;refine ⟨G,ρ,_,s,en,h,?_⟩;rintro _ ⟨z,rfl,hd⟩ v G1 H1 x1 dv;cases dv;refine ⟨rfl,G1,ρ,_,x1.sub,en.mono x1.gg,hd,λy hy u G2 H2 x2 du=>?_⟩;obtain ⟨ts,rfl,h5,h6,h7⟩:=hy;cases du with
 | @lst p xs ds hp e=>
  exact ⟨z,p,ts,rfl,rfl,by rw [←Aw e];exact x2.sub _ _ hp,h5,q _ h7 _ G2 H2 (x1.trans x2) (.str _ h6)⟩
def La(ta tb:aP):aP:=λρ P=>ta ρ λd=>∃z,d= .str z∧tb ρ λy=>∃t:Str,y= .str t∧(t.length==0)=false∧z.length+2≤sizeLine∧(∀x∈Txt.split z t,PyData.strOk x=true)∧P (.lst ((Txt.split z t).map D.str))
theorem xw{aG:Pos}(ho:DE Z X o ta)(he:DE Z X e tb)
  (b7:attributeBase o "split" X.env (eval o X.env)=eval o X.env:=by rfl)
  (fF:((backTo aG (starEach [e] X.env)).all (λx=>!x.1)&&(backToKw aG (keywordEach [] X.env)).all (λx=>x.1.isSome)&&decide (([e]:List Expr).length+([]:List Keyword).length+(if ([]:List Keyword).isEmpty then 0 else 1)<30))=true:=by rfl)
  (bE:(apos.endLine==aG.line)=true:=by rfl) (hs:starEach [e] X.env=(false,eval e X.env)::starEach [] X.env:=by rfl) (cf:(backTo aG (starEach [] X.env)).any (·.1)=false:=by rfl):
  DE Z X (.Call (.Attribute o "split" apos) [e] [] aG) (La ta tb):=by
 refine (dZ PySem.F.plainAttrs_str PySem.F.slot_str_split PySem.F.type_str_split Gg ho (ae he aq hs) b7 fF bE hs cf).imp ?_;rintro σ H Q ⟨G,ρ,P,s,en,h,q⟩;refine ⟨G,ρ,_,s,en,h,?_⟩;rintro _ ⟨z,rfl,hd⟩ v G1 H1 x1 dv;cases dv;refine ⟨rfl,G1,ρ,_,x1.sub,en.mono x1.gg,hd,λy hy u G2 H2 x2 du=>?_⟩;obtain ⟨t,rfl,h4,h5,h6,h7⟩:=hy;cases du;exact ⟨z,t,rfl,rfl,h4,h5,λl hn=>q _ h7 _ _ _ ((x1.trans x2).trans (.new x2.sub hn)) (.lst aa (By h6))⟩
end
structure RK (Z:DC):Prop where
 ha:PySem.W.findIn Z.K (.ref Z.C) "__class__"=some (some (.builtin "object.__class__"))
 hn:PySem.W.specialIn Z.K (.builtin "object.__class__") "__get__"=some (some (.builtin "getset_descriptor.__get__"))
 htk:PySem.W.takesIn Z.K (.builtin "object.__class__")=some true
 hm:PySem.W.mroIn Z.K Z.C (.type "object")=some true
 hk:PySem.W.kitOne Z.K (.ref Z.C) (.ref Z.C)=some true
section
variable {Z:DC} {X:Cx} {a:Expr} {ta:aP} {pos:Pos}
theorem wK:bZ X (.builtin "isinstance") (λxs H Q=>∃(x:V)(C:Addr)(t:Value)(b:Bool),xs= [x, .ref C]∧jb X.K H x t∧PySem.W.kitOne X.K t (.ref C)=some b∧Q (.bl b) H):=by
 intro pins s σ H xs us Q I rv h;obtain ⟨x,n,t,b,rfl,ty,e,q⟩:=h;obtain ⟨u1,u2,rfl,r1,r2⟩:=rv.two;cases r2;exact uY I r1 ty e λtk=>⟨.bl b,H,I.tok _,rfl,q⟩
def K6(t:aP):aP:=λρ P=>t ρ λd=>∃z,d= .str z∧P (.bl true)
theorem Fq{p p':Pos}(ha:DE Z X a ta)(hg:Gl X "isinstance")(hm:X.mg "isinstance"=none)(IG:Gl X "str")(AG:X.mg "str"=none)(hs:starEach [a, .Name "str" p'] X.env=(false,eval a X.env)::starEach [.Name "str" p'] X.env:=by rfl)
  (dR:(backTo pos (starEach [.Name "str" p'] X.env)).any (·.1)=false:=by rfl) (mv:starEach [.Name "str" p'] X.env=(false,eval (.Name "str" p') X.env)::starEach [] X.env:=by rfl):
  DE Z X (.Call (.Name "isinstance" p) [a, .Name "str" p'] [] pos) (K6 ta):=by
 have hb:PE X (.Name "str" p') (tC (.ty "str")):=A9 IG AG (by decide+kernel) rfl (by decide) (by decide)
 refine (b8 pS hg hm (by decide+kernel) (ae ha (ae hb aq mv) hs) (by decide) (by decide) hs dR).imp ?_
 rintro σ H Q ⟨G,ρ,P,s,e,h,q⟩;refine ⟨G,ρ,_,s,e,h,?_⟩;rintro d ⟨z,rfl,hp⟩ v G1 H1 x1 dv;cases dv;exact ⟨_,"str",_,true,rfl, .str z,by kernel_rfl,q _ hp _ G1 H1 x1 (.bl _)⟩
def K7(t:aP):aP:=λρ P=>t ρ λd=>∃w,d= .eV w∧P (.bl true)
theorem Fs{p p':Pos}(T:z3 Z)(W:RK Z)(ha:DE Z X a ta)(hg:Gl X "isinstance")(hm:X.mg "isinstance"=none)(IG:Gl X "Web")(AG:X.mg "Web"=some (.ref Z.C))(eK:X.K=Z.K:=by rfl)(hs:starEach [a, .Name "Web" p'] X.env=(false,eval a X.env)::starEach [.Name "Web" p'] X.env:=by rfl)
  (dR:(backTo pos (starEach [.Name "Web" p'] X.env)).any (·.1)=false:=by rfl) (mv:starEach [.Name "Web" p'] X.env=(false,eval (.Name "Web" p') X.env)::starEach [] X.env:=by rfl):
  DE Z X (.Call (.Name "isinstance" p) [a, .Name "Web" p'] [] pos) (K7 ta):=by
 have hb:PE X (.Name "Web" p') (tC (.ref Z.C)):=vz IG AG (v:= .ref Z.C) rfl (by decide)
 refine (b8 wK hg hm (by decide+kernel) (ae ha (ae hb aq mv) hs) (by decide) (by decide) hs dR).imp ?_
 rintro σ H Q ⟨G,ρ,P,s,e,h,q⟩;refine ⟨G,ρ,_,s,e,h,?_⟩;rintro d ⟨w,rfl,hp⟩ v G1 H1 x1 dv;cases dv with
 | @eV p dx R w hw hr g h1 h2=>
  exact ⟨_,Z.C,_,true,rfl, .ins (x1.sub _ _ hw) (by rw [eK];exact T.cl) (by rw [eK];exact W.ha) (by rw [eK];exact W.hn) (by rw [eK];exact W.htk) (by rw [eK];exact W.hm),by rw [eK];exact W.hk,q _ hp _ G1 H1 x1 (.bl _)⟩
end
end L2
namespace BS
open PySem L2 Wb
def top(i:Nat):Stmt:=PySem.Challenge.pw_mapdye_k16_written_and_read.main.body.getD i (.Pass ⟨0,0,0,0⟩)
abbrev mJ:Stmt:=top 11
abbrev jo:Stmt:=top 12
abbrev jT:Stmt:=top 13
abbrev js:Stmt:=top 14
abbrev jR:Stmt:=top 15
abbrev cR:Stmt:=top 16
abbrev jq:Stmt:=top 17
abbrev jr:Stmt:=top 18
abbrev ig:Stmt:=top 22
abbrev mL:Stmt:=top 23
abbrev gb:Stmt:=top 24
abbrev jS:Stmt:=top 26
abbrev mK:Stmt:=top 27
abbrev qx:Stmt:=top 29
abbrev ot:Stmt:=top 30
abbrev mI:Stmt:=top 31
abbrev qz:Stmt:=top 32
abbrev qA:Stmt:=top 33
abbrev qy:Stmt:=top 34
abbrev ou:Stmt:=top 35
abbrev sU:Stmt:=top 36
abbrev lB:Stmt:=top 37
abbrev sV:Stmt:=top 38
abbrev iS:Stmt:=top 39
abbrev fq:Stmt:=top 40
abbrev zF:Stmt:=top 41
abbrev cV:Stmt:=L2.iV (top 19) 0
abbrev mH:Stmt:=L2.iV (top 19) 1
abbrev iR:Stmt:=L2.iV (top 19) 2
abbrev jG:Stmt:=L2.iV (top 19) 3
abbrev sT:Stmt:=L2.iV (top 19) 4
abbrev jQ:Stmt:=L2.iV (top 19) 5
theorem qD:aL ["thing","many"] ["thing","many"] (ao mJ):=⟨rfl,rfl,rfl,by decide+kernel,rfl,by decide+kernel,by decide+kernel⟩
theorem lC:aL ["rows","p","row","q"] ["rows"] (ao jo):=⟨rfl,rfl,rfl,by decide+kernel,rfl,by decide+kernel,by decide+kernel⟩
theorem mP:aL ["rows","p","row"] ["rows"] (ao jT):=⟨rfl,rfl,rfl,by decide+kernel,rfl,by decide+kernel,by decide+kernel⟩
theorem lF:aL ["rows","p","row","place","q"] ["rows"] (ao js):=⟨rfl,rfl,rfl,by decide+kernel,rfl,by decide+kernel,by decide+kernel⟩
theorem mN:aL ["rows","p","row","q"] ["rows"] (ao jR):=⟨rfl,rfl,rfl,by decide+kernel,rfl,by decide+kernel,by decide+kernel⟩
theorem gH:aL ["rows","reached","waiting","p","q"] ["rows"] (ao cR):=⟨rfl,rfl,rfl,by decide+kernel,rfl,by decide+kernel,by decide+kernel⟩
theorem lD:aL ["rows","q","reached"] ["rows"] (ao jq):=⟨rfl,rfl,rfl,by decide+kernel,rfl,by decide+kernel,by decide+kernel⟩
theorem lE:aL ["rows","fault"] ["rows"] (ao jr):=⟨rfl,rfl,rfl,by decide+kernel,rfl,by decide+kernel,by decide+kernel⟩
theorem qG:aL ["web","rows"] ["web"] (ao ig):=⟨rfl,rfl,rfl,by decide+kernel,rfl,by decide+kernel,by decide+kernel⟩
theorem qE:aL ["sign"] ["sign"] (ao mL):=⟨rfl,rfl,rfl,by decide+kernel,rfl,by decide+kernel,by decide+kernel⟩
theorem qF:aL ["text","rows"] ["text"] (ao gb):=⟨rfl,rfl,rfl,by decide+kernel,rfl,by decide+kernel,by decide+kernel⟩
theorem mO:aL ["web","side","sides","p","q"] ["web","side"] (ao jS):=⟨rfl,rfl,rfl,by decide+kernel,rfl,by decide+kernel,by decide+kernel⟩
theorem yn:aL ["web","walked","told","side","sides","step"] ["web"] (ao mK):=⟨rfl,rfl,rfl,by decide+kernel,rfl,by decide+kernel,by decide+kernel⟩
theorem oF:aL ["_law_turns","_law_letters","_law_parts","_law_p","_law_turn"] ["_law_turns"] (ao iS):=⟨rfl,rfl,rfl,by decide+kernel,rfl,by decide+kernel,by decide+kernel⟩
theorem oE:aL ["_law_web_here","_law_turns","_law_ties","_law_a","_law_turn"] ["_law_web_here","_law_turns"] (ao fq):=⟨rfl,rfl,rfl,by decide+kernel,rfl,by decide+kernel,by decide+kernel⟩
theorem EV:aL ["_law_script","_law_turns","_law_text_here","_law_again","_law_handed","_law_shown","_law_found","_law_web_here","_law_other"] ["_law_script"] (ao zF):=⟨rfl,rfl,rfl,by decide+kernel,rfl,by decide+kernel,by decide+kernel⟩
theorem ft:aL ["self","turns","rows","fault"] ["self","turns"] (ao cV):=⟨rfl,rfl,rfl,by decide+kernel,rfl,by decide+kernel,by decide+kernel⟩
theorem qB:aL ["self"] ["self"] (ao mH):=⟨rfl,rfl,rfl,by decide+kernel,rfl,by decide+kernel,by decide+kernel⟩
theorem oz:aL ["self"] ["self"] (ao iR):=⟨rfl,rfl,rfl,by decide+kernel,rfl,by decide+kernel,by decide+kernel⟩
theorem qC:aL ["self"] ["self"] (ao jG):=⟨rfl,rfl,rfl,by decide+kernel,rfl,by decide+kernel,by decide+kernel⟩
theorem mM:aL ["self","p","q","row"] ["self","p","q"] (ao jQ):=⟨rfl,rfl,rfl,by decide+kernel,rfl,by decide+kernel,by decide+kernel⟩
structure Txt (Z:DC) (mg:Str→Option Value) where
 B:RD mg
 x_set:mg "set"=none
 x_str:mg "str"=none
 d_is_among:bX Z.K mg "is_among" mJ ["thing","many"]
 d_alien_fault:bX Z.K mg "alien_fault" jo ["rows"]
 d_self_fault:bX Z.K mg "self_fault" jT ["rows"]
 d_twice_fault:bX Z.K mg "twice_fault" js ["rows"]
 d_lone_fault:bX Z.K mg "lone_fault" jR ["rows"]
 d_reached_from_first:bX Z.K mg "reached_from_first" cR ["rows"]
 d_apart_fault:bX Z.K mg "apart_fault" jq ["rows"]
 d_first_fault:bX Z.K mg "first_fault" jr ["rows"]
 d_show_web:bX Z.K mg "show_web" ig ["web"]
 d_point_of:bX Z.K mg "point_of" mL ["sign"]
 d_read_web:bX Z.K mg "read_web" gb ["text"]
 d_round_from:bX Z.K mg "round_from" jS ["web","side"]
 d_lands:bX Z.K mg "lands" mK ["web"]
 d__law_cell:bX Z.K mg "_law_cell" qx ["_law_script","_law_k"]
 d__law_mixed:bX Z.K mg "_law_mixed" ot ["_law_script","_law_turn"]
 d__law_digits:bX Z.K mg "_law_digits" mI ["_law_script","_law_at"]
 d__law_take:bX Z.K mg "_law_take" qz ["_law_left","_law_many"]
 d__law_tree:bX Z.K mg "_law_tree" qA ["_law_many","_law_left"]
 d__law_next:bX Z.K mg "_law_next" qy ["_law_turns","_law_side"]
 d__law_round:bX Z.K mg "_law_round" ou ["_law_turns","_law_side"]
 d__law_tie:bX Z.K mg "_law_tie" sU ["_law_turns","_law_left","_law_plane"]
 d__law_renamed:bX Z.K mg "_law_renamed" lB ["_law_turns","_law_order","_law_left"]
 d__law_web:bX Z.K mg "_law_web" sV ["_law_script","_law_most","_law_plane"]
 d__law_text:bX Z.K mg "_law_text" iS ["_law_turns"]
 d__law_same:bX Z.K mg "_law_same" fq ["_law_web_here","_law_turns"]
 d_law:bX Z.K mg "law" zF ["_law_script"]
 W:z3 Z
 mC:mg "Web"=some (.ref Z.C)
 i_f:Addr
 i_fd:FuncData
 i_F:wH Z.K "__init__" "Web.__init__" cV i_f i_fd
 mkW:Mk Z.K Z.C i_f
 m___init__b:Binds Z.K i_fd ["self","turns"] []
 m_many:BU Z "many" "Web.many" mH ["self"]
 m_turns:BU Z "turns" "Web.turns" iR ["self"]
 m_ties:BU Z "ties" "Web.ties" jG ["self"]
 m_tied:BU Z "tied" "Web.tied" sT ["self","a","b"]
 m_behind:BU Z "behind" "Web.behind" jQ ["self","p","q"]
 iW:RK Z
 t___name__:∃tk,mg "__name__"=some (.str "law_mapdye_k16_written_and_read" tk)
 t_LETTERS:∃tk,mg "LETTERS"=some (.str "abcdefghijklmnopqrstuvwxyz" tk)
 c_MOST_POINTS:∃tk,mg "MOST_POINTS"=some (.int 14 tk)
variable {P:Program} {w:World} {mg:Str→Option Value} {base:Heap} {Z:DC} (T:Txt Z mg)
def Ko:eW:=λds P=>∃(i n:Int),ds= [.int i, .int n]∧P (.bl (decide (0≤i∧i<n)))
theorem zu:FnOk P w Z.K mg base cq 1 T.d_is_among.f T.d_is_among.fd ["thing","many"] (aW Z Ko):=by
 have nd:=qD.nd;refine bR T.d_is_among.F qD [0,0] (by decide) (λds R h=>by obtain ⟨_,_,rfl,_⟩:=h;rfl) (λbu A outer s H E ds R hr h=>?_)
 have hu:=hr.units;refine ⟨_,(ax (bq (yH (Ej "int" (U 0) rfl T.B.isinstance rfl T.B.int K0) (yH (Ld (Ej "bool" (U 0) rfl T.B.isinstance rfl T.B.bool Hk)) (El (Fo vo CZ bO (U 0) (U 1))))))),?_⟩;obtain ⟨i,n,rfl,q⟩:=h;refine ⟨_,rfl,rfl,true,rfl,f7 ⟨_,rfl,rfl,false,rfl,true,rfl,f7 ⟨_,rfl,?_⟩⟩⟩;refine ⟨_,rfl,nB (λh0=>⟨_,rfl,?_⟩) (λh0=>?_)⟩
 ·have h0:0≤i:=of_decide_eq_true h0
  show R (.bl (decide (i<n)));rw [show decide (i<n)=decide (0≤i∧i<n) by simp [h0]]
  exact q
 ·have h0:¬0≤i:=of_decide_eq_false h0
  rw [show decide (0≤i∧i<n)=false by simp [h0]] at q
  exact q
def nW:eW:=λds P=>∃(w:W),ds= [aT w]∧Good w∧1≤w.length∧w.length≤14∧P .aM
theorem tq{w:W}{j:Nat}{d:D}(h:(eM (w.map aF))[j]? =some d):j<w.length∧d= .tup [.int (j:Int),aF (row w j)]:=by
 obtain ⟨x,hx,rfl⟩:=oS h;obtain ⟨r,hr,rfl⟩:=fH hx;have hj:j<w.length:=(cF.mp hr).1;refine ⟨hj,?_⟩;rw [Mz hr]
theorem tU:FnOk P w Z.K mg base cq 2 T.d_alien_fault.f T.d_alien_fault.fd ["rows"] (aW Z nW):=by
 have nd:=lC.nd;refine bR T.d_alien_fault.F lC [0,0,0,0] (by decide) (λds R h=>by obtain ⟨_,rfl,_⟩:=h;rfl) (λbu A outer s H E ds R hr h=>?_)
 have hu:=hr.units
 refine ⟨_,(aw (fh rfl PassesOwn.never (fE rfl T.B.enumerate (af (U 0) au)) (iN 2 rfl (bI (bf 1 nd) (bI (bf 2 nd) fi))) (ax (fh rfl PassesOwn.never (bw (U 2)) (bf 3 nd) (ax (cT (jB (kE (aZ T.d_is_among (zu T) hr (af (U 3) (af (dJ kB rfl T.B.len jz (af (U 0) au)) au))))) (ax (bq (hC (af fg (af (U 1) (af (U 3) au)))))) bB)))))
   (ax (bq gy))),?_⟩
 obtain ⟨w',rfl,g,h1,bS,q⟩:=h;refine ⟨_,rfl,cX (λ_ ρ=>∃o1 o2 o3,ρ= [some (aT w'),o1,o2,o3]) ⟨_,_,_,rfl⟩ ?_ ?_⟩
 ·rintro j d _ hd ⟨o1,o2,o3,rfl⟩ A hA
  obtain ⟨hj,rfl⟩:=tq hd;refine ⟨rfl,rfl,?_⟩;refine ⟨_,rfl,cX (λ_ ρ=>∃o3,ρ= [some (aT w'),some (.int (j:Int)),some (aF (row w' j)),o3]) ⟨_,rfl⟩ ?_ ?_⟩
  ·rintro k d' _ hk ⟨o4,rfl⟩ A' Iq
   obtain ⟨x,hx,rfl⟩:=fH hk;refine ⟨_,rfl,_,rfl,_,_,rfl,⟨rfl,?_⟩⟩;have bG:x<w'.length:=g.rng _ _ (dD hx);rw [show decide ((0:Int)≤(x:Int)∧(x:Int)<((w'.map aF).length:Int))=true by simp;omega]
   exact fw (Iq _ ⟨_,rfl⟩)
  ·rintro _ ⟨o4,rfl⟩
   exact hA _ ⟨_,_,_,rfl⟩
 ·rintro _ ⟨o1,o2,o3,rfl⟩
  exact q
theorem vx:FnOk P w Z.K mg base cq 1 T.d_self_fault.f T.d_self_fault.fd ["rows"] (aW Z nW):=by
 have nd:=mP.nd;refine bR T.d_self_fault.F mP [0,0,0] (by decide) (λds R h=>by obtain ⟨_,rfl,_⟩:=h;rfl) (λbu A outer s H E ds R hr h=>?_)
 have hu:=hr.units
 refine ⟨_,(aw (fh rfl PassesOwn.never (fE rfl T.B.enumerate (af (U 0) au)) (iN 2 rfl (bI (bf 1 nd) (bI (bf 2 nd) fi))) (ax (cT (bQ JJ (U 1) (U 2) (by with_unfolding_all rfl)) (ax (bq (hC (af fg (af (U 1) (af (U 1) au)))))) bB)))
   (ax (bq gy))),?_⟩
 obtain ⟨w',rfl,g,h1,bS,q⟩:=h;refine ⟨_,rfl,cX (λ_ ρ=>∃o1 o2,ρ= [some (aT w'),o1,o2]) ⟨_,_,rfl⟩ ?_ ?_⟩
 ·rintro j d _ hd ⟨o1,o2,rfl⟩ A hA
  obtain ⟨hj,rfl⟩:=tq hd;refine ⟨rfl,rfl,?_⟩;refine ⟨_,rfl,_,rfl,rfl,j2 _,_,rfl,?_⟩
  have e:inD (.int (j:Int)) ((row w' j).map aB)=false:=by
   have:=uW (r:=row w' j) (p:=j)
   rw [decide_eq_false (g.irr j)] at this;exact this
  rw [if_neg cZ,e];exact fw (hA _ ⟨_,_,rfl⟩)
 ·rintro _ ⟨o1,o2,rfl⟩
  exact q
theorem B9{α:Type}(l:List α)(k:Nat)(h:k≤l.length):cutD l none (some (k:Int))=l.take k:=by
 unfold cutD;have e1:HT.bK l.length 0 none=0:=rfl
 have e2:HT.bK l.length l.length (some (k:Int))=k:=by
  simp only [HT.bK]
  split<;>omega
 rw [e1,e2];simp
theorem tW:FnOk P w Z.K mg base cq 1 T.d_twice_fault.f T.d_twice_fault.fd ["rows"] (aW Z nW):=by
 have nd:=lF.nd;refine bR T.d_twice_fault.F lF [0,0,0,0,0] (by decide) (λds R h=>by obtain ⟨_,rfl,_⟩:=h;rfl) (λbu A outer s H E ds R hr h=>?_)
 have hu:=hr.units
 refine ⟨_,(aw (fh rfl PassesOwn.never (fE rfl T.B.enumerate (af (U 0) au)) (iN 2 rfl (bI (bf 1 nd) (bI (bf 2 nd) fi))) (ax (fh rfl PassesOwn.never (fE rfl T.B.enumerate (af (U 2) au)) (iN 2 rfl (bI (bf 3 nd) (bI (bf 4 nd) fi))) (ax (cT (bQ JJ (U 4) (ni (U 2) p4 (p5 (U 3))) (by with_unfolding_all rfl)) (ax (bq (hC (af fg (af (U 1) (af (U 4) au)))))) bB)))))
   (ax (bq gy))),?_⟩
 obtain ⟨w',rfl,g,h1,bS,q⟩:=h;refine ⟨_,rfl,cX (λ_ ρ=>∃o1 o2 o3 o4,ρ= [some (aT w'),o1,o2,o3,o4]) ⟨_,_,_,_,rfl⟩ ?_ ?_⟩
 ·rintro j d _ hd ⟨o1,o2,o3,o4,rfl⟩ A hA
  obtain ⟨hj,rfl⟩:=tq hd;refine ⟨rfl,rfl,?_⟩;refine ⟨_,rfl,cX (λ_ ρ=>∃o3 o4,ρ= [some (aT w'),some (.int (j:Int)),some (aF (row w' j)),o3,o4]) ⟨_,_,rfl⟩ ?_ ?_⟩
  ·rintro k d' _ hk ⟨o5,o6,rfl⟩ A' Iq
   obtain ⟨y,hy,rfl⟩:=oS hk;obtain ⟨x,hx,rfl⟩:=fH hy;have gB:k<(row w' j).length:=(cF.mp hx).1;refine ⟨rfl,rfl,?_⟩;refine ⟨_,rfl,_,rfl,_,rfl,?_⟩;have ec:cutD ((row w' j).map aB) none (some (k:Int))=((row w' j).take k).map aB:=by rw [B9 _ _ (by simp;omega),List.map_take]
   refine (?_:K4 false (aB x) (.lst (cutD ((row w' j).map aB) none (some (k:Int)))) _);rw [ec];refine ⟨rfl,j2 _,_,rfl,?_⟩
   have e:inD (aB x) (((row w' j).take k).map aB)=false:=by
    rw [uW,decide_eq_false];intro z;obtain ⟨m,hm⟩:=gL z
    have AG:m<k:=by
     have:=(cF.mp hm).1
     rw [iI] at this;omega
    rw [BJ AG] at hm;exact absurd ((List.getElem?_inj (by omega) (g.nod j)).mp (hm.trans hx.symm)) (by omega)
   rw [if_neg cZ,e];exact fw (Iq _ ⟨_,_,rfl⟩)
  ·rintro _ ⟨o5,o6,rfl⟩
   exact hA _ ⟨_,_,_,_,rfl⟩
 ·rintro _ ⟨o1,o2,o3,o4,rfl⟩
  exact q
theorem vv:FnOk P w Z.K mg base cq 1 T.d_lone_fault.f T.d_lone_fault.fd ["rows"] (aW Z nW):=by
 have nd:=mN.nd;refine bR T.d_lone_fault.F mN [0,0,0,0] (by decide) (λds R h=>by obtain ⟨_,rfl,_⟩:=h;rfl) (λbu A outer s H E ds R hr h=>?_)
 have hu:=hr.units
 refine ⟨_,(aw (fh rfl PassesOwn.never (fE rfl T.B.enumerate (af (U 0) au)) (iN 2 rfl (bI (bf 1 nd) (bI (bf 2 nd) fi))) (ax (fh rfl PassesOwn.never (bw (U 2)) (bf 3 nd) (ax (cT (bQ Gk (U 1) (rj (U 0) (U 3)) (by with_unfolding_all rfl)) (ax (bq (hC (af fg (af (U 1) (af (U 3) au)))))) bB)))))
   (ax (bq gy))),?_⟩
 obtain ⟨w',rfl,g,h1,bS,q⟩:=h;refine ⟨_,rfl,cX (λ_ ρ=>∃o1 o2 o3,ρ= [some (aT w'),o1,o2,o3]) ⟨_,_,_,rfl⟩ ?_ ?_⟩
 ·rintro j d _ hd ⟨o1,o2,o3,rfl⟩ A hA
  obtain ⟨hj,rfl⟩:=tq hd;refine ⟨rfl,rfl,?_⟩;refine ⟨_,rfl,cX (λ_ ρ=>∃o3,ρ= [some (aT w'),some (.int (j:Int)),some (aF (row w' j)),o3]) ⟨_,rfl⟩ ?_ ?_⟩
  ·rintro k d' _ hk ⟨o4,rfl⟩ A' Iq
   obtain ⟨x,hx,rfl⟩:=fH hk;have Ve:=dD hx;have bG:x<w'.length:=g.rng _ _ Ve;refine ⟨_,rfl,_,rfl,_,rfl,_,jX (v5 bG),rfl,j2 _,_,rfl,?_⟩
   have e:inD (.int (j:Int)) ((row w' x).map aB)=true:=by
    have:=uW (r:=row w' x) (p:=j)
    rw [decide_eq_true (g.sym _ _ Ve)] at this;exact this
   rw [if_pos rfl,e];exact fw (Iq _ ⟨_,rfl⟩)
  ·rintro _ ⟨o4,rfl⟩
   exact hA _ ⟨_,_,_,rfl⟩
 ·rintro _ ⟨o1,o2,o3,rfl⟩
  exact q
def uw(bs:List Bool):List D:=bs.map D.bl
theorem Hn{bs:List Bool}{i:Nat}{b:Bool}(h:bs[i]? =some b):(uw bs)[i]? =some (.bl b):=by unfold uw;rw [bW,h];rfl
theorem Ab(bs:List Bool)(i:Nat)(b:Bool):(uw bs).set i (.bl b)=uw (bs.set i b):=by unfold uw;rw [List.map_set]
theorem Aa(bs:List Bool):(uw bs).length=bs.length:=aN _
theorem xP{n k:Nat}(h:k<n):iw n (k:Int)=some k:=by unfold iw;rw [if_pos (by omega),if_pos (by omega)];simp
def DJ:eW:=λds P=>∃(w:W),ds= [aT w]∧Good w∧1≤w.length∧w.length≤14∧P (.lst (uw (List.replicate w.length true)))
theorem kS:FnOk P w Z.K mg base cq 1 T.d_reached_from_first.f T.d_reached_from_first.fd ["rows"] (aW Z DJ):=by
 have nd:=gH.nd;refine bR T.d_reached_from_first.F gH [0,1,1,0,0] (by decide) (λds R h=>by obtain ⟨_,rfl,_⟩:=h;rfl) (λbu A outer s H E ds R hr h=>?_)
 have hu:=hr.units
 refine ⟨_,(aw (Fw 1 (NC:= ["row"]) (src:= [none]) rfl nd (lT (ao cR)) trivial (bw (U 0)) (λ_ _ _=>(bb 0 (show (["row"]:List Str).Nodup from by decide+kernel))) (λ_ _ _=>cx) (λ_ _ _=>lU))
   (aw (xy false 1 bO lU)
   (aw (p6 2 nd (pY (af bO au)))
   (aw (xB PassesOwn.never (kE (U 2)) (aw (Lj 3 2 nd)
   (ax (fh rfl PassesOwn.never (bw (rj (U 0) (U 3))) (bf 4 nd) (ax (cT (jB (kE (rj (U 1) (U 4)))) (aw (xy false 1 (U 4) lU)
   (ax (yL false 2 (U 4)))) bB))))))
   (ax (bq (U 1))))))),?_⟩
 obtain ⟨w',rfl,g,h1,bS,q⟩:=h;refine ⟨_,rfl,lc_all (ρ:= [none]) aF (λ_=> .bl false) w' _ (λy hy Y h=>h) rfl (small (by omega)) λaD=>?_⟩
 have e0:w'.map (λ_=>D.bl false)=uw (List.replicate w'.length false):=by unfold uw;rw [List.map_replicate,List.map_const']
 rw [e0];refine ⟨trivial,_,rfl,0,0,rfl,by rw [Aa,tw];exact xP (k:=0) (by omega),?_⟩
 rw [Ab];refine ⟨by show 1≤sizeLine;decide,?_⟩
 refine v7 (λm ρ=>∃(bs:List Bool)(ws:List Nat)(o3 o4:Option D),ρ= [some (aT w'),some (.lst (uw bs)),some (.lst (ws.map aB)),o3,o4]∧RI w' bs ws [] m∧m≤14∧bs.count false+ws.length=m) w'.length ?_ ?_
 ·refine ⟨_,[0],none,none,rfl,⟨by simp,?_,?_,λx hx=>?_,?_⟩,bS,?_⟩
  ·rw [qU,if_pos rfl,if_pos (by rw [tw];omega)]
  ·intro x hx
   have:x=0:=by simpa using hx
   rw [this,qU,if_pos rfl,if_pos (by rw [tw];omega)]
  ·by_cases e:0=x
   ·exact .inl (by rw [←e];simp)
   ·rw [qU,if_neg e,BL] at hx
    split at hx<;>cases hx
  ·rw [List.count_set (by rw [tw];omega),List.count_replicate_self,List.getElem_replicate]
   simp;omega
  ·rw [List.count_set (by rw [tw];omega),List.count_replicate_self,List.getElem_replicate]
   simp;omega
 ·rintro m _ ⟨bs,ws,o3,o4,rfl,ri,hc,Uy⟩
  refine ⟨_,rfl,rfl,?_⟩
  rcases List.eq_nil_or_concat ws with rfl| ⟨Ry,p,e⟩
  ·refine fw ?_
   have e:=ri.all g;rw [←e] at q;exact ⟨_,rfl,q⟩
  ·rw [List.concat_eq_append] at e
   subst e;rw [show E3 (.lst ((Ry++ [p]).map aB))=true by simp [E3]]
   refine f7 ?_;rw [dS] at Uy;simp only [List.length_singleton] at Uy;obtain ⟨c',rfl⟩:∃c',m=c'+1:=⟨m-1,by omega⟩
   have ri2:=ri.pop;have hp:bs[p]? =some true:=ri.wt p (by simp)
   have CD:p<w'.length:=by rw [←ri.len];exact (cF.mp hp).1
   refine ⟨Ry.map aB,aB p,by rw [dP];rfl,?_⟩
   refine ⟨_,rfl,_,rfl,_,jX (v5 CD),cX (λj ρ=>∃(pR:List Bool)(xm:List Nat)(o4:Option D),ρ= [some (aT w'),some (.lst (uw pR)),some (.lst (xm.map aB)),some (aB p),o4]∧RI w' pR xm [p] c'∧(∀k y,k<j→(row w' p)[k]? =some y→pR[y]? =some true)∧pR.count false+xm.length=c') ?_ ?_ ?_⟩
   ·exact ⟨bs,Ry,_,rfl,ri2,(λk n hk=>by omega),by omega⟩
   ·rintro j x _ hx ⟨pR,xm,o5,rfl,Ke,En,OR⟩ A hA
    obtain ⟨n,hn,rfl⟩:=fH hx;have Qh:=g.rng _ _ (dD hn);have Lw:n<pR.length:=by rw [Ke.len];exact Qh
    have IC:pR[n]? =some (pR[n]):=dh Lw;refine ⟨_,rfl,_,rfl,_,jX (Hn IC),rfl,?_⟩;generalize pR[n]=bn at IC;cases bn with
    |true=>
     refine fw (hA _ ⟨pR,xm,_,rfl,Ke,λk y hk hy=>?_,OR⟩)
     by_cases e:k=j
     ·rw [e,hn] at hy;cases hy;exact IC
     ·exact En k y (by omega) hy
    |false=>
     refine f7 ?_;refine ⟨trivial,_,rfl,_,rfl,_,n,rfl,by rw [Aa];exact xP Lw,?_⟩
     rw [Ab];have Mx:=Ke.push IC;have aae:=Mx.cnt;refine ⟨_,rfl,_,rfl,trivial,bF (by rw [aN];omega),?_⟩
     have er:xm.map aB++ [aB n]=(xm++ [n]).map aB:=by rw [dP];rfl
     rw [er];refine hA _ ⟨pR.set n true,xm++ [n],_,rfl,Mx,λk y hk hy=>?_,?_⟩
     ·rw [qU]
      by_cases e:n=y
      ·rw [if_pos e,if_pos Lw]
      ·rw [if_neg e]
       refine En k y ?_ hy;apply Classical.byContradiction;intro z
       have:k=j:=by omega
       rw [this,hn] at hy;cases hy;exact e rfl
     ·obtain ⟨hl,he⟩:=cF.mp IC
      have:0<pR.count false:=List.count_pos_iff.mpr (by rw [←he];exact oK hl)
      rw [List.count_set hl,he,dS];simp;omega
   ·rintro _ ⟨pR,xm,o5,rfl,Ke,En,OR⟩
    have Mx:=Ke.close λy hy=>by
     obtain ⟨k,hk⟩:=gL hy;exact En k y (by rw [aN];exact (cF.mp hk).1) hk
    exact ⟨c',by omega,pR,xm,_,_,rfl,Mx,by omega,OR⟩
theorem tV:FnOk P w Z.K mg base cq 2 T.d_apart_fault.f T.d_apart_fault.fd ["rows"] (aW Z nW):=by
 have nd:=lD.nd;refine bR T.d_apart_fault.F lD [0,0,0] (by decide) (λds R h=>by obtain ⟨_,rfl,_⟩:=h;rfl) (λbu A outer s H E ds R hr h=>?_)
 have hu:=hr.units
 refine ⟨_,(aw (fh rfl PassesOwn.never (fE rfl T.B.enumerate (af (aZ T.d_reached_from_first (kS T) hr (af (U 0) au)) au)) (iN 2 rfl (bI (bf 1 nd) (bI (bf 2 nd) fi))) (ax (cT (jB (kE (U 2))) (ax (bq (hC (af fg (af bO (af (U 1) au)))))) bB)))
   (ax (bq gy))),?_⟩
 obtain ⟨w',rfl,g,h1,bS,q⟩:=h;refine ⟨_,rfl,w',rfl,g,h1,bS,cX (λ_ ρ=>∃o1 o2,ρ= [some (aT w'),o1,o2]) ⟨_,_,rfl⟩ ?_ ?_⟩
 ·rintro j d _ hd ⟨o1,o2,rfl⟩ A hA
  obtain ⟨y,hy,rfl⟩:=oS hd
  have ey:y= .bl true:=by
   obtain ⟨b,hb,rfl⟩:=fH hy
   have:=dD hb
   rw [List.mem_replicate] at this;rw [this.2]
  subst ey;refine ⟨rfl,rfl,?_⟩;exact ⟨_,rfl,rfl,fw (hA _ ⟨_,_,rfl⟩)⟩
 ·rintro _ ⟨o1,o2,rfl⟩
  exact q
theorem iz:FnOk P w Z.K mg base cq 3 T.d_first_fault.f T.d_first_fault.fd ["rows"] (aW Z nW):=by
 have nd:=lE.nd;refine bR T.d_first_fault.F lE [0,0] (by decide) (λds R h=>by obtain ⟨_,rfl,_⟩:=h;rfl) (λbu A outer s H E ds R hr h=>?_)
 have hu:=hr.units
 refine ⟨_,(aw (dY false 1 nd (aZ T.d_alien_fault (tU T) hr (af (U 0) au)))
   (aw (cT (bQ zp (U 1) gy (br _)) (ax (dY false 1 nd (aZ T.d_self_fault (vx T) hr (af (U 0) au)))) bB)
   (aw (cT (bQ zp (U 1) gy (br _)) (ax (dY false 1 nd (aZ T.d_twice_fault (tW T) hr (af (U 0) au)))) bB)
   (aw (cT (bQ zp (U 1) gy (br _)) (ax (dY false 1 nd (aZ T.d_lone_fault (vv T) hr (af (U 0) au)))) bB)
   (aw (cT (bQ zp (U 1) gy (br _)) (ax (dY false 1 nd (aZ T.d_apart_fault (tV T) hr (af (U 0) au)))) bB)
   (ax (bq (U 1)))))))),?_⟩
 obtain ⟨w',rfl,g,h1,bS,q⟩:=h;have no:∀(u:dH)(E:gw)(ρ:DN)(te:aP),ρ[1]? =some (some .aM)→E.nx ρ→ND (yF (Al (Hz false) (Am 1) (dC .aM))) u HC E ρ→True:=λ_ _ _ _ _ _ _=>trivial;refine ⟨_,rfl,w',rfl,g,h1,bS,trivial,?_⟩;refine ⟨_,rfl,_,rfl,f7 ⟨_,rfl,w',rfl,g,h1,bS,trivial,?_⟩⟩;refine ⟨_,rfl,_,rfl,f7 ⟨_,rfl,w',rfl,g,h1,bS,trivial,?_⟩⟩;refine ⟨_,rfl,_,rfl,f7 ⟨_,rfl,w',rfl,g,h1,bS,trivial,?_⟩⟩;refine ⟨_,rfl,_,rfl,f7 ⟨_,rfl,w',rfl,g,h1,bS,trivial,?_⟩⟩;exact ⟨_,rfl,q⟩
theorem ke{P:Program}{w:World}{mg:Str→Option Value}{base:Heap}{Z:DC}(T:Txt Z mg):FnOk P w Z.K mg base cq 4 T.i_f T.i_fd ["self","turns"] (Bt Z):=by
 have Im:=iz (P:=P) (w:=w) (base:=base) T;have nd:=ft.nd;refine T.i_F.ok ft (λvs H Q E h=>?_) (λbu A outer s H vs Q E hr h=>?_)
 ·obtain ⟨p,dx,v,G,w',rfl,_⟩:=h;rfl
 obtain ⟨p,dx,v,G,w',rfl,hp,sG,gp,dv,g,h1,bS,q⟩:=h;have hu:=hr.units
 refine ⟨_,az (t:=jm Z [0,0,0,0] 0 _)
   (cT (jB (xC vo vo bO (dJ kB rfl T.B.len jz (af (U 1) au)) (xv rfl T.c_MOST_POINTS))) (ax iT) bB)
  (az (t:=jm Z [0,0,0,0] 0 _)
   (rq 2 (NC:= ["row"]) (src:= [none]) rfl nd (lT (ao cV)) trivial (bw (U 1)) (λ_ _ _=>(bb 0 (show (["row"]:List Str).Nodup from by decide+kernel))) (λ_ _ _=>cx) (λ_ _ _=>(je uz rfl T.B.list jY (af (U 0) au))))
  (az (t:=jm Z [0,0,0,0] 0 _)
   (dY false 3 nd (aZ T.d_first_fault (iz T) hr (af (U 2) au)))
  (az (t:=jm Z [0,0,0,0] 0 _)
   (cT (bQ ya (U 3) gy (br _)) (ax iT) bB)
  (aX (EG (pv 0) (pv 2) rfl))))),?_⟩
 have lw:(w'.map aF).length=w'.length:=aN _;refine ⟨⟨G,H,G⟩,[some (.obj p),some (aT w'),none,none],{nx:=λρ=>ρ= [some (.obj p),some (aT w'),none,none],rt:=λ_=>False},⟨G,λ_=> [],?_⟩,?_,⟨?_,λ_ z=>z.elim,λ_ z=>z.elim,λ_ z=>z.elim⟩⟩
 ·refine ⟨.refl sG, .refl _,rfl,λi d hi=>?_,λ_=>kr,(λ_ _ _ _ z=>by cases z),(λ_ _ z=>by cases z)⟩
  match i,hi with
  |0,hi=>cases hi;exact ⟨_,rfl, .obj p,rfl⟩
  |1,hi=>cases hi;exact ⟨_,rfl,dv,rfl⟩
  |2,hi=>cases hi
  |3,hi=>cases hi
  |i+4,hi=>cases hi
 ·have e1:D.bl (decide ((1:Int)≤((w'.map aF).length:Int)))= .bl true:=congrArg D.bl (decide_eq_true (by rw [lw];omega))
  have e2:D.bl (decide (((w'.map aF).length:Int)≤14))= .bl true:=congrArg D.bl (decide_eq_true (by rw [lw];omega))
  exact ⟨_,rfl,true,e1,f7 ⟨true,e2,fw rfl⟩⟩
 rintro _ rfl BQ H1 S1;refine ⟨⟨G,H,G⟩,_,{nx:=λρ=>ρ= [some (.obj p),some (aT w'),some (aT w'),none],rt:=λ_=>False},S1,?_,⟨?_,λ_ z=>z.elim,λ_ z=>z.elim,λ_ z=>z.elim⟩⟩
 ·exact ⟨_,rfl,lc_all (ρ:= [none]) aF aF w' _ (λy hy Y h=>⟨_,rfl,h⟩) rfl (small (by omega)) λaD=>⟨trivial,rfl⟩⟩
 rintro _ rfl cD H2 S2;refine ⟨⟨G,H,G⟩,_,{nx:=λρ=>ρ= [some (.obj p),some (aT w'),some (aT w'),some .aM],rt:=λ_=>False},S2,?_,⟨?_,λ_ z=>z.elim,λ_ z=>z.elim,λ_ z=>z.elim⟩⟩
 ·exact ⟨_,rfl,w',rfl,g,h1,bS,trivial,rfl⟩
 rintro _ rfl sg H3 S3;refine ⟨⟨G,H,G⟩,_,{nx:=λρ=>ρ= [some (.obj p),some (aT w'),some (aT w'),some .aM],rt:=λ_=>False},S3,?_,⟨?_,λ_ z=>z.elim,λ_ z=>z.elim,λ_ z=>z.elim⟩⟩
 ·exact ⟨_,rfl,_,rfl,fw rfl⟩
 rintro _ rfl cU H4 ⟨G4,fp,S4⟩;obtain ⟨v0,j6,o0⟩:=S4.at_ 0 _ rfl;obtain ⟨v2,Qu,o2⟩:=S4.at_ 2 _ rfl;obtain ⟨d0,_⟩:=o0;obtain ⟨d2,_⟩:=o2;cases d0;have Zl:=d2;cases d2 with
 | @lst R xs ds hR e=>
  have Qj:=S4.ex.hh _ _ hp;refine ⟨_,Qu,_,j6,p,Z.C,dx,[],rfl,Qj,T.W.cl,T.W.nR,by decide,?_⟩
  have g4:G4 p=none:=S4.ex.off p (by show H p≠none;rw [hp];exact λz=>nomatch z) gp
  refine q R G4 _ S4.ex.gg (λb o eb=>?_) (λb o eb nb=>?_) S4.ex.off aa Zl
  ·rw [ab (ah eb g4)];exact S4.ex.sub _ _ eb
  ·rw [ab nb];exact S4.ex.hh _ _ eb
def MF:eW:=λds P=>∃(w:W),ds= [.eV w]∧P (.int (w.length:Int))
theorem qp:FnOk P w Z.K mg base cq 1 T.m_many.f T.m_many.fd ["self"] (aW Z MF):=by
 have nd:=qB.nd;refine bR T.m_many.F qB [0] (by decide) (λds R h=>by obtain ⟨_,rfl,_⟩:=h;rfl) (λbu A outer s H E ds R hr h=>?_)
 have hu:=hr.units;refine ⟨_,(ax (bq (dJ kB rfl T.B.len jz (af (pW T.W (U 0)) au)))),?_⟩;obtain ⟨w',rfl,q⟩:=h;refine ⟨_,rfl,w',rfl,?_⟩;refine (?_:R (.int ((w'.map aF).length:Int)));rw [aN];exact q
def Kt:eW:=λds P=>∃(w:W),ds= [.eV w]∧w.length≤14∧P (aT w)
theorem jO:FnOk P w Z.K mg base cq 1 T.m_turns.f T.m_turns.fd ["self"] (aW Z Kt):=by
 have nd:=oz.nd;refine bR T.m_turns.F oz [0] (by decide) (λds R h=>by obtain ⟨_,rfl,_⟩:=h;rfl) (λbu A outer s H E ds R hr h=>?_)
 have hu:=hr.units;refine ⟨_,(ax (bq (jf (NC:= ["row"]) (src:= [none]) rfl (lT (ao iR)) trivial (bw (pW T.W (U 0))) (λ_ _ _=>(bb 0 (show (["row"]:List Str).Nodup from by decide+kernel))) (λ_ _ _=>cx) (λ_ _ _=>(je uz rfl T.B.list jY (af (U 0) au)))))),?_⟩
 obtain ⟨w',rfl,bS,q⟩:=h;exact ⟨_,rfl,w',rfl,lc_all (ρ:= [none]) aF aF w' _ (λy hy Y h=>⟨_,rfl,h⟩) rfl (small (by omega)) λaD=>q⟩
end BS
namespace L2
open PySem PySem.Spec PyProof.Rows
section
variable {Z:DC} {X:Cx} {md:List Nat} {rn:Nat} {e:Expr} {pos p2:Pos} {te:aP} {t:jV} {lo hi:Option Expr} {tl th:BR}
def Ph(t:jV):dH:=λE ρ=>t ρ λds=>E.rt (.lst ds)
theorem HW(he:DF Z X rn e t):DSt Z X md rn (.Return (some e) pos) (Ph t):=(fm he).imp λD σ H ⟨B,ρ,E,⟨G,fp,S⟩,h,M⟩=>by
 let F:Addr→Prop:=λb=>∃i,b∈fp i
 have s:=S.ex.sub
 have x0:Ext B.G₀ B.H₀ (plus G H F) H:=⟨S.ex.gg.trans (iY s),kj s,S.ex.hh,λb hb hg=>by
  rw [dO (λ⟨i,hi⟩=>hb (S.nw i b hi).1)];exact S.ex.off b hb hg⟩
 refine ⟨plus G H F,ρ,_,kj s,⟨S.len,λi d h=>?_⟩,h,λds hd v f G' H' x o nd nw=>M.rt _ hd v f G' H' (x0.trans x) o nd λb hb=>⟨S.ex.hh.free (nw b hb).1,(nw b hb).2⟩⟩;obtain ⟨v,hv,o⟩:=S.at_ i d h;exact ⟨v,hv,o.dv (iY s) λb hb u e=>by rw [e7 ⟨i,hb⟩];exact e⟩
end
section
variable {X:Cx}
variable {o e:Expr} {es:List Expr} {to:TE} {t:TA} {name:Str} {apos aG:Pos} {id:String} {r:V→List V→Hp→VK→Prop}
end
section
variable {Z:DC} {X:Cx} {B:Bs} {md:List Nat} {rn:Nat} {ρ:DN} {σ:St} {H G:Hp} {fp:Nat→List Addr} {a e k o:Expr} {ta te tk tp:aP} {pos apos aG p2:Pos}
def SY(md:List Nat)(i:Nat)(te:aP):dH:=λE ρ=>∃ds,ρ[i]? =some (some (.lst ds))∧te (dr md ρ) λd=>∃zs,d= .lst zs∧ds.length+zs.length≤sizeLine∧E.nx (ρ.set i (some (.lst (ds++zs))))
theorem Li(i:Nat){x:Str}{px:Pos}(he:DE Z X e te)(hm:md.getD i 0=1:=by rfl)(hi:X.N[i]? =some x:=by rfl)(hv:rf X.env.scope x:=by first|exact Or.inl rfl|exact Or.inr (Or.inl rfl) |exact Or.inr (Or.inr rfl))(hd:(x==("__debug__":Str))=false:=by decide)(fR:(x==("__classdict__":Str))=false:=by decide)
  (b7:attributeBase (.Name x px) "extend" X.env (eval (.Name x px) X.env)=eval (.Name x px) X.env:=by rfl)
  (fF:((backTo aG (starEach [e] X.env)).all (λx=>!x.1)&&(backToKw aG (keywordEach [] X.env)).all (λx=>x.1.isSome)&&decide (([e]:List Expr).length+([]:List Keyword).length+(if ([]:List Keyword).isEmpty then 0 else 1)<30))=true:=by rfl)
  (bE:(apos.endLine==aG.line)=true:=by rfl) (hs:starEach [e] X.env=(false,eval e X.env)::starEach [] X.env:=by rfl) (cf:(backTo aG (starEach [] X.env)).any (·.1)=false:=by rfl)
  (kH:swapsWith (.Call (.Attribute (.Name x px) "extend" apos) [e] [] aG) none pos.line X.env=pure false:=by rfl):
  DSt Z X md rn (.Expr (.Call (.Attribute (.Name x px) "extend" apos) [e] [] aG) pos) (SY md i te):=by
 refine (cN (dZ PySem.F.plainAttrs_list PySem.F.slot_list_extend PySem.F.type_list_extend vj (pv i hi hv hd fR) (ae he aq hs) b7 fF bE hs cf) kH).imp ?_;rintro D σ H ⟨B,ρ,E,⟨G,fp,S⟩,⟨ds,h1,h⟩,M⟩;obtain ⟨l,xs,_,_,e2,e3,_⟩:=S.one hm h1;refine ⟨_,e2,ty_list e3,S.ev false h λd hd=>⟨trivial,λv G' H' S' x dv=>?_⟩⟩;obtain ⟨zs,rfl,h2,h3⟩:=hd;obtain ⟨l',iD,hJ,e1,kF,Cj,ba,put⟩:=S'.one hm h1;cases e1;rw [e2] at kF;cases kF;cases dv with
 | @lst b ys _ hb dz=>
  exact ⟨l,b,iD,ys,rfl,rfl,Cj,S'.ex.sub _ _ hb,by rw [ba.length,dz.length];exact h2,M.nx _ h3 _ _ ⟨G',fp,put _ _ (ba.append dz)⟩⟩
end
theorem eX.ok{P:Program}{w:World}{H:Hp}{h:Heap}{a:Addr}{b:Bool}{es:List (Int×Addr)}(x:eX b a es h):cL P w H h a (.ext (eX b a es)):=by
 refine ⟨x,let ⟨o,_,_,_,ho,_⟩:=x;⟨o,ho⟩,λh1 h2 p k=>?_⟩;obtain ⟨o,eA,ep,t,ho,r⟩:=p;exact ⟨o,eA,ep,t,k o ho,r⟩
theorem ja.mem{H:Hp}:∀{es:List (Int×Addr)}{ps:List (Int×Int)},ja H es ps→∀e∈es,∃p∈ps,e.1=f9 p∧H e.2=some (.tup [.int p.1, .int p.2])
 |_,_, .nil,e,he=>nomatch he
 |_,_, .cons (p:=p) h t,e,he=>by
  rcases bV.mp he with rfl|he
  ·exact ⟨p,cC ..,rfl,h⟩
  ·obtain ⟨q,h1,h2⟩:=t.mem e he
   exact ⟨q,cA _ h1,h2⟩
theorem ja.N6{H:Hp}:∀{es:List (Int×Addr)}{ps:List (Int×Int)},ja H es ps→∀p∈ps,∃a,(f9 p,a)∈es∧H a=some (.tup [.int p.1, .int p.2])
 |_,_, .nil,p,hp=>nomatch hp
 |_,_, .cons (a:=a) h t,p,hp=>by
  rcases bV.mp hp with rfl|hp
  ·exact ⟨a,cC ..,h⟩
  ·obtain ⟨a',h1,h2⟩:=t.N6 p hp
   exact ⟨a',cA _ h1,h2⟩
theorem ja.len{H:Hp}:∀{es:List (Int×Addr)}{ps:List (Int×Int)},ja H es ps→es.length=ps.length
 |_,_, .nil=>rfl
 |_,_, .cons _ t=>congrArg (·+1) t.len
theorem ja.snoc{H:Hp}{a:Addr}{p:Int×Int}(h:H a=some (.tup [.int p.1, .int p.2])):∀{es:List (Int×Addr)}{ps:List (Int×Int)},ja H es ps→ja H (es++ [(f9 p,a)]) (ps++ [p])
 |_,_, .nil=> .cons h .nil
 |_,_, .cons h' t=> .cons h' (ja.snoc h t)
section
variable {X:Cx} {pins:List (Addr×Obj)} {σ:St} {H:Hp} {s:Shared}
theorem Inv.Be{a:Addr}{p:Int×Int}(I:Inv X pins σ H s)(h:H a=some (.tup [.int p.1, .int p.2])):IsTupleKey (intKind X.prog X.w) s.heap [p.1,p.2] a:=by
 obtain ⟨its,r,⟨o,ho,hc,n,hd⟩,_⟩:=I.tuple (dX.of h);obtain ⟨u1,u2,rfl,⟨t,rfl⟩,⟨u,rfl⟩⟩:=Vals.two r;exact ⟨o,_,n,ho,hc,hd, .cons (by simp [intKind,Value.isInt]) (.cons (by simp [intKind,Value.isInt]) .nil)⟩
theorem Inv.mQ{a:Addr}{b:Bool}{es:List (Int×Addr)}(I:Inv X pins σ H s)(h:H a=some (.ext (eX b a es))):eX b a es s.heap:=(I.hok a _ h).1
theorem qu(P:Program)(w:World)(p:Int×Int):tupleKeyHash (intKind P w) [p.1,p.2]=f9 p:=rfl
theorem Inv.WS{es:List (Int×Addr)}{ps:List (Int×Int)}{eA:Array (Int×Value)}(I:Inv X pins σ H s)(pe:ja H es ps)(pm:eA.toList.Perm (es.map λe=>(e.1,Value.ref e.2))):Ha X.prog X.w s.heap eA:=λi e he=>by
 have hm:e∈eA.toList:=by rw [←eU] at he;exact dD he
 obtain ⟨e',yO,rfl⟩:=bz.mp (pm.mem_iff.mp hm);obtain ⟨p,_,h1,h2⟩:=pe.mem e' yO;exact ⟨[p.1,p.2],e'.2,by rw [qu,h1],I.Be h2⟩
theorem Inv.mj{es:List (Int×Addr)}{ps:List (Int×Int)}{eA:Array (Int×Value)}(I:Inv X pins σ H s)(pe:ja H es ps)(pm:eA.toList.Perm (es.map λe=>(e.1,Value.ref e.2)))(p:Int×Int):
  (∃(i:Nat)(c:Addr),eA[i]? =some (tupleKeyHash (intKind X.prog X.w) [p.1,p.2], .ref c)∧IsTupleKey (intKind X.prog X.w) s.heap [p.1,p.2] c)↔p∈ps:=by
 constructor
 ·rintro ⟨i,c,h1,h2⟩
  have hm:(tupleKeyHash (intKind X.prog X.w) [p.1,p.2],Value.ref c)∈eA.toList:=by rw [←eU] at h1;exact dD h1
  obtain ⟨e',yO,e1⟩:=bz.mp (pm.mem_iff.mp hm);obtain ⟨q,hq,h3,h4⟩:=pe.mem e' yO
  have:e'.2=c:=by have:=(Prod.mk.inj e1).2;injection this
  rw [this] at h4
  have:=(I.Be h4).inj h2
  simp at this
  have:q=p:=Prod.ext this.1 this.2
  rw [←this];exact hq
 ·intro hp
  obtain ⟨a,h1,h2⟩:=pe.N6 p hp;have hm:(f9 p,Value.ref a)∈eA.toList:=pm.mem_iff.mpr (bz.mpr ⟨_,h1,rfl⟩);obtain ⟨i,hi⟩:=List.mem_iff_getElem?.mp hm;rw [eU] at hi;exact ⟨i,a,by rw [qu];exact hi,I.Be h2⟩
theorem Gs{p pos:Pos}(hg:Gl X "set")(hm:X.mg "set"=none):PE X (.Call (.Name "set" p) [] [] pos) (λσ H Q=>∀q,H q=none→Q (.ref q) (upd H q (.ext (eX (fQ X.w) q [])))):=by
 intro pins s σ H Q I h;refine wpAny_Call_Name_kw (kM I hg hm (u:= .type "set") (by decide+kernel) ?_ (by decide) (by decide))
 refine PyProof.Rows.callWith_type rfl (PyProof.Rows.evalArgs_nil3 (yD ?_));have hn:=I.hok.fresh (aV _);exact ⟨.ref s.heap.objs.size,_,I.laid (t':=s.toks) (λb o e=>Heap.get?_push_of_some _ e) (aV _) (o:= .ext (eX (fQ X.w) s.heap.objs.size [])) (eX.ok ⟨_,_,_,_,Heap.get?_push_size _ rfl,lh.new X.w, .refl _⟩),rfl,h _ hn⟩
theorem Vj{a c:Addr}{es:List (Int×Addr)}{ps:List (Int×Int)}{p:Int×Int}{Q:Bool→Shared→Prop}{E:Value→Shared→Prop}(hu:X.A.units+64<cLine)(I:Inv X pins σ H s)(hc:H c=some (.tup [.int p.1, .int p.2]))(ha:H a=some (.ext (eX (fQ X.w) a es)))(pe:ja H es ps)
  (h:∀tk,Q (decide (p∈ps)) {s with toks:=tk}):wpAny (model X.prog X.w) X.A (contains (.ref a) (.ref c)) Q E s:=by
 obtain ⟨o,eA,ep,t,ho,S,pm⟩:=I.mQ ha;refine qN hu ho S (I.WS pe pm) (I.Be hc) λtk=>?_
 have:PySem.mj X.prog X.w s.heap eA [p.1,p.2]=decide (p∈ps):=by
  classical
  unfold PySem.mj;exact decide_eq_decide.mpr (I.mj pe pm p)
 rw [this];exact h tk
theorem C7(hu:X.A.units+64<cLine):OpR X (compareOp .NotIn) (λx y H Q=>∃c a es ps p,x= .ref c∧y= .ref a∧H c=some (.tup [.int p.1, .int p.2])∧H a=some (.ext (eX (fQ X.w) a es))∧ja H es ps∧Q (.bl (!decide (p∈ps))) H):=by
 intro pins s σ H x y v u Q I rx ry h;obtain ⟨c,a,es,ps,p,rfl,rfl,hc,ha,pe,q⟩:=h;cases rx;cases ry;show wpAny _ _ (do return Value.bool (!(←contains (.ref a) (.ref c))):Sem Value) _ _ s
 exact wpAny_bind (Vj hu I hc ha pe λtk=>wpAny_pure ⟨.bl _,H,I.tok _,rfl,q⟩)
theorem Jy(hu:X.A.units+64<cLine):BW X "set.add" (λx vs H Q=>∃l c es ps p,x= .ref l∧vs= [.ref c]∧H c=some (.tup [.int p.1, .int p.2])∧H l=some (.ext (eX (fQ X.w) l es))∧ja H es ps∧ps.length≤300∧
  (p∈ps→Q .aM H)∧(p∉ps→Q .aM (upd H l (.ext (eX (fQ X.w) l (es++ [(f9 p,c)])))))):=by
 intro pins s σ H x vs v us Q I rx rv h;obtain ⟨l,c,es,ps,p,rfl,rfl,hc,hl,pe,hz,q1,q2⟩:=h;cases rx;obtain ⟨u,rfl,ru⟩:=rv.one;cases ru;obtain ⟨o,eA,ep,t,ho,S,pm⟩:=I.mQ hl;have hT:s.TypeIs (.ref l) "set":=⟨o,ho,S.ex.1⟩;refine wpAny_call_entry F.slot_set_add hT F.entry_set_add ?_ (F.args_set_add_2 _ _);unfold Builtin.«set.add» Builtin.Frozenset.oneOther;simp only [List.isEmpty_nil,bind_assoc];unfold Builtin.Frozenset.addrOf setAdd;refine wpAny_bind (wpAny_pure ?_)
 try dsimp only
 refine wpAny_bind (wpAny_pure ?_)
 try dsimp only
 refine wpAny_bind ?_;refine wpAny_holding ?_;have hk:=I.Be hc;refine wpAny_bind (wpAny_pyHash_tuple ?_ hk ?_)
 ·show X.A.units+1<cLine;omega
 have sz:eA.size=ps.length:=by
  have:=pm.length_eq
  rw [cu,aN,pe.len] at this;exact this
 refine zO (s:={s with toks:=s.toks+([p.1,p.2].length+1)}) (by show X.A.units+1<cLine;omega) ho S (I.WS pe pm) hk (by omega) (λhy=>?_) λhn h' o' lY Ck t' sb lO S' pm'=>?_
 ·show wpAny _ _ (ret Value.none) _ _ _
  exact wpAny_pure ⟨_,rfl, .aM,H,I.tok _,rfl,q1 ((I.mj pe pm p).mp hy)⟩
 ·show wpAny _ _ (ret Value.none) _ _ _
  have UT:p∉ps:=λz=>by
   obtain ⟨i,c',h1,h2⟩:=(I.mj pe pm p).mpr z;exact hn i _ h1 c' rfl h2
  have I':=I.write (h':=h') (t':=s.toks+([p.1,p.2].length+1)) (x:=l) (e:=l) (o:= .ext (eX (fQ X.w) l (es++ [(f9 p,c)]))) (by rw [hl];trivial) (.inl rfl) (λb u hb e=>sb.extBut b u hb e) ⟨o',lO⟩ (eX.ok ⟨o',lY,Ck,t',lO,S',by
   rw [dP];exact pm'.trans (pm.append_right _)⟩)
  exact wpAny_pure ⟨_,rfl, .aM,_,I',rfl,q2 UT⟩
def XZ(b:Bool)(r:V→List V→Hp→VK→Prop)(to:TE)(t:TA):TE:=λσ H Q=>to σ H λx H1=>(∃p es,x= .ref p∧H1 p=some (.ext (eX b p es)))∧t σ H1 λxs H2=>r x xs H2 Q
variable {o e:Expr} {es:List Expr} {to:TE} {t:TA} {name:Str} {apos aG:Pos} {id:String} {r:V→List V→Hp→VK→Prop}
theorem Mf{b:Bool}(pa:PlainAttrs "set")(slot:Slot "set" name id)(Jb:typeOf (.builtin id)=pure (.type "method_descriptor"))(hm:BW X id r)(ho:PE X o to)(ha:PA X (e::es) t)
  (b7:attributeBase o name X.env (eval o X.env)=eval o X.env:=by rfl)
  (fF:((backTo aG (starEach (e::es) X.env)).all (λx=>!x.1)&&(backToKw aG (keywordEach [] X.env)).all (λx=>x.1.isSome)
   &&decide ((e::es).length+([]:List Keyword).length+(if ([]:List Keyword).isEmpty then 0 else 1)<30))=true:=by rfl)
  (bE:(apos.endLine==aG.line)=true:=by rfl) (hs:starEach (e::es) X.env=(false,eval e X.env)::starEach es X.env:=by rfl) (cf:(backTo aG (starEach es X.env)).any (·.1)=false:=by rfl):
  PE X (.Call (.Attribute o name apos) (e::es) [] aG) (XZ b r to t):=by
 intro pins s σ H Q I h;refine wpAny_Call_method_late b7 fF bE rfl (thn (ho pins s σ H _ I h) λv s1 ⟨x,H1,I1,r1,ty,q1⟩=>?_);obtain ⟨p,lY,rfl,hp⟩:=ty;cases r1;obtain ⟨oo,_,_,_,U5,S,_⟩:=I1.mQ hp;refine ⟨"set",id,pa,slot,Jb,⟨oo,U5,S.ex.1⟩,λa ea=>?_,?_⟩
 ·cases ea;exact ⟨oo,U5,S.ex.2.1⟩
 have hA:=ha aG pins s1 σ H1 _ I1 q1;rw [hs] at hA ⊢;refine Calls.callWith_builtin (by show (false|| (backTo aG (starEach es X.env)).any (·.1))=false;rw [cf]<;>rfl) (Calls.evalArgs_plain ?_)
 exact thn hA λus s2 ⟨vs,H2,I2,r2,q2⟩=>hm pins s2 σ H2 (.ref p) vs (.ref p) us Q I2 rfl r2 q2
end
def AL(ps:List (Int×Int))(p:Int×Int):List (Int×Int):=if p∈ps then ps else ps++ [p]
section
variable {Z:DC} {X:Cx} {B:Bs} {md:List Nat} {rn:Nat} {ρ:DN} {σ:St} {H G:Hp} {fp:Nat→List Addr} {a e k o:Expr} {ta te tk tp:aP} {pos apos aG p2:Pos}
def Q4(p:Int×Int):D:= .tup [.int p.1, .int p.2]
theorem Dv.Oj{v:V}{p:Int×Int}(h:Dv Z G v (Q4 p)):∃c,v= .ref c∧G c=some (.tup [.int p.1, .int p.2]):=by
 obtain ⟨c,xs,rfl,h1,h2⟩:=Dv.rQ h;obtain ⟨v1,v2,rfl,d1,d2⟩:=h2.zr;rw [d1.ofInt,d2.ofInt] at h1;exact ⟨c,rfl,h1⟩
def S0(w:World)(neg:Bool):ik:=λa b P=>∃p ps,a=Q4 p∧b= .x (.qw (fQ w) ps)∧P (.bl (if neg=true then !decide (p∈ps) else decide (p∈ps)))
theorem C0(hu:X.A.units+64<cLine):OpR X (compareOp .NotIn) (cv Z (S0 X.w true)):=by
 refine (C7 hu).imp ?_;rintro x y H Q ⟨G,a,b,P,s,da,db,⟨p,ps,rfl,rfl,h⟩,q⟩;obtain ⟨c,rfl,hc⟩:=da.Oj;cases db with
 |x hp ok=>
  obtain ⟨_,es,rfl,pe⟩:=ok;exact ⟨c,_,es,ps,p,rfl,rfl,s _ _ hc,s _ _ hp,pe.mono s,q _ h _ G H (.refl s) (.bl _)⟩
def K9(w:World)(i:Nat):dH:=λE ρ=>E.nx (ρ.set i (some (.x (.qw (fQ w) []))))
theorem Fx(i:Nat){x:Str}{pos' p:Pos}(hN:X.N.Nodup)(hg:Gl X "set")(uR:X.mg "set"=none)(hm:md.getD i 0=98:=by rfl)(hi:X.N[i]? =some x:=by rfl)(hx:Loc X.env.scope x:=by first|exact Or.inl rfl|exact Or.inr rfl)(hs:swapsWith (.Call (.Name "set" p) [] [] p2) (some (.Name x pos')) pos.line X.env=pure false:=by rfl)
  (hf:X.fn x=true∨X.env.scope.names.lookup x=some .local:=by first|exact .inl rfl|exact .inr rfl|assumption):DSt Z X md rn (.Assign [.Name x pos'] (.Call (.Name "set" p) [] [] p2) pos) (K9 X.w i):=by
 refine (bP hN hi hx (Gs hg uR) hs hf).imp ?_;rintro D σ H ⟨B,ρ,E,⟨G,fp,S⟩,h,M⟩;intro c hc;have gc:G c=none:=S.ex.sub.free hc;have x:Ext G H G (upd H c (.ext (eX (fQ X.w) c []))):=⟨.refl _,S.ex.sub.trans (av hc _),av hc _,λ_ _ z=>z⟩;refine M.nx _ h _ _ ⟨G,_,(S.grow x).Oy hm (f:= [c]) (.inr (.inr ⟨c,_,rfl,aa,rfl, .inr ⟨rfl,_,rfl,kr,[],rfl, .nil⟩⟩)) (by simp) (λb hb=>?_) λb hb j _ hj=>?_⟩
 ·rw [eE] at hb;subst hb
  exact ⟨S.ex.hh.free hc,(by rw [aa];exact λz=>nomatch z),gc⟩
 ·rw [eE] at hb;subst hb
  exact (S.nw j _ hj).2.1 hc
def O8(w:World)(md:List Nat)(m:Bool)(i:Nat)(te:aP):dH:=λE ρ=>∃ps,ρ[i]? =some (some (.x (.qw (fQ w) ps)))∧te (DZ md m ρ) λd=>∃p,d=Q4 p∧ps.length≤300∧E.nx (ρ.set i (some (.x (.qw (fQ w) (AL ps p)))))
theorem HS(m:Bool)(i:Nat){x:Str}{px:Pos}(hu:X.A.units+64<cLine)(he:DE Z X e te)(hm:md.getD i 0=98:=by rfl)(hi:X.N[i]? =some x:=by rfl)(hv:rf X.env.scope x:=by first|exact Or.inl rfl|exact Or.inr (Or.inl rfl) |exact Or.inr (Or.inr rfl))(hd:(x==("__debug__":Str))=false:=by decide)(fR:(x==("__classdict__":Str))=false:=by decide)
  (b7:attributeBase (.Name x px) "add" X.env (eval (.Name x px) X.env)=eval (.Name x px) X.env:=by rfl)
  (fF:((backTo aG (starEach [e] X.env)).all (λx=>!x.1)&&(backToKw aG (keywordEach [] X.env)).all (λx=>x.1.isSome)&&decide (([e]:List Expr).length+([]:List Keyword).length+(if ([]:List Keyword).isEmpty then 0 else 1)<30))=true:=by rfl)
  (bE:(apos.endLine==aG.line)=true:=by rfl) (hs:starEach [e] X.env=(false,eval e X.env)::starEach [] X.env:=by rfl) (cf:(backTo aG (starEach [] X.env)).any (·.1)=false:=by rfl)
  (kH:swapsWith (.Call (.Attribute (.Name x px) "add" apos) [e] [] aG) none pos.line X.env=pure false:=by rfl):
  DSt Z X md rn (.Expr (.Call (.Attribute (.Name x px) "add" apos) [e] [] aG) pos) (O8 X.w md m i te):=by
 refine (cN (Mf (b:=fQ X.w) PySem.F.plainAttrs_set PySem.F.slot_set_add PySem.F.type_set_add (Jy hu) (pv i hi hv hd fR) (ae he aq hs) b7 fF bE hs cf) kH).imp ?_;rintro D σ H ⟨B,ρ,E,⟨G,fp,S⟩,⟨ps,h1,h⟩,M⟩;obtain ⟨v0,j6,o0⟩:=S.at_ i _ h1;rw [hm] at o0;obtain ⟨l,φ,rfl,hl,_,nd,es,rfl,pe⟩:=o0.xA;refine ⟨_,j6,⟨l,_,rfl,hl⟩,S.ev m h λd hd=>?_⟩;obtain ⟨p,rfl,hz,hn⟩:=hd;refine ⟨by cases m<;>trivial,λv G' H' S' x dv=>?_⟩
 obtain ⟨c,rfl,hc⟩:=dv.Oj;obtain ⟨v1,Vc,o1⟩:=S'.at_ i _ h1;rw [j6] at Vc;cases Vc;rw [hm] at o1;obtain ⟨l',φ',e',IJ,UH,n6,lY,rfl,WR⟩:=o1.xA;cases e';refine ⟨l,c,lY,ps,p,rfl,rfl,x.sub _ _ hc,IJ,WR.mono x.sub,hz,λhp=>?_,λhp=>?_⟩
 ·rw [AL,if_pos hp] at hn
  refine M.nx _ hn _ _ ⟨G',fp,?_⟩
  have e:ρ.set i (some (.x (.qw (fQ X.w) ps)))=ρ:=by
   refine oJ λj=>?_
   by_cases z:i=j
   ·subst z
    have bG:=(cF.mp h1).1;rw [mY bG,h1]
   ·rw [tx z]
  rw [e];exact S'
 ·rw [AL,if_neg hp] at hn
  refine M.nx _ hn _ _ ⟨G',fp,S'.mut j6 (b:=l) (by rw [UH];simp) ?_⟩
  rw [hm,UH];refine .inr (.inr ⟨l,_,rfl,aa,rfl, .inr ⟨rfl,_,rfl,?_,_,rfl,WR.snoc hc⟩⟩);rw [cJ];refine ⟨n6,by simp,λa ha b hb z=>hp ?_⟩
  rw [eE] at hb;rw [←hb,←z];exact ha
end
section
variable {Z:DC} {X:Cx} {md:List Nat} {rn:Nat} {a b:Expr} {pos:Pos} {ta:i8}
def Tc(md:List Nat)(i j:Nat)(ta:i8):dH:=λE ρ=>ta (dr md ρ) λds=>∃a b,ds= [a,b]∧E.nx ((ρ.set i (some a)).set j (some b))
theorem Ep(i j:Nat){x y:Str}{px py pt:Pos}{kt k2 Dk}(hc:X.calm=true)(hN:X.N.Nodup)(ha:DA Z X [a,b] ta)(hi:X.N[i]? =some x:=by rfl)(hj:X.N[j]? =some y:=by rfl)(dm:i≠j:=by decide)(hm:md.getD i 0=0:=by rfl)(FZ:md.getD j 0=0:=by rfl)
  (hx:X.env.scope.names.lookup x=some .local:=by rfl) (hy:X.env.scope.names.lookup y=some .local:=by rfl)
  (hw:swappedStores [.Tuple [.Name x px, .Name y py] kt pt] (.Tuple [a,b] k2 Dk) X.env=pure (some [x,y]):=by rfl)
  (hs:swapsWithSole [.Tuple [.Name x px, .Name y py] kt pt] (.Tuple [a,b] k2 Dk) pos.line X.env=pure false:=by rfl):
  DSt Z X md rn (.Assign [.Tuple [.Name x px, .Name y py] kt pt] (.Tuple [a,b] k2 Dk) pos) (Tc md i j ta):=by
 refine (Mq hc hN hi hj dm hx hy ha hw hs).imp ?_;rintro D σ H ⟨B,ρ,E,⟨G,fp,S⟩,h,M⟩;refine ⟨G,dr md ρ,_,S.ex.sub,S.Ay,h,?_⟩;rintro _ ⟨a,b,rfl,hn⟩ vs G' H' x ba;obtain ⟨v,u,rfl,d1,d2⟩:=ba.zr;exact ⟨v,u,rfl,M.nx _ hn _ _ ⟨G',_,((S.grow x).mQ hm d1).mQ FZ d2⟩⟩
end
section
variable {Z:DC} {X:Cx} {B:Bs} {md:List Nat} {rn:Nat} {ρ:DN} {σ:St} {H G:Hp} {fp:Nat→List Addr} {e k:Expr} {pos p2 apos aG:Pos} {tp te:aP} {t:jV}
def T6(t:jV):jV:=λρ P=>t ρ λa=>P [.lst a]
theorem Lf(ha:DF Z X 1 e t)(hs:starEach [e] X.env=(false,eval e X.env)::starEach [] X.env:=by rfl):DF Z X 2 (.List [e] pos) (T6 t):=by
 refine (dF (ae ha aq hs)).imp ?_;rintro σ H Q ⟨G,ρ,P,s,en,h,q⟩;refine ⟨G,ρ,_,s,en,h,λl1 h1 v1 f1 G1 H1 x1 o1 rN L5=>⟨by show 1≤sizeLine;decide,λp hp=>?_⟩⟩
 have n1:∀b∈f1,b≠p:=λb hb z=>(L5 b hb).2.1 (by rw [z];exact hp)
 refine q _ h1 (.ref p) (p::(f1++ [])) G1 _ (x1.side hp) (.inl ⟨p,[v1],_,_,rfl,rfl,aa,rfl, .cons (o1.keep (.refl _) λb hb=>ab (n1 b hb)) .nil⟩) ?_ ?_
 ·rw [iK,fz]
  exact ⟨λz=>n1 p z rfl,rN⟩
 ·intro b hb
  rw [iK] at hb
  rcases bV.mp hb with rfl|hb
  ·exact ⟨x1.hh.free hp,(by rw [aa];exact λz=>nomatch z),x1.sub.free hp⟩
  ·exact ⟨(L5 b hb).1,(by rw [ab (n1 b hb)];exact (L5 b hb).2.1),(L5 b hb).2.2⟩
theorem HN(n:Nat):DF Z X (n+1) (.List [] pos) (NP su):=by
 refine (dF aq).imp ?_;rintro σ H Q ⟨G,ρ,P,s,en,⟨_,hp⟩,q⟩;refine ⟨by show 0≤sizeLine;decide,λp hn=>?_⟩
 refine q _ hp (.ref p) [p] G _ ((Ext.refl s).side hn) (.inl ⟨p,[],[],[],rfl,rfl,aa,rfl, .nil⟩) (by simp) λb hb=>?_
 have:b=p:=by simpa using hb
 subst this;exact ⟨hn,(by rw [aa];exact λz=>nomatch z),s.free hn⟩
def HF(i:Nat)(tp:aP):dH:=λE ρ=>∃eL,ρ[i]? =some (some (.lst eL))∧tp ρ λpp=>∃p j ds,pp= .int p∧iw eL.length p=some j∧eL[j]? =some (.lst ds)∧E.nx (ρ.set i (some (.lst (eL.set j (.lst ds.reverse)))))
theorem HX(i:Nat){x:Str}{px ps:Pos}(hp:DE Z X k tp)(hm:md.getD i 0=2:=by rfl)(y0:lQ k:=by exact λ_ _=>rfl)
  (hi:X.N[i]? =some x:=by rfl) (hv:rf X.env.scope x:=by first|exact Or.inl rfl|exact Or.inr (Or.inl rfl) |exact Or.inr (Or.inr rfl)) (hd:(x==("__debug__":Str))=false:=by decide) (fR:(x==("__classdict__":Str))=false:=by decide)
  (b7:attributeBase (.Subscript (.Name x px) k ps) "reverse" X.env (eval (.Subscript (.Name x px) k ps) X.env)=eval (.Subscript (.Name x px) k ps) X.env:=by rfl) (bE:(apos.endLine==aG.line)=true:=by rfl)
  (kH:swapsWith (.Call (.Attribute (.Subscript (.Name x px) k ps) "reverse" apos) [] [] aG) none pos.line X.env=pure false:=by rfl):DSt Z X md rn (.Expr (.Call (.Attribute (.Subscript (.Name x px) k ps) "reverse" apos) [] [] aG) pos) (HF i tp):=by
 refine (cN (EE PySem.F.plainAttrs_list PySem.F.slot_list_reverse PySem.F.type_list_reverse A4 (b9 bx (pv i hi hv hd fR) hp y0) b7 bE) kH).imp ?_;rintro Dn σ H ⟨B,ρ,E,⟨G,fp,S⟩,⟨eL,h1,h⟩,M⟩;obtain ⟨v0,j6,o⟩:=S.at_ i _ h1;refine ⟨_,j6,S.ev true h ?_⟩;rintro _ ⟨p,j,ds,rfl,hj,hd,h⟩;refine ⟨rfl,λv1 G1 H1 S1 x1 HY=>?_⟩;cases HY;obtain ⟨T,ys,l,xs,hJ,e1,e2,e3,e4,e5,e6,ba,put⟩:=S1.two hm h1 hd;cases e1;rw [e2] at j6;cases j6;exact ⟨T,ys,p, .ref l,rfl,rfl,aH.of e3,Ef e4 hj e5,ty_list e6,l,xs,rfl,rfl,e6,M.nx _ h _ _ ⟨G1,fp,put _ _ ba.rev⟩⟩
theorem SIx.VQ{i:Nat}{v:V}{d':D}{b:Addr}{c:HO}{f':List Addr}(S:SIx Z B md ρ σ H G fp)(hi:σ[i]? =some (some v))(hb:b∈fp i)(o:Own Z G (upd H b c) (md.getD i 0) v d' f')(nd:f'.Nodup)(nw:∀x∈f',B.H₀ x=none∧H x≠none∧G x=none)(ap:∀x∈f',∀j,j≠i→x∉fp j):
  SIx Z B md (ρ.set i (some d')) σ (upd H b c) G (λj=>if j=i then f' else fp j) where
 ex:=by
  obtain ⟨h1,h2,h3⟩:=S.nw i b hb;exact ⟨S.ex.gg,λx u e=>by rw [ab (ah e h3)];exact S.ex.sub _ _ e,λx u e=>by rw [ab (ah e h1)];exact S.ex.hh _ _ e,S.ex.off⟩
 fl:=S.fl
 len:=by rw [gm];exact S.len
 at_:=λj w h=>by
  by_cases z:i=j
  ·subst z
   by_cases hl:i<ρ.length
   ·rw [mY hl] at h
    cases h;exact ⟨v,hi,by rw [if_pos rfl];exact o⟩
   ·rw [BK (lI hl),gf (lI hl)] at h;cases h
  ·rw [tx z] at h
   obtain ⟨u,hu,ow⟩:=S.at_ j w h;exact ⟨u,hu,by rw [if_neg (Ne.symm z)];exact ow.keep (.refl _) λx hx=>ab λq=>S.ap i j b z hb (by rw [←q];exact hx)⟩
 nd:=λj=>by split;exact nd;exact S.nd j
 ap:=λj k b ne hj hk=>by
  split at hj
  ·next z=>
   rw [if_neg (λw=>ne (z.trans w.symm))] at hk;exact ap b hj k (λw=>ne (z.trans w.symm)) hk
  ·next z=>
   split at hk
   ·exact ap b hk j z hj
   ·exact S.ap j k b ne hj hk
 nw:=λj x hx=>by
  have go:B.H₀ x=none∧H x≠none∧G x=none:=by
   split at hx
   ·exact nw x hx
   ·exact S.nw j x hx
  refine ⟨go.1,?_,go.2.2⟩
  by_cases z:x=b
  ·rw [z,aa];exact λq=>nomatch q
  ·rw [ab z];exact go.2.1
def K3(md:List Nat)(i:Nat)(t:jV):dH:=λE ρ=>∃eL,ρ[i]? =some (some (.lst eL))∧t (dr md ρ) λl=>eL.length<sizeLine∧E.nx (ρ.set i (some (.lst (eL++ [.lst l]))))
theorem Fv(i:Nat){x:Str}{px:Pos}(he:DF Z X 1 e t)(hm:md.getD i 0=2:=by rfl)(hi:X.N[i]? =some x:=by rfl)(hv:rf X.env.scope x:=by first|exact Or.inl rfl|exact Or.inr (Or.inl rfl) |exact Or.inr (Or.inr rfl))(hd:(x==("__debug__":Str))=false:=by decide)(fR:(x==("__classdict__":Str))=false:=by decide)
  (b7:attributeBase (.Name x px) "append" X.env (eval (.Name x px) X.env)=eval (.Name x px) X.env:=by rfl)
  (fF:((backTo aG (starEach [e] X.env)).all (λx=>!x.1)&&(backToKw aG (keywordEach [] X.env)).all (λx=>x.1.isSome)&&decide (([e]:List Expr).length+([]:List Keyword).length+(if ([]:List Keyword).isEmpty then 0 else 1)<30))=true:=by rfl)
  (bE:(apos.endLine==aG.line)=true:=by rfl) (hs:starEach [e] X.env=(false,eval e X.env)::starEach [] X.env:=by rfl) (cf:(backTo aG (starEach [] X.env)).any (·.1)=false:=by rfl)
  (kH:swapsWith (.Call (.Attribute (.Name x px) "append" apos) [e] [] aG) none pos.line X.env=pure false:=by rfl):
  DSt Z X md rn (.Expr (.Call (.Attribute (.Name x px) "append" apos) [e] [] aG) pos) (K3 md i t):=by
 refine (cN (dZ PySem.F.plainAttrs_list PySem.F.slot_list_append PySem.F.type_list_append fW (pv i hi hv hd fR) (ae he aq hs) b7 fF bE hs cf) kH).imp ?_;rintro Dn σ H ⟨B,ρ,E,⟨G,fp,S⟩,⟨eL,h1,h⟩,M⟩;obtain ⟨v0,j6,o⟩:=S.at_ i _ h1;rw [hm] at o;obtain ⟨T,ys,HR,eZ,rfl,e0,hT,hf,ol⟩:=o.lst;cases e0;refine ⟨_,j6,ty_list hT,G,_,_,S.ex.sub,S.Ay,h,?_⟩;rintro l ⟨hz,hn⟩ v f G' H' x ow nd nw;have S':=S.grow x;have Iv:=x.hh _ _ hT
 have QD:∀b∈eZ,H' b=H b:=λb hb=>by
  cases z:H b with
  |none=>exact absurd z (S.nw i b (by rw [hf];exact cA _ hb)).2.1
  |some o=>exact x.hh _ _ z
 have JD:=S.nd i;rw [hf] at JD;obtain ⟨nT,ndf⟩:=fz.mp JD
 have fT:T∉f:=λz=>by
  have:=(nw T z).1
  rw [hT] at this;cases this
 have ff:∀b∈eZ,b∉f:=λb hb z=>(S.nw i b (by rw [hf];exact cA _ hb)).2.1 (nw b z).1
 have Yc:∀b,b≠T→upd H' T (.lst (ys++ [v])) b=H' b:=λb hb=>ab hb;refine ⟨T,ys,v,rfl,rfl,Iv,by rw [ol.length];exact hz,M.nx _ hn _ _ ⟨G',_,S'.VQ (b:=T) (f':=T::(eZ++f)) j6 (by rw [hf];exact cC ..) ?_ ?_ ?_ ?_⟩⟩
 ·rw [hm]
  refine .inl ⟨T,ys++ [v],_,eZ++f,rfl,rfl,aa,rfl,cG.snoc (ol.imp λv d g hb r=>r.keep x.gg λb q=>?_) (ow.keep (.refl _) λb hb=>Yc b λz=>fT (by rw [←z];exact hb))⟩
  rw [Yc b λz=>nT (by rw [←z];exact hb b q)]
  exact QD b (hb b q)
 ·rw [fz,cJ]
  exact ⟨λz=>(cw.mp z).elim nT fT,ndf,nd,λa ha b hb z=>ff a ha (by rw [z];exact hb)⟩
 ·intro b hb
  rcases bV.mp hb with rfl|hb
  ·exact S'.nw i b (by rw [hf];exact cC ..)
  ·rcases cw.mp hb with hb|hb
   ·exact S'.nw i b (by rw [hf];exact cA _ hb)
   ·exact ⟨S.ex.hh.free (nw b hb).1,(nw b hb).2⟩
 ·intro b hb j hj z
  have go:b∈fp i∨b∈f:=by
   rw [hf]
   rcases bV.mp hb with rfl|hb
   ·exact .inl (cC ..)
   ·exact (cw.mp hb).imp (cA _) id
  rcases go with go|go
  ·exact S.ap j i b hj z go
  ·exact (S.nw j b z).2.1 (nw b go).1
theorem rR{H:Hp}:∀{ys:List V}{L:List (List Nat)}{eZ:List Addr},cG (Own Z G H 1) ys (L.map aF) eZ→∃A:List (Addr×List Nat),ys=A.map (λe=>V.ref e.1)∧A.map (·.2)=L∧KP H A∧eZ=A.map (·.1)
 |_,[],_, .nil=>⟨[],rfl,rfl,(λp hp=>by cases hp),rfl⟩
 |_,r::L,_, .cons a as=>by
  obtain ⟨A,h1,h2,h3,h4⟩:=rR as;obtain ⟨p,xs,ds,eZ,rfl,e,ha,hf,ol⟩:=a.one;obtain ⟨dv,rfl⟩:=ol.flat;have e:(r.map aB)=ds:=by cases e;rfl
  subst e
  have hx:xs=(ko r).map V.int:=by
   have e:r.map aB=(ko r).map D.int:=by unfold ko;rw [cK];rfl
   rw [e] at dv;exact uJ dv
  rw [hx] at ha;refine ⟨(p,r)::A,by rw [h1];rfl,by rw [←h2];rfl,λq hq=>?_,by rw [hf,h4];rfl⟩
  rcases bV.mp hq with rfl|hq
  ·exact ha
  ·exact h3 q hq
theorem rZ{H:Hp}:∀{A:List (Addr×List Nat)},KP H A→cG (Own Z G H 1) (A.map λe=>V.ref e.1) ((A.map (·.2)).map aF) (A.map (·.1))
 | [],_=> .nil
 |x::A,h=>by
  have e:(x.2.map aB)=(ko x.2).map D.int:=by unfold ko;rw [cK];rfl
  refine cG.cons (f:= [x.1]) (.inl ⟨x.1,_,_,[],rfl,rfl,h x (cC ..),rfl,?_⟩) (rZ λp hp=>h p (cA _ hp));rw [e];exact (ar.ints _).own
def HE(i:Nat):dH:=λE ρ=>∃L:List (List Nat),ρ[i]? =some (some (.lst (L.map aF)))∧L.length≤1000∧∀M:List (List Nat),M.Perm L→M.Pairwise qj→E.rt (.lst (M.map aF))
theorem Cf(i:Nat){x:Str}{px p:Pos}(hu:X.A.units+64<cLine)(hg:Gl X "sorted")(uR:X.mg "sorted"=none)(hm:md.getD i 0=2:=by rfl)(hi:X.N[i]? =some x:=by rfl)(hv:rf X.env.scope x:=by first|exact Or.inl rfl|exact Or.inr (Or.inl rfl) |exact Or.inr (Or.inr rfl))(hd:(x==("__debug__":Str))=false:=by decide)(fR:(x==("__classdict__":Str))=false:=by decide)
  (hs:starEach [.Name x px] X.env=(false,eval (.Name x px) X.env)::starEach [] X.env:=by rfl) (dR:(backTo aG (starEach [] X.env)).any (·.1)=false:=by rfl):DSt Z X md 2 (.Return (some (.Call (.Name "sorted" p) [.Name x px] [] aG)) pos) (HE i):=by
 refine (fm (b8 (uy hu) hg uR kA (ae (pv i hi hv hd fR) aq hs) (by decide) (by decide) hs dR)).imp ?_
 rintro Dn σ H ⟨B,ρ,E,⟨G,fp,S⟩,⟨L,h1,hz,h⟩,M⟩;obtain ⟨v0,j6,o⟩:=S.at_ i _ h1;rw [hm] at o;obtain ⟨T,ys,HR,eZ,rfl,e0,hT,hf,ol⟩:=o.lst;cases e0;obtain ⟨A,rfl,Ug,Uh,Ui⟩:=rR ol;have JD:=S.nd i;rw [hf] at JD;have hl:A.length=L.length:=by rw [←Ug];simp
 refine ⟨_,j6,T,A,rfl,aH.of hT,Uh,by omega,λq N hn pm Bw=>?_⟩
 have QU:=S.nw i;rw [hf] at QU;have mem:∀b,b∈N.map (·.1)→b∈eZ:=λb hb=>by rw [Ui];exact (pm.map _).mem_iff.mp hb
 have ne:∀b,b∈N.map (·.1)→b≠q:=λb hb z=>(QU b (cA _ (mem b hb))).2.1 (by rw [z];exact hn)
 refine M.rt _ (h (N.map (·.2)) (by rw [←Ug];exact pm.map _) Bw) (.ref q) (q::N.map (·.1)) G _ (S.ex.side hn) (.inl ⟨q,_,_,_,rfl,rfl,aa,rfl,rZ λp hp=>?_⟩) ?_ ?_
 ·rw [ab (ne p.1 (bz.mpr ⟨p,hp,rfl⟩))]
  exact Uh p (pm.mem_iff.mp hp)
 ·rw [fz]
  refine ⟨λz=>ne q z rfl,((pm.map _).nodup_iff).mpr ?_⟩;rw [←Ui];exact (fz.mp JD).2
 ·intro b hb
  rcases bV.mp hb with rfl|hb
  ·exact ⟨S.ex.hh.free hn,(by rw [aa];exact λz=>nomatch z),S.ex.sub.free hn⟩
  ·obtain ⟨k1,k2,k3⟩:=QU b (cA _ (mem b hb))
   exact ⟨k1,(by rw [ab (ne b hb)];exact k2),k3⟩
def Bu(Z:DC):Sp:=λvs H Q _=>∃(p dx:Addr)(v:V)(G:Hp)(w:List (List Nat)),vs= [.ref p,v]∧H p=some (.ins Z.C dx [])∧aC G H∧G p=none∧Dv Z G v (aT w)∧Wb.Good w∧1≤w.length∧w.length≤14∧
 ∀(R:Addr)(f:List Addr)(H':Hp),(∀b o,H b=some o→b≠p→H' b=some o)→H' p=some (.ins Z.C dx [("rows", .ref R)])→(∀Gx,Own Z Gx H' 2 (.ref R) (aT w) f)→(∀b∈f,H b=none)→Q .aM H'
theorem JZ{G':Hp}{v:V}{w:List (List Nat)}{f:List Addr}(o:Own Z G H 2 v (aT w) f):Own Z G' H 2 v (aT w) f:=by
 obtain ⟨T,ys,HR,eZ,rfl,e0,hT,hf,ol⟩:=Own.lst o;have e0:HR=w.map aF:=by cases e0;rfl
 subst e0;obtain ⟨A,rfl,h2,h3,h4⟩:=rR ol;refine .inl ⟨T,_,_,eZ,rfl,rfl,hT,hf,?_⟩
 have:=rZ (Z:=Z) (G:=G') h3
 rw [h2,←h4] at this;exact this
def Pk(i:Nat)(ta:i8):dH:=λE ρ=>ta ρ λds=>∃w,ds= [aT w]∧Wb.Good w∧1≤w.length∧w.length≤14∧E.nx (ρ.set i (some (.eV w)))
theorem Cg(i:Nat){x y:Str}{px p:Pos}{k:Nat}{f:Addr}{fd:FuncData}{ps:List Str}{es:List Expr}{ta:i8}{jH:Pos}(hN:X.N.Nodup)(M:Mk Z.K Z.C f)(F:FnOk X.prog X.w X.K X.mg X.base cq k f fd ps (Bu Z))(hr:cH (k+1) X.A)(hg:Gl X y)(uR:X.mg y=some (.ref Z.C))(hb:Binds X.K fd ps [])
  (ha:DA Z X (e::es) ta) (eK:X.K=Z.K:=by rfl) (jM:(y==("__debug__":Str))=false:=by decide) (he:starEach (e::es) X.env=(false,eval e X.env)::starEach es X.env:=by rfl) (dR:(backTo pos (starEach es X.env)).any (·.1)=false:=by rfl)
  (hm:md.getD i 0=0:=by rfl) (hi:X.N[i]? =some x:=by rfl) (hx:Loc X.env.scope x:=by first|exact Or.inl rfl|exact Or.inr rfl) (hs:swapsWith (.Call (.Name y p) (e::es) [] pos) (some (.Name x px)) jH.line X.env=pure false:=by rfl)
  (hf:X.fn x=true∨X.env.scope.names.lookup x=some .local:=by first|exact .inl rfl|exact .inr rfl|assumption):DSt Z X md rn (.Assign [.Name x px] (.Call (.Name y p) (e::es) [] pos) jH) (Pk i ta):=by
 refine (bP hN hi hx (Bb (by rw [eK];exact M) F hr hg uR hb .nil bY ha jM he dR) hs hf).imp ?_
 rintro Dn σ H ⟨B,ρ,E,⟨G,fp,S⟩,h,Mt⟩;refine ⟨H,ρ,_, .refl _,S.HZ,h,?_⟩;rintro _ ⟨w,rfl,g,h1,bS,hn⟩ vs G1 H1 x1 ba p dx hx PV ne;cases ba with
 | @cons v _ _ _ dv ba=>
  cases ba;have S1:=S.grow (Ext.all S.ex.sub x1);have wZ:upd H1 dx (.own p) p=none:=by rw [ab (Ne.symm ne)];exact hx
  have sJ:=(av PV (.own p)).trans (av wZ (.ins Z.C dx []));refine ⟨p,dx,v,G1,w,rfl,aa,x1.sub.trans sJ,x1.sub.free hx,dv,g,h1,bS,λR f H2 kp F0 own nf=>⟨rfl,?_⟩⟩
  let F:Addr→Prop:=λb=>b=p∨b∈f
  have F1:∀b,F b→H1 b=none:=λb hb=>by
   rcases hb with rfl|hb
   ·exact hx
   ·exact sJ.free (nf b hb)
  have Ki:aC H1 H2:=λb o e=>kp b o (sJ _ _ e) (ah e hx);have nF:∀b o,H1 b=some o→¬F b:=λb o e z=>by rw [F1 b z] at e;cases e
  have x2:Ext G H1 (plus G H2 F) H2:=⟨λb o e=>by rw [dO (nF b o (S1.ex.sub _ _ e))];exact e,λb o e=>by
   by_cases z:F b
   ·rw [e7 z] at e;exact e
   ·rw [dO z] at e;exact Ki _ _ (S1.ex.sub _ _ e),Ki,λb hb hg=>by
   rw [dO (λz=>hb (F1 b z))];exact hg⟩
  have dw:Dv Z (plus G H2 F) (.ref p) (.eV w):= .eV (by rw [e7 (.inl rfl)];exact F0) ((own (plus G H2 F)).dv (.refl _) λb hb o e=>by rw [e7 (.inr hb)];exact e) g h1 bS
  exact Mt.nx _ hn _ _ ⟨_,_,(S1.grow x2).mQ hm dw⟩
end
end L2
namespace Wb
def fA(w:W)(d:Nat×Nat)(r:List (Nat×Nat)):Prop:=∃k,0<k∧bH w k d=d∧(∀j,0<j→j<k→bH w j d≠d)∧r=walk w d k
theorem j9{w:W}{d e:Nat×Nat}{k:Nat}:e∈walk w d k↔∃i,i<k∧e=bH w i d:=by
 unfold walk;rw [bz]
 constructor
 ·rintro ⟨i,hi,rfl⟩;exact ⟨i,gP.mp hi,rfl⟩
 ·rintro ⟨i,hi,rfl⟩;exact ⟨i,gP.mpr hi,rfl⟩
theorem fA.first{w:W}{d:Nat×Nat}{r:List (Nat×Nat)}(h:fA w d r):d∈r:=by
 obtain ⟨k,h0,_,_,rfl⟩:=h;exact j9.mpr ⟨0,h0,rfl⟩
theorem fA.next{w:W}{d e:Nat×Nat}{r:List (Nat×Nat)}(h:fA w d r)(he:e∈r):bC w e∈r:=by
 obtain ⟨k,h0,h1,_,rfl⟩:=h;obtain ⟨i,hi,rfl⟩:=j9.mp he
 by_cases c:i+1<k
 ·exact j9.mpr ⟨i+1,c,rfl⟩
 ·have:i+1=k:=by omega
  refine j9.mpr ⟨0,h0,?_⟩;show bH w (i+1) d=d;rw [this];exact h1
theorem fA.iter{w:W}{d e:Nat×Nat}{r:List (Nat×Nat)}(h:fA w d r)(he:e∈r):∀n,bH w n e∈r
 |0=>he
 |n+1=>h.next (h.iter he n)
theorem fA.back{w:W}{d e:Nat×Nat}{r:List (Nat×Nat)}(h:fA w d r)(he:e∈r):∃n,bH w n e=d:=by
 obtain ⟨k,h0,h1,_,rfl⟩:=h;obtain ⟨i,hi,rfl⟩:=j9.mp he;refine ⟨k-i,?_⟩;rw [←eC i (k-i),show k-i+i=k by omega]
 exact h1
theorem fA.nodup{w:W}(g:Good w){d:Nat×Nat}{r:List (Nat×Nat)}(h:fA w d r)(hd:aE w d):r.Nodup:=by
 obtain ⟨k,h0,h1,h2,rfl⟩:=h;exact tm g hd h2
theorem fA.aQ{w:W}(g:Good w){d:Nat×Nat}{r:List (Nat×Nat)}(h:fA w d r)(hd:aE w d):∀e∈r,aE w e:=by
 obtain ⟨k,h0,h1,h2,rfl⟩:=h;exact pN g hd
structure Wk (w:W) (ds:List (Nat×Nat)) (i:Nat) (rs:List (List (Nat×Nat))):Prop where
 rnd:∀r∈rs,∃d,fA w d r∧aE w d∧∀e∈r,lexLe d e
 nod:rs.flatten.Nodup
 met:∀j e,j<i→ds[j]? =some e→e∈rs.flatten
theorem Wk.zero(w:W)(ds:List (Nat×Nat)):Wk w ds 0 []:=⟨(λr h=>by cases h),kr,(λj e h=>by omega)⟩
theorem Wk.skip{w:W}{ds:List (Nat×Nat)}{i:Nat}{rs:List (List (Nat×Nat))}{d:Nat×Nat}(h:Wk w ds i rs)(hd:ds[i]? =some d)(hm:d∈rs.flatten):Wk w ds (i+1) rs:=
 ⟨h.rnd,h.nod,λj e hj he=>by
  by_cases c:j=i
  ·subst c;rw [hd] at he;cases he;exact hm
  ·exact h.met j e (by omega) he⟩
theorem Wk.take{w:W}(g:Good w){ds:List (Nat×Nat)}(all:∀e,aE w e→e∈ds)(dart:∀e∈ds,aE w e)(Bw:ds.Pairwise lexLe){i:Nat}{rs:List (List (Nat×Nat))}{d:Nat×Nat}{r:List (Nat×Nat)}(h:Wk w ds i rs)(hd:ds[i]? =some d)(hm:d∉rs.flatten)(hr:fA w d r):Wk w ds (i+1) (rs++ [r]):=by
 have dd:aE w d:=dart d (dD hd)
 have off:∀e∈r,e∉rs.flatten:=λe he hf=>by
  obtain ⟨r',gW,yO⟩:=qW.mp hf;obtain ⟨d',R',_,_⟩:=h.rnd r' gW;obtain ⟨n,hn⟩:=hr.back he;exact hm (qW.mpr ⟨r',gW,by rw [←hn];exact R'.iter yO n⟩)
 refine ⟨λr' h'=>?_,?_,λj e hj he=>?_⟩
 ·rcases cw.mp h' with z|z
  ·exact h.rnd r' z
  ·rw [eE.mp z]
   refine ⟨d,hr,dd,λe he=>?_⟩;obtain ⟨j,hj⟩:=gL (all e (hr.aQ g dd e he))
   by_cases c:j<i
   ·exact absurd (h.met j e c hj) (off e he)
   ·by_cases c2:j=i
    ·subst c2;rw [hd] at hj;cases hj
     exact .inr ⟨rfl,aV _⟩
    ·obtain ⟨h1,e1⟩:=cF.mp hd
     obtain ⟨h2,e2⟩:=cF.mp hj;rw [←e1,←e2];exact wu.mp Bw i j h1 h2 (by omega)
 ·rw [yv,cJ]
  refine ⟨h.nod,by simpa using hr.nodup g dd,λa ha b hb e=>?_⟩
  subst e;exact off a (by simpa using hb) ha
 ·rw [yv,cw]
  by_cases c:j=i
  ·subst c;rw [hd] at he;cases he
   exact .inr (by simpa using hr.first)
  ·exact .inl (h.met j e (by omega) he)
theorem Wk.fin{w:W}(g:Good w){ds:List (Nat×Nat)}(all:∀e,aE w e→e∈ds){rs:List (List (Nat×Nat))}(h:Wk w ds ds.length rs):rs.flatten.Perm (aQ w):=by
 have sub:∀e,e∈rs.flatten↔e∈aQ w:=λe=>by
  rw [aK]
  constructor
  ·intro he
   obtain ⟨r,hr,PY⟩:=qW.mp he;obtain ⟨d,R,dd,_⟩:=h.rnd r hr;exact R.aQ g dd e PY
  ·intro he
   obtain ⟨j,hj⟩:=gL (all e he);exact h.met j e (cF.mp hj).1 hj
 exact (qP h.nod (bA g)).mpr sub
structure cO (w:W) (rs:List (List (Nat×Nat))):Prop where
 rnd:∀r∈rs,∃d,fA w d r∧aE w d∧∀e∈r,lexLe d e
 perm:rs.flatten.Perm (aQ w)
theorem cO.JM{w:W}{rs iB:List (List (Nat×Nat))}(R:cO w rs)(p:iB.Perm rs):cO w iB:=
 ⟨λr hr=>R.rnd r (p.mem_iff.mp hr),(p.flatten).trans R.perm⟩
theorem HH{w:W}{d:Nat×Nat}(g:Good w)(h:aE w d):d.1≠d.2:=λe=>g.irr d.1 (by have:d.2∈row w d.1:=h;rw [←e] at this;exact this)
theorem B3{w:W}(g:Good w){ts:List (Nat×Nat)}(pm:ts.Perm (fP (row w) w.length)):(ts++ts.map λt=>(t.2,t.1)).Perm (aQ w):=by
 have e:=mT w;have nd:=bA g
 have m:∀t,t∈ts↔aE w t∧t.1<t.2:=λt=>by
  rw [pm.mem_iff,e,wj,aK,decide_eq_true_eq]
 have nt:ts.Nodup:=pm.nodup_iff.mpr (by rw [e];exact nd.filter _)
 refine (qP ?_ nd).mpr λd=>?_
 ·rw [cJ]
  refine ⟨nt,?_,λa ha b hb z=>?_⟩
  ·rw [yt,iH]
   rw [yt] at nt;exact nt.imp λ {a b} h z=>h (Prod.ext (Prod.mk.inj z).2 (Prod.mk.inj z).1)
  ·obtain ⟨c,hc,rfl⟩:=bz.mp hb
   have h1:=((m a).mp ha).2;have h2:=((m c).mp hc).2;rw [z] at h1;have h1:c.2<c.1:=h1;omega
 ·rw [cw,bz,aK]
  constructor
  ·rintro (h| ⟨c,hc,rfl⟩)
   ·exact ((m d).mp h).1
   ·exact g.sym _ _ ((m c).mp hc).1
  ·intro h
   rcases Nat.lt_or_gt_of_ne (HH g h) with c|c
   ·exact .inl ((m d).mpr ⟨h,c⟩)
   ·exact .inr ⟨(d.2,d.1),(m _).mpr ⟨g.sym _ _ h,c⟩,rfl⟩
theorem fA.uniq{w:W}{d:Nat×Nat}{r r':List (Nat×Nat)}(h:fA w d r)(h':fA w d r'):r=r':=by
 obtain ⟨k,a1,a2,a3,rfl⟩:=h;obtain ⟨m,b1,b2,b3,rfl⟩:=h'
 rcases Nat.lt_trichotomy k m with c|c|c
 ·exact absurd a2 (b3 k a1 c)
 ·rw [c]
 ·exact absurd b2 (a3 m b1 c)
theorem cO.sub{w:W}{rs iB:List (List (Nat×Nat))}(R:cO w rs)(R':cO w iB):∀r∈rs,r∈iB:=λr hr=>by
 obtain ⟨d,h1,h2,h3⟩:=R.rnd r hr;have hd:d∈iB.flatten:=R'.perm.mem_iff.mpr (aK.mpr h2);obtain ⟨r',gW,UB⟩:=qW.mp hd;obtain ⟨d',k1,k2,k3⟩:=R'.rnd r' gW;obtain ⟨n,hn⟩:=k1.back UB;have l1:lexLe d d':=by rw [←hn];exact h3 _ (h1.iter h1.first n)
 have e:=nG l1 (k3 d UB);subst e;rw [h1.uniq k1];exact gW
theorem cO.ne{w:W}{rs:List (List (Nat×Nat))}(R:cO w rs):∀r∈rs,r≠ []:=λr hr z=>by
 obtain ⟨d,h1,_⟩:=R.rnd r hr
 have:=h1.first
 rw [z] at this;cases this
theorem sE{α:Type}:∀{l:List (List α)},l.flatten.Nodup→(∀r∈l,r≠ [])→l.Nodup
 | [],_,_=>kr
 |a::l,h,hn=>by
  rw [m8,cJ] at h;refine fz.mpr ⟨λha=>?_,sE h.2.1 λr hr=>hn r (cA _ hr)⟩;cases a with
  |nil=>exact hn [] (cC ..) rfl
  |cons x a=>exact h.2.2 x (cC ..) x (qW.mpr ⟨_,ha,cC ..⟩) rfl
theorem cO.nodup{w:W}{rs:List (List (Nat×Nat))}(g:Good w)(R:cO w rs):rs.Nodup:=sE (R.perm.nodup_iff.mpr (bA g)) R.ne
abbrev oi(rs:List (List (Nat×Nat))):List (List Nat):=rs.map λr=>r.map (·.1)
theorem CT{a b:List Nat}(h:L2.qj a b)(h':L2.qj b a):a=b:=by
 have:=L2.qi (L2.ko a) (L2.ko b) h' h
 exact L2.BB (by rw [this])
theorem cO.uniq{w:W}(g:Good w){rs iB:List (List (Nat×Nat))}(R:cO w rs)(R':cO w iB)(s:(oi rs).Pairwise L2.qj)(s':(oi iB).Pairwise L2.qj):oi rs=oi iB:=by
 have pm:rs.Perm iB:=(qP (R.nodup g) (R'.nodup g)).mpr λr=>⟨R.sub R' r,R'.sub R r⟩;exact List.Perm.eq_of_pairwise (λ_ _ _ _=>CT) s s' (pm.map _)
open Classical in
noncomputable def u3(w:W):List (List Nat):=if h:∃rs,cO w rs∧(oi rs).Pairwise L2.qj then oi h.choose else []
theorem F7{w:W}(g:Good w){rs:List (List (Nat×Nat))}(R:cO w rs)(s:(oi rs).Pairwise L2.qj):u3 w=oi rs:=by
 have h:∃rs,cO w rs∧(oi rs).Pairwise L2.qj:=⟨rs,R,s⟩;unfold u3;rw [dif_pos h];exact h.choose_spec.1.uniq g R h.choose_spec.2 s
theorem fX{a b:List Nat}{x y:Nat}(nd:(a++x::y::b).Nodup):aI (a++x::y::b) x=y:=by
 have hx:x∉a:=λh=>by
  have:=(cJ.mp nd).2.2 x h x (cC ..)
  exact this rfl
 have e:(a++x::y::b).idxOf x=a.length:=by
  rw [List.idxOf_append,if_neg hx,List.idxOf_cons_self];simp
 unfold aI;rw [e,wD (by simp),eS,jt (by omega)]
 simp
theorem ij{b:List Nat}{x y:Nat}(nd:(y::(b++ [x])).Nodup):aI (y::(b++ [x])) x=y:=by
 have hx:x∉y::b:=λh=>by
  have h2:(y::b++ [x]).Nodup:=nd;exact (cJ.mp h2).2.2 x h x (by simp) rfl
 have e:(y::(b++ [x])).idxOf x=b.length+1:=by
  show (y::b++ [x]).idxOf x=_;rw [List.idxOf_append,if_neg hx];simp
 unfold aI;rw [e]
 have:(b.length+1+1)%(y::(b++ [x])).length=0:=by simp
 rw [this];rfl
theorem pK{a b:List Nat}{x:Nat}(nd:(a++b).Nodup)(h:x∈a++b):aI (b++a) x=aI (a++b) x:=by
 have n6:(b++a).Nodup:=(wC.nodup_iff).mp nd;obtain ⟨u,v,e⟩:=List.append_of_mem h;cases v with
 |cons y v=>
  rw [e,fX (e▸nd)]
  rcases List.append_eq_append_iff.mp e with ⟨c,h1,h2⟩ | ⟨c,h1,h2⟩
  ·
   rw [h2,show c++x::y::v++a=c++x::y::(v++a) by simp]
   refine fX ?_;rw [h2] at n6;simpa using n6
  ·
   cases c with
   |nil=>
    have hb:b=x::y::v:=by simpa using h2.symm
    rw [hb,show x::y::v++a= []++x::y::(v++a) by simp]
    refine fX ?_;rw [hb] at n6;simpa using n6
   |cons z c=>
    have hz:x=z∧y::v=c++b:=by simpa using h2
    obtain ⟨rfl,h3⟩:=hz;cases c with
    |nil=>
     have hb:b=y::v:=by simpa using h3.symm
     rw [h1,hb,show y::v++(u++ [x])=y::((v++u)++ [x]) by simp]
     refine ij ?_;rw [h1,hb] at n6;simpa using n6
    |cons z c=>
     have hz:y=z∧v=c++b:=by simpa using h3
     obtain ⟨rfl,rfl⟩:=hz;rw [h1,show b++(u++x::y::c)=(b++u)++x::y::c by simp]
     refine fX ?_;rw [h1] at n6;simpa using n6
 |nil=>
  cases b with
  |nil=>simp
  |cons y b=>
   rcases List.eq_nil_or_concat b with rfl| ⟨b',z,rfl⟩
   ·
    have:a=u∧y=x:=by
     have:=List.append_inj' e rfl
     exact ⟨this.1,by simpa using this.2⟩
    obtain ⟨rfl,rfl⟩:=this;cases a with
    |nil=>rfl
    |cons t a=>
     have e1:aI (t::a++ [y]) y=t:=ij (b:=a) nd;rw [e1];show aI ([]++y::t::a) y=t;exact fX (by simpa using n6)
   ·have hx:z=x:=by
     rw [List.concat_eq_append] at e;have e:(a++y::b')++ [z]=u++ [x]:=by simpa using e
     exact by simpa using (List.append_inj' e rfl).2
    subst hx;rw [List.concat_eq_append] at nd n6 ⊢;cases a with
    |nil=>simp
    |cons t a=>
     have e1:aI (t::a++y::(b'++ [z])) z=t:=by
      have:=ij (y:=t) (b:=a++y::b') (x:=z) (by simpa using nd)
      simpa using this
     have e2:aI (y::(b'++ [z])++t::a) z=t:=by
      have:=fX (a:=y::b') (x:=z) (y:=t) (b:=a) (by simpa using n6)
      simpa using this
     rw [e1,e2]
theorem yo{l:List Nat}{i:Nat}(nd:l.Nodup)(h:i+1<l.length):aI l (l.getD i 0)=l.getD (i+1) 0:=by
 have e:l.getD i 0=l[i]:=by rw [eS,dh (by omega)];rfl
 unfold aI;rw [e,nd.idxOf_getElem i (by omega),wD h]
section
variable {w:W} {R:List Nat} {A:Nat×Nat→Prop} {v m:Nat} {y:Nat→Nat}
end
end Wb
set_option maxHeartbeats 1000000
namespace Wb
theorem tZ{l:List Nat}{v x:Nat}(nd:(v::l).Nodup)(hx:x∈l)(hl:x≠l.getD (l.length-1) 0):aI (v::l) x=aI l x:=by
 obtain ⟨i,hi,rfl⟩:=List.mem_iff_getElem.mp hx;have e:l[i]=l.getD i 0:=by rw [eS,dh hi];rfl
 have wR:i+1<l.length:=by
  apply Classical.byContradiction;intro c;exact hl (by rw [e,show l.length-1=i by omega])
 have h1:=yo (i:=i+1) nd (by simp;omega)
 have h2:=yo (i:=i) (fz.mp nd).2 wR;rw [E7,E7] at h1;rw [e,h1,h2]
section
variable {w w':W} {R:List Nat} {f:Nat}
end
theorem uV{f:Nat→Nat}{x:Nat}:∀{l:List Nat},(∀y∈l,f y=f x→y=x)→(l.map f).idxOf (f x)=l.idxOf x
 | [],_=>rfl
 |a::l,h=>by
  rw [gI,List.idxOf_cons,List.idxOf_cons,uV λy hy=>h y (cA _ hy)]
  by_cases c:a=x
  ·subst c;simp
  ·have:f a≠f x:=λz=>c (h a (cC ..) z)
   have e1:(f a==f x)=false:=by simpa using this
   have e2:(a==x)=false:=by simpa using c
   rw [e1,e2]
theorem DM{f:Nat→Nat}{l:List Nat}{x:Nat}(h:∀y∈l,f y=f x→y=x)(hx:x∈l):aI (l.map f) (f x)=f (aI l x):=by
 have e:=g7 hx;show (l.map f).getD (((l.map f).idxOf (f x)+1)%(l.map f).length) 0=_;rw [uV h,aN,eS,bW,e];rfl
section
variable {w w':W} {f:Nat→Nat}
open Classical in
end
theorem fM{w:W}{d:Nat×Nat}{k i:Nat}(h:i<k):(walk w d k)[i]? =some (bH w i d):=by
 unfold walk;rw [bW,tD h];rfl
theorem pO{w:W}{d:Nat×Nat}{k i:Nat}(h:¬i<k):(walk w d k)[i]? =none:=gf (by rw [fu];omega)
theorem fA.rot{w:W}(g:Good w){d:Nat×Nat}{r:List (Nat×Nat)}(h:fA w d r)(hd:aE w d){m:Nat}(hm:m<r.length):fA w (r.getD m (0,0)) (r.drop m++r.take m):=by
 obtain ⟨k,k0,k1,k2,rfl⟩:=h;rw [fu] at hm;have e:(walk w d k).getD m (0,0)=bH w m d:=by rw [eS,fM hm];rfl
 rw [e];have per:bH w k (bH w m d)=bH w m d:=by rw [←eC,Nat.add_comm,eC,k1]
 refine ⟨k,k0,per,λj j0 jk z=>?_,?_⟩
 ·have:bH w m (bH w j d)=bH w m d:=by rw [←eC,Nat.add_comm,eC,z]
  exact k2 j j0 jk (uZ g (eF g hd j) hd m this)
 ·refine oJ λi=>?_
  have ll:((walk w d k).drop m).length=k-m:=by rw [iJ,fu]
  by_cases h1:i<k-m
  ·rw [jK (by rw [ll];exact h1),wB,fM (by omega),fM (by omega),←eC,Nat.add_comm]
  ·rw [jt (by rw [ll];omega),ll]
   by_cases h2:i<k
   ·rw [zX,if_pos (by omega),fM (by omega),fM h2,←eC,show i+m=(i-(k-m))+k by omega,eC,k1]
   ·rw [zX,if_neg (by omega),pO (by omega)]
structure zY (w v:W) (f:Nat×Nat→Nat×Nat):Prop where
 dart:∀d,aE w d→aE v (f d)
 inj:∀d e,aE w d→aE w e→f d=f e→d=e
 nx:∀d,aE w d→bC v (f d)=f (bC w d)
theorem zY.bH{w v:W}{f:Nat×Nat→Nat×Nat}(M:zY w v f)(g:Good w){d:Nat×Nat}(hd:aE w d):∀n,Wb.bH v n (f d)=f (Wb.bH w n d)
 |0=>rfl
 |n+1=>by
  show bC v (Wb.bH v n (f d))=f (bC w (Wb.bH w n d));rw [M.bH g hd n,M.nx _ (eF g hd n)]
theorem zY.rnd{w v:W}{f:Nat×Nat→Nat×Nat}(M:zY w v f)(g:Good w){d:Nat×Nat}{r:List (Nat×Nat)}(h:fA w d r)(hd:aE w d):fA v (f d) (r.map f):=by
 obtain ⟨k,k0,k1,k2,rfl⟩:=h;refine ⟨k,k0,by rw [M.bH g hd,k1],λj j0 jk z=>?_,?_⟩
 ·rw [M.bH g hd] at z
  exact k2 j j0 jk (M.inj _ _ (eF g hd j) hd z)
 ·unfold walk
  rw [cK];exact E8 λi _=>(M.bH g hd i).symm
open Classical in
theorem An{w v:W}(g:Good w)(gv:Good v){f:Nat×Nat→Nat×Nat}(dart:∀d,aE w d→aE v (f d))(inj:∀d e,aE w d→aE w e→f d=f e→d=e)(sur:∀e,aE v e→∃d,aE w d∧f d=e):((aQ w).map f).Perm (aQ v):=by
 refine (qP ?_ (bA gv)).mpr λe=>?_
 ·rw [yt,iH]
  have:=bA g
  rw [yt] at this;exact List.Pairwise.imp_of_mem (λha hb n z=>n (inj _ _ (aK.mp ha) (aK.mp hb) z)) this
 ·rw [bz,aK]
  exact ⟨λ⟨d,hd,z⟩=>by rw [←z];exact dart d (aK.mp hd),λh=>let ⟨d,hd,z⟩:=sur e h;⟨d,aK.mpr hd,z⟩⟩
structure BX (w v:W) (φ:Nat→Nat):Prop where
 len:v.length=w.length
 lt:∀p,p<w.length→φ p<w.length
 inj:∀p q,p<w.length→q<w.length→φ p=φ q→p=q
 sur:∀y,y<w.length→∃p,p<w.length∧φ p=y
 row:∀p,p<w.length→∃b,Wb.row v (φ p)=((Wb.row w p).map φ).drop b++((Wb.row w p).map φ).take b
theorem BX.mem{w v:W}{φ:Nat→Nat}(N:BX w v φ){p y:Nat}(hp:p<w.length):y∈Wb.row v (φ p)↔y∈(Wb.row w p).map φ:=by
 obtain ⟨b,e⟩:=N.row p hp;rw [e,cw]
 conv=>rhs;rw [←kq b ((Wb.row w p).map φ),cw]
 exact or_comm
theorem BX.dmap{w v:W}{φ:Nat→Nat}(N:BX w v φ)(g:Good w):zY w v (λd=>(φ d.1,φ d.2)):=by
 have mlt:∀d,aE w d→d.1<w.length∧d.2<w.length:=λd h=>⟨cQ h,g.rng _ _ h⟩;refine ⟨λd h=>?_,λd e hd he z=>?_,λd h=>?_⟩
 ·exact (N.mem (mlt d h).1).mpr (bz.mpr ⟨d.2,h,rfl⟩)
 ·have z1:=(Prod.mk.inj z).1
  have z2:=(Prod.mk.inj z).2;exact Prod.ext (N.inj _ _ (mlt d hd).1 (mlt e he).1 z1) (N.inj _ _ (mlt d hd).2 (mlt e he).2 z2)
 ·obtain ⟨b,e⟩:=N.row d.2 (mlt d h).2
  have hs:d.1∈Wb.row w d.2:=g.sym _ _ h;have Vk:∀y∈Wb.row w d.2,φ y=φ d.1→y=d.1:=λy hy z=>N.inj _ _ (g.rng _ _ hy) (mlt d h).1 z
  have nd:((Wb.row w d.2).map φ).Nodup:=by
   have:=g.nod d.2
   rw [yt] at this ⊢;rw [iH];exact List.Pairwise.imp_of_mem (λha hb n z=>n (N.inj _ _ (g.rng _ _ ha) (g.rng _ _ hb) z)) this
  have hm:φ d.1∈(Wb.row w d.2).map φ:=bz.mpr ⟨_,hs,rfl⟩;show (φ d.2,aI (Wb.row v (φ d.2)) (φ d.1))=(φ d.2,φ (aI (Wb.row w d.2) d.1));rw [e];have h1:=pK (a:=((Wb.row w d.2).map φ).take b) (b:=((Wb.row w d.2).map φ).drop b) (x:=φ d.1) (by rw [kq];exact nd) (by rw [kq];exact hm)
  rw [h1,kq,DM Vk hs]
theorem BX.XT{w v:W}{φ:Nat→Nat}(N:BX w v φ):∀e,aE v e→∃d,aE w d∧(φ d.1,φ d.2)=e:=λe h=>by
 have l1:=cQ h;rw [N.len] at l1;obtain ⟨p,hp,e1⟩:=N.sur e.1 l1;have h:e.2∈Wb.row v e.1:=h;rw [←e1] at h;obtain ⟨q,hq,e2⟩:=bz.mp ((N.mem hp).mp h);exact ⟨(p,q),hq,Prod.ext e1 e2⟩
end Wb
namespace Tx
open PySem PySem.StrLaws PySem.Builtin PySem.Builtin.Str
theorem z7{x sep:Str}{c k:Nat}(hc:sep.cps.toList.head? =some c)(h:At x sep x.length k):(x.cps.toList.drop k).head? =some c:=by
 have h2:=h.2;rw [subAt_eq,beq_iff_eq] at h2
 have hl:1≤sep.length:=by
  cases e:sep.cps.toList with
  |nil=>rw [e] at hc;cases hc
  |cons a l=>have:sep.length=sep.cps.toList.length:=by simp [Str.length]
             rw [this,e];simp
 rw [←h2] at hc;cases e:x.cps.toList.drop k with
 |nil=>rw [e] at hc;simp at hc
 |cons a l=>
  rw [e] at hc;obtain ⟨n,hn⟩:∃n,sep.length=n+1:=⟨sep.length-1,by omega⟩
  rw [hn] at hc;simpa using hc
theorem uH{l t r:List Nat}{a k c:Nat}(e:l.drop a=t++r)(h1:a≤k)(h2:k<a+t.length)(h:(l.drop k).head? =some c):c∈t:=by
 have:l.drop k=(l.drop a).drop (k-a):=by rw [wk];congr 1;omega
 rw [this,e,List.drop_append_of_le_length (by omega),List.head?_append] at h
 cases z:(t.drop (k-a)).head? with
 |none=>
  rw [List.head?_eq_none_iff,List.drop_eq_nil_iff] at z;omega
 |some d=>
  rw [z] at h;simp at h;subst h;exact List.mem_of_mem_drop (List.mem_of_head? z)
theorem sQ{x sep:Str}{c:Nat}(hc:sep.cps.toList.head? =some c):∀(A:List Str)(t:Str)(a f:Nat)(xt:List Nat),(∀p∈t::A,c∉p.cps.toList)→x.cps.toList.drop a=(Str.join sep (t::A)).cps.toList→a≤x.length→
  ChainG x sep x.length a xt f→(∀k,f≤k→¬At x sep x.length k)→partsFrom x sep.length a xt=t::A
 | [],t,a,f,xt,hA,e,ha,hG,hn=>by
  have e':x.cps.toList.drop a=t.cps.toList++ []:=by rw [e,iK];rfl
  have no:∀k,a≤k→¬At x sep x.length k:=by
   intro k hk IB;have h:=z7 hc IB
   have bG:k<x.length:=by
    have:k<x.cps.toList.length:=by
     apply Classical.byContradiction;intro lN;rw [wy (by omega)] at h
     cases h
    simpa [Str.length] using this
   have hl:x.cps.toList.length-a=t.cps.toList.length:=by rw [←iJ,e',iK]
   have hx:x.cps.toList.length=x.length:=by simp [Str.length]
   exact hA t (.head _) (uH e' hk (by omega) h)
  cases xt with
  |nil=>
   show [strSub x a x.length]= [t]
   congr 1
   refine Str.ext' ?_;apply Array.ext';rw [strSub_toList,e',iK];have hl:x.cps.toList.length-a=t.cps.toList.length:=by rw [←iJ,e',iK]
   have hx:x.cps.toList.length=x.length:=by simp [Str.length]
   exact mZ (by omega)
  |cons d r=>exact absurd hG.2.1 (no d hG.1)
 |u::A,t,a,f,xt,hA,e,ha,hG,hn=>by
  have e1:x.cps.toList.drop a=t.cps.toList++(sep.cps.toList++(Str.join sep (u::A)).cps.toList):=by
   rw [e];show (t++sep++Str.join sep (u::A)).cps.toList=_;rw [Str.cps_append,Str.cps_append,gk,gk,m7]
  have hx:x.cps.toList.length=x.length:=by simp [Str.length]
  have ht:t.cps.toList.length=t.length:=by simp [Str.length]
  have hs:sep.cps.toList.length=sep.length:=by simp [Str.length]
  have hlen:x.length-a=t.length+(sep.length+(Str.join sep (u::A)).cps.toList.length):=by
   rw [←hx,←iJ,e1,dS,dS,ht,hs]
  have e2:x.cps.toList.drop (a+t.length)=sep.cps.toList++(Str.join sep (u::A)).cps.toList:=by
   rw [←wk,e1,←ht,List.drop_left]
  have e3:x.cps.toList.drop (a+t.length+sep.length)=(Str.join sep (u::A)).cps.toList:=by
   rw [←wk,e2,←hs,List.drop_left]
  have yes:At x sep x.length (a+t.length):=by
   refine ⟨by omega,?_⟩
   rw [subAt_eq,beq_iff_eq,e2,←hs,List.take_left]
  have no:∀k,a≤k→k<a+t.length→¬At x sep x.length k:=λk h1 h2 IB=>hA t (.head _) (uH e1 h1 (by omega) (z7 hc IB))
  cases xt with
  |nil=>
   have ef:f=a:=hG;exact absurd yes (hn _ (by omega))
  |cons d r=>
   obtain ⟨g1,g2,g3,g4⟩:=hG
   have hd:d=a+t.length:=by
    rcases Nat.lt_trichotomy d (a+t.length) with h|h|h
    ·exact absurd g2 (no d g1 h)
    ·exact h
    ·exact absurd yes (g3 _ (by omega) h)
   subst hd;show strSub x a (a+t.length)::partsFrom x sep.length (a+t.length+sep.length) r=_;rw [sQ hc A u _ f r (λp hp=>hA p (.tail _ hp)) e3 (by omega) g4 hn]
   congr 1
   refine Str.ext' ?_;apply Array.ext';rw [strSub_toList,e1,show a+t.length-a=t.length by omega,←ht,List.take_left]
theorem sZ{sep:Str}{c:Nat}(hc:sep.cps.toList.head? =some c)(hk:Builtin.Str.strKind sep=1)(A:List Str)(t:Str)(hA:∀p∈t::A,c∉p.cps.toList):Txt.split (Str.join sep (t::A)) sep=t::A:=by
 have hw:1≤sep.length:=by
  cases e:sep.cps.toList with
  |nil=>rw [e] at hc;cases hc
  |cons a l=>have:sep.length=sep.cps.toList.length:=by simp [Str.length]
             rw [this,e];simp
 obtain ⟨f,hG,hn⟩:=occ_tight (Str.join sep (t::A)) sep hw;have key:=sQ hc A t 0 f _ hA (by rw [List.drop_zero]) (cS _) hG hn
 have one:∀x:Str,1≤Builtin.Str.strKind x:=λx=>by
  unfold Builtin.Str.strKind
  split
  ·exact aV _
  ·split<;>omega
 have whole:occurrences (Str.join sep (t::A)) sep 0 (Str.join sep (t::A)).length ((Str.join sep (t::A)).length+1)= []→ [Str.join sep (t::A)]=t::A:=by
  intro z;rw [z] at key;refine Eq.trans ?_ key;show _= [strSub _ 0 _];rw [sub_whole]
 unfold Txt.split
 split
 ·rename_i h
  refine whole ?_;rw [Bool.or_eq_true,decide_eq_true_eq,decide_eq_true_eq,hk] at h;have h3:=one (Str.join sep (t::A));have h4:(Str.join sep (t::A)).length<sep.length:=by rcases h with h|h;exact h;omega
  cases z:occurrences (Str.join sep (t::A)) sep 0 (Str.join sep (t::A)).length ((Str.join sep (t::A)).length+1) with
  |nil=>rfl
  |cons d r=>rw [z] at hG;have:=hG.2.1.1;omega
 ·split
  ·rename_i h;exact whole (List.isEmpty_iff.mp h)
  ·rw [partsBetween_eq];exact key
abbrev tL:Str:="abcdefghijklmnopqrstuvwxyz"
def bJ(p:Nat):Str:=⟨#[97+p]⟩
def fJ(l:List Nat):Str:=Str.join " " (l.map bJ)
def lH(ls:List (List Nat)):Str:=Str.join "; " (ls.map fJ)
theorem KR{p:Nat}(h:p<26):tL.cps.toList[p]? =some (97+p):=by
 have:∀p<26,tL.cps.toList[p]? =some (97+p):=by decide+kernel
 exact this p h
theorem u7{p:Nat}(h:p<26):PyData.strOk (bJ p)=true:=by
 have:∀p<26,PyData.strOk (bJ p)=true:=by decide+kernel
 exact this p h
theorem CO{p:Nat}(h:p<26):L2.Jf (bJ p) tL=true:=by
 have:∀p<26,L2.Jf (bJ p) tL=true:=by decide+kernel
 exact this p h
theorem AV{p:Nat}(h:p<26):occurrences tL (bJ p) 0 tL.length 1=p:: []:=by
 have:∀p<26,occurrences tL (bJ p) 0 tL.length 1=p:: []:=by decide+kernel
 exact this p h
theorem AU(p:Nat):(bJ p).length=1:=rfl
theorem mem_join{sep:Str}{c:Nat}:∀{l:List Str},c∈(Str.join sep l).cps.toList→c∈sep.cps.toList∨∃t∈l,c∈t.cps.toList
 | [],h=>by simp [Str.join,Str.empty] at h
 | [t],h=> .inr ⟨t, .head _,h⟩
 |t::u::l,h=>by
  have h':c∈(t++sep++Str.join sep (u::l)).cps.toList:=h;rw [Str.cps_append,Str.cps_append,gk,gk,cw,cw] at h'
  rcases h' with (h|h) |h
  ·exact .inr ⟨t, .head _,h⟩
  ·exact .inl h
  ·rcases mem_join h with h| ⟨v,hv,h⟩
   ·exact .inl h
   ·exact .inr ⟨v, .tail _ hv,h⟩
theorem pG{l:List Nat}{c:Nat}(h:c∈(fJ l).cps.toList):c=32∨∃p∈l,c=97+p:=by
 rcases mem_join h with h| ⟨t,ht,h⟩
 ·have e:(" ":Str).cps.toList= [32]:=by decide+kernel
  rw [e] at h;exact .inl (eE.mp h)
 ·obtain ⟨p,hp,rfl⟩:=bz.mp ht
  exact .inr ⟨p,hp,eE.mp h⟩
theorem D0{ls:List (List Nat)}{c:Nat}(h:c∈(lH ls).cps.toList):c=59∨c=32∨∃l∈ls,∃p∈l,c=97+p:=by
 rcases mem_join h with h| ⟨t,ht,h⟩
 ·have e:("; ":Str).cps.toList= [59,32]:=by decide+kernel
  rw [e] at h;simp at h;rcases h with h|h;exact .inl h;exact .inr (.inl h)
 ·obtain ⟨l,hl,rfl⟩:=bz.mp ht
  rcases pG h with h| ⟨p,hp,h⟩
  ·exact .inr (.inl h)
  ·exact .inr (.inr ⟨l,hl,p,hp,h⟩)
theorem Dy(p:Nat)(l:List Nat):Txt.split (fJ (p::l)) " "=(p::l).map bJ:=by
 refine sZ (c:=32) (by decide+kernel) (by decide+kernel) (l.map bJ) (bJ p) λt ht h=>?_
 obtain ⟨q,_,rfl⟩:=bz.mp (show t∈(p::l).map bJ from ht)
 have:32=97+q:=eE.mp h
 omega
theorem D1(l:List Nat)(ls:List (List Nat)):Txt.split (lH (l::ls)) "; "=(l::ls).map fJ:=by
 refine sZ (c:=59) (by decide+kernel) (by decide+kernel) (ls.map fJ) (fJ l) λt ht h=>?_
 obtain ⟨q,_,rfl⟩:=bz.mp (show t∈(l::ls).map fJ from ht)
 rcases pG h with h| ⟨p,_,h⟩<;>omega
theorem JR{x:Str}(h:∀c∈x.cps.toList,c<1114112):PyData.strOk x=true:=by
 unfold PyData.strOk;rw [←Array.all_toList,List.all_eq_true];exact λc hc=>decide_eq_true (h c hc)
theorem zC{l:List Nat}(h:∀p∈l,p<26):PyData.strOk (fJ l)=true:=JR λc hc=>by
 rcases pG hc with h1| ⟨p,hp,h1⟩
 ·omega
 ·have:=h p hp;omega
theorem E5{ls:List (List Nat)}(h:∀l∈ls,∀p∈l,p<26):PyData.strOk (lH ls)=true:=JR λc hc=>by
 rcases D0 hc with h1|h1| ⟨l,hl,p,hp,h1⟩
 ·omega
 ·omega
 ·have:=h l hl p hp;omega
theorem bU(l:List Nat):(fJ l).length≤2*l.length:=by
 have h:=StrLaws.join_length_le " " (l.map bJ)
 have e:((l.map bJ).map (·.length)).sum=l.length:=by
  induction l with
  |nil=>rfl
  |cons a l ih=>rw [gI,gI,List.sum_cons,ih (StrLaws.join_length_le " " (l.map bJ)),cp];show 1+_=_;omega
 rw [e,aN,show (" ":Str).length=1 by decide+kernel] at h
 show (Str.join _ _).length≤_;omega
theorem KG(ls:List (List Nat))(B:Nat)(hB:∀l∈ls,l.length≤B):(lH ls).length≤ls.length*(2*B+2):=by
 have h:=StrLaws.join_length_le "; " (ls.map fJ)
 have e:=sumLen_le (B:=2*B) (ls.map fJ) (λy hy=>by
  obtain ⟨l,hl,rfl⟩:=bz.mp hy;have h1:=bU l;have h2:=hB l hl
  omega)
 rw [aN] at e h;rw [show ("; ":Str).length=2 by decide+kernel] at h
 show (Str.join _ _).length≤_;rw [Nat.mul_add];omega
theorem yh{l:List Nat}(h:l.length≤1000):JoinOk " " (l.map bJ)=true:=by
 unfold JoinOk;rw [joinFits (B:=1) (λy hy=>by obtain ⟨p,_,rfl⟩:=bz.mp hy;exact aV _) (by rw [aN,show (" ":Str).length=1 by decide+kernel];omega)]
 rfl
theorem yq{ls:List (List Nat)}{B:Nat}(hB:∀l∈ls,l.length≤1000)(h:ls.length≤1000):JoinOk "; " (ls.map fJ)=true:=by
 unfold JoinOk
 rw [joinFits (B:=2000) (λy hy=>by
  obtain ⟨l,hl,rfl⟩:=bz.mp hy;have h1:=bU l;have h2:=hB l hl
  omega) (by rw [aN,show ("; ":Str).length=2 by decide+kernel];omega)]
 rfl
theorem xR(l:List Nat):Txt.join " " (l.map bJ)=fJ l:=StrLaws.glued_eq_join _ _
theorem xS(ls:List (List Nat)):Txt.join "; " (ls.map fJ)=lH ls:=StrLaws.glued_eq_join _ _
end Tx
set_option maxHeartbeats 4000000
namespace BS
open PySem L2 Wb
variable {P:Program} {w:World} {mg:Str→Option Value} {base:Heap} {Z:DC} (T:Txt Z mg)
theorem T3{i j:Int}{P:D→Prop}{ρ:DN}(h:P (.bl (decide (i=j)))):dC (.int j) ρ (λb=>Hw (.int i) b P):=Hx h
theorem uD{α:Type}(l:List α)(k:Nat)(h:k≤l.length):cutD l (some (k:Int)) none=l.drop k:=by
 unfold cutD
 have e1:HT.bK l.length 0 (some (k:Int))=k:=by
  simp only [HT.bK]
  split<;>omega
 have e2:HT.bK l.length l.length none=l.length:=rfl;rw [e1,e2];exact mZ (by simp)
theorem Kf{w:W}{p:Nat}(h:p<w.length):fB (w.map aF) (p:Int)=some (aF (row w p)):=jX (v5 h)
theorem JA{ns:List Nat}{p:Nat}(h:p<ns.length):fB (ns.map aB) (p:Int)=some (aB (ns.getD p 0)):=jX (by rw [bW,eS,dh h];rfl)
theorem FE{g:dW}{tb:dH}{E:gw}{n:Nat}{ρ:DN}(I:Nat→DN→Prop)(h0:I 0 ρ)(hs:∀(j:Nat)(ρ:DN),j<n→I j ρ→∀A:DN→Prop,(∀ρ,I (j+1) ρ→A ρ)→g (aB j) ρ λbo=>tb {nx:=A,ct:=A,bk:=E.nx,rt:=E.rt} bo)
  (he:∀ρ,I n ρ→E.nx ρ):j3 g tb E (dG 0 n) ρ:=Ih I h0 (λj ρ hj h A hA=>by
 have:=hs j ρ hj h A hA
 unfold aB at this;rw [Int.zero_add];exact this) he
theorem JH{f:DN→Prop}{aD:DN}(ρ:DN)(e:aD=ρ)(h:f ρ):f aD:=by rw [e];exact h
theorem zi{x:Nat}:∀(ns:List Nat)(m:Nat),m<ns.idxOf x→ns[m]? ≠some x
 | [],m,h=>by simp at h
 |a::ns,m,h=>by
  rw [List.idxOf_cons] at h
  by_cases e:(a==x)=true
  ·rw [e] at h;simp at h
  ·rw [tG.mpr e] at h
   cases m with
   |zero=>intro z;simp at z;exact e (by simp [z])
   |succ m=>rw [qS];exact zi ns m (by simpa using h)
theorem CJ{ns:List Nat}{x:Nat}{P:D→Prop}(h:x∈ns)(q:P (aB (ns.idxOf x))):iq (aB x)=true∧(ns.map aB).all iq=true∧∃(j:Nat)(z:D),(ns.map aB)[j]? =some z∧jC z (aB x)=true∧(∀(m:Nat) z,m<j→(ns.map aB)[m]? =some z→jC z (aB x)=false)∧P (.int (j:Nat)):=by
 have hl:=qR.mpr h;have e:ns[ns.idxOf x]? =some x:=by rw [dh hl];exact congrArg some (tF hl)
 refine ⟨rfl,j2 _,ns.idxOf x,aB x,by rw [bW,e];rfl,by simp [jC,aB],λm z hm hz=>?_,q⟩
 obtain ⟨y,hy,rfl⟩:=fH hz
 have:y≠x:=by
  rintro rfl;exact zi _ _ hm hy
 have:¬((y:Int)=(x:Int)):=by omega
 simpa [jC,aB] using this
theorem kI{ns:List Nat}{x:Nat}(h:x∈ns):(ns.map aB)[ns.idxOf x]? =some (aB x)∧jC (aB x) (aB x)=true∧∀(m:Nat) z,m<ns.idxOf x→(ns.map aB)[m]? =some z→jC z (aB x)=false:=by
 have:=CJ (P:=λd=>d=aB (ns.idxOf x)) h rfl
 obtain ⟨_,_,j,z,h1,h2,h3,h4⟩:=this;have hl:=qR.mpr h;have e:ns[ns.idxOf x]? =some x:=by rw [dh hl];exact congrArg some (tF hl)
 refine ⟨by rw [bW,e];rfl,by simp [jC,aB],λm z hm hz=>?_⟩
 obtain ⟨y,hy,rfl⟩:=fH hz
 have:y≠x:=by
  rintro rfl;exact zi _ _ hm hy
 have:¬((y:Int)=(x:Int)):=by omega
 simpa [jC,aB] using this
theorem Ds(n:Nat):dG 0 n=(List.range n).map λ(x:Nat)=>aB x:=by unfold dG aB;simp
theorem kW{α:Type}{f:α→D}{g:α→PyData}(h:∀a,(f a).py=some (g a)):∀l:List α,iA (l.map f)=some (l.map g)
 | []=>rfl
 |a::l=>by
  have:=kW h l
  rw [gI,iA,h a,this];rfl
theorem zB(r:List Nat):(aF r).py=some (lA r):=by
 unfold aF lA;rw [D.py,kW (g:=nD) (λn=>rfl)];rfl
theorem ua(w:W):(aT w).py=some (mU w):=by
 unfold aT mU;rw [D.py,kW (g:=lA) zB];rfl
theorem Hy{v w:W}{P:D→Prop}(h:P (.bl (decide (v=w)))):Hw (aT v) (aT w) P:=by
 refine ⟨_,_,ua v,ua w,by have:=sD v;omega,?_⟩
 have:PyData.eqv (mU v) (mU w)=decide (v=w):=by
  by_cases e:v=w
  ·rw [decide_eq_true e];exact (nr v w).mpr e
  ·rw [decide_eq_false e]
   apply tG.mpr;exact λz=>e ((nr v w).mp z)
 rw [if_neg cZ,this];exact h
theorem H0(a b:List Nat):PyData.eqv (lA a) (lA b)=decide (a=b):=by
 by_cases e:a=b
 ·rw [decide_eq_true e];exact (rA a b).mpr e
 ·rw [decide_eq_false e]
  apply tG.mpr;exact λz=>e ((rA a b).mp z)
theorem Ai{v w:List Nat}{P:D→Prop}(h:P (.bl (!decide (v=w)))):tO (aF v) (aF w) P:=by
 refine ⟨_,_,zB v,zB w,by have:=sA v;omega,?_⟩
 rw [if_pos rfl,H0];exact h
theorem Gh{i j:Int}{P:D→Prop}{ρ:DN}(h:P (.bl (!decide (i=j)))):dC (.int j) ρ (λb=>tO (.int i) b P):=Ah h
variable {P:Program} {w:World} {mg:Str→Option Value} {base:Heap} {Z:DC} (T:Txt Z mg)
theorem rG:∀(w2:W)(o:Option D)(acc:List D)(N:List D→Prop),acc.length+w2.length≤sizeLine→N (acc++w2.map aF)→Jo (nj 0) (Ib (Am 0)) (w2.map aF) [o] acc N
 | [],o,acc,N,_,h=>by
  show N acc;simpa using h
 |x::xs,o,acc,N,hz,h=>by
  rw [cp] at hz;refine ⟨_,rfl,(by omega:acc.length<sizeLine),?_⟩
  refine rG xs _ (acc++ [aF x]) N (by simp;omega) ?_
  rw [m7];exact h
theorem JP:FnOk P w Z.K mg base cq 4 T.i_f T.i_fd ["self","turns"] (Bu Z):=by
 have nd:=ft.nd;refine T.i_F.ok ft (λvs H Q E h=>?_) (λbu A outer s H vs Q E hr h=>?_)
 ·obtain ⟨p,dx,v,G,w',rfl,_⟩:=h;rfl
 obtain ⟨p,dx,v,G,w',rfl,hp,sG,gp,dv,g,h1,bS,q⟩:=h;have hu:=hr.units
 refine ⟨_,az (t:=jm Z [0,0,2,0] 0 _)
   (cT (jB (xC vo vo bO (dJ kB rfl T.B.len jz (af (U 1) au)) (xv rfl T.c_MOST_POINTS))) (ax iT) bB)
  (az (t:=jm Z [0,0,2,0] 0 _)
   (uI 2 (NC:= ["row"]) (src:= [none]) rfl nd (lT (ao cV)) trivial (bw (U 1)) (λ_ _ _=>(bb 0 (show (["row"]:List Str).Nodup from by decide+kernel))) (λ_ _ _=>(Aq rfl rfl T.B.list jY (U 0))))
  (az (t:=jm Z [0,0,2,0] 0 _)
   (dY true 3 nd (aZ T.d_first_fault (iz T) hr (af (U 2) au)))
  (az (t:=jm Z [0,0,2,0] 0 _)
   (cT (bQ ya (U 3) gy (br _)) (ax iT) bB)
  (aX (EG (pv 0) (pv 2) rfl))))),?_⟩
 have lw:(w'.map aF).length=w'.length:=aN _;refine ⟨⟨G,H,G⟩,[some (.obj p),some (aT w'),none,none],{nx:=λρ=>ρ= [some (.obj p),some (aT w'),none,none],rt:=λ_=>False},⟨G,λ_=> [],?_⟩,?_,⟨?_,λ_ z=>z.elim,λ_ z=>z.elim,λ_ z=>z.elim⟩⟩
 ·refine ⟨.refl sG, .refl _,rfl,λi d hi=>?_,λ_=>kr,(λ_ _ _ _ z=>by cases z),(λ_ _ z=>by cases z)⟩
  match i,hi with
  |0,hi=>cases hi;exact ⟨_,rfl, .obj p,rfl⟩
  |1,hi=>cases hi;exact ⟨_,rfl,dv,rfl⟩
  |2,hi=>cases hi
  |3,hi=>cases hi
  |i+4,hi=>cases hi
 ·have e1:D.bl (decide ((1:Int)≤((w'.map aF).length:Int)))= .bl true:=congrArg D.bl (decide_eq_true (by rw [lw];omega))
  have e2:D.bl (decide (((w'.map aF).length:Int)≤14))= .bl true:=congrArg D.bl (decide_eq_true (by rw [lw];omega))
  exact ⟨_,rfl,true,e1,f7 ⟨true,e2,fw rfl⟩⟩
 rintro _ rfl BQ H1 S1;refine ⟨⟨G,H,G⟩,_,{nx:=λρ=>ρ= [some (.obj p),some (aT w'),some (aT w'),none],rt:=λ_=>False},S1,?_,⟨?_,λ_ z=>z.elim,λ_ z=>z.elim,λ_ z=>z.elim⟩⟩
 ·exact ⟨_,rfl,rG w' none [] _ (by rw [tJ,ng];exact small (by omega)) rfl⟩
 rintro _ rfl cD H2 S2;refine ⟨⟨G,H,G⟩,_,{nx:=λρ=>ρ= [some (.obj p),some (aT w'),some (aT w'),some .aM],rt:=λ_=>False},S2,?_,⟨?_,λ_ z=>z.elim,λ_ z=>z.elim,λ_ z=>z.elim⟩⟩
 ·exact ⟨_,rfl,w',rfl,g,h1,bS,rfl,rfl⟩
 rintro _ rfl sg H3 S3;refine ⟨⟨G,H,G⟩,_,{nx:=λρ=>ρ= [some (.obj p),some (aT w'),some (aT w'),some .aM],rt:=λ_=>False},S3,?_,⟨?_,λ_ z=>z.elim,λ_ z=>z.elim,λ_ z=>z.elim⟩⟩
 ·exact ⟨_,rfl,_,rfl,fw rfl⟩
 rintro _ rfl cU H4 ⟨G4,fp,S4⟩;obtain ⟨v0,j6,o0⟩:=S4.at_ 0 _ rfl;obtain ⟨v2,Qu,o2⟩:=S4.at_ 2 _ rfl;obtain ⟨d0,_⟩:=o0;cases d0;have n2:=S4.nw 2;generalize hf:fp 2=f at o2 n2;obtain ⟨R,ys,HR,eZ,rfl,e0,hR,hf2,ol⟩:=Own.lst o2;have Qj:=S4.ex.hh _ _ hp
 have ZP:∀b∈f,b≠p:=λb hb z=>by
  have h1:H b=none:=(n2 b hb).1;rw [z,hp] at h1;cases h1
 refine ⟨_,Qu,_,j6,p,Z.C,dx,[],rfl,Qj,T.W.cl,T.W.nR,by decide,?_⟩
 exact q R f _ (λb o eb nb=>by rw [ab nb];exact S4.ex.hh _ _ eb) aa (λGx=>JZ (o2.keep (.refl _) λb hb=>ab (ZP b hb))) λb hb=>(n2 b hb).1
variable {P:Program} {w:World} {mg:Str→Option Value} {base:Heap} {Z:DC} (T:Txt Z mg)
def gZ(k:Nat×Nat):PyData:= .tuple [nD k.1,nD k.2]
theorem Dm(k:Nat×Nat):(pairD k).py=some (gZ k):=by
 unfold pairD;rw [D.py,iA,iA,iA];rfl
theorem nq(a b:Nat×Nat):PyData.eqv (gZ a) (gZ b)=true↔a=b:=by
 unfold gZ nD;simp [PyData.eqv,PyData.eqvAll]
 constructor
 ·rintro ⟨h1,h2⟩;exact Prod.ext (by omega) (by omega)
 ·rintro rfl;exact ⟨rfl,rfl⟩
theorem yJ(l:List (Nat×Nat)):(PyData.list (l.map gZ)).depth≤64:=by
 rw [PyData.depth]
 have:=fD (f:=gZ) (k:=10) (λn=>by unfold gZ nD;simp [PyData.depth,PyData.depthAll]) l
 omega
theorem ye(l:List (Nat×Nat)):(D.lst (l.map pairD)).py=some (.list (l.map gZ)):=by rw [D.py,kW Dm];rfl
theorem Cm(l m:List (Nat×Nat)):PyData.eqv (.list (l.map gZ)) (.list (m.map gZ))=decide (l=m):=by
 rw [PyData.eqv]
 by_cases e:l=m
 ·rw [decide_eq_true e];exact (hU nq l m).mpr e
 ·rw [decide_eq_false e]
  apply tG.mpr;exact λz=>e ((hU nq l m).mp z)
theorem Ca{l m:List (Nat×Nat)}{P:D→Prop}(h:P (.bl (decide (l=m)))):Hw (.lst (l.map pairD)) (.lst (m.map pairD)) P:=by
 refine ⟨_,_,ye l,ye m,yJ l,?_⟩;rw [if_neg cZ,Cm];exact h
variable {P:Program} {w:World} {mg:Str→Option Value} {base:Heap} {Z:DC} (T:Txt Z mg)
def zz(d:Nat×Nat):Int×Int:=(d.1,d.2)
theorem M6{a b:Nat×Nat}(h:zz a=zz b):a=b:=Prod.ext (by have:=(Prod.mk.inj h).1;omega) (by have:=(Prod.mk.inj h).2;omega)
theorem E9{d:Nat×Nat}{l:List (Nat×Nat)}:zz d∈l.map zz↔d∈l:=by
 rw [bz];exact ⟨λ⟨a,ha,e⟩=>by rw [←M6 e];exact ha,λh=>⟨d,h,rfl⟩⟩
def MO:eW:=λds P=>∃(w:W),ds= [.eV w]∧Good w∧w.length≤14∧∀ts:List (Nat×Nat),ts.Perm (fP (row w) w.length)→ts.Pairwise lexLe→P (.lst (ts.map pairD))
theorem N3{g:dW}{gJ:i9}{g1:dW}{e8:eo}{te:aP}{α β γ:Type}(I:DN→Prop)(J:α→DN→Prop)(enc:α→D)(f:α→List β)(Er:β→D)(p:α→β→Bool)(k:α→β→γ)(lX:γ→D)(JI:∀y ρ,J y ρ→I ρ):∀(ys:List α)(aD:DN)(acc:List γ)(P:List D→Prop),
  (∀y∈ys,∀aD,I aD→∀(Y:DN→List D→Prop),(∀bo,J y bo→Y bo ((f y).map Er))→g (enc y) aD λbo=>gJ bo (Y bo))→
  (∀y∈ys,∀b∈f y,∀aD,J y aD→∀(Y:DN→D→Prop)(Nn:DN→Prop),(∀bo,J y bo→p y b=true→Y bo (lX (k y b)))→(∀bo,J y bo→p y b=false→Nn bo)→g1 (Er b) aD λbo=>e8 bo λc=>if c=true then te bo (Y bo) else Nn bo)→
  I aD→acc.length+(ys.flatMap λy=>((f y).filter (p y)).map (k y)).length≤sizeLine→(∀y∈ys,acc.length+(ys.flatMap λy=>((f y).filter (p y)).map (k y)).length+(f y).length≤sizeLine)→P ((acc++ys.flatMap λy=>((f y).filter (p y)).map (k y)).map lX)→om g sv gJ g1 e8 te (ys.map enc) aD (acc.map lX) P
 | [],aD,acc,P,_,_,hI,_,_,h=>by
  show P (acc.map lX);simpa using h
 |y::ys,aD,acc,P,h1,h2,hI,hz,hy,h=>by
  have hy0:=hy y (cC ..);rw [yx,dS] at hz hy0;refine h1 y (cC ..) aD hI (λbo es=>lcW g1 e8 te es bo (acc.map lX) λdQ uk=>om g sv gJ g1 e8 te (ys.map enc) dQ uk P) λbo Z6=>?_;refine kL (J y) Er (p y) (λb=>lX (k y b)) (f y) bo (acc.map lX) _ (λb hb dQ PF Y Nn hY hN=>?_) Z6 (by rw [aN];omega) λdQ PF=>?_
  ·exact h2 y (cC ..) b hb dQ PF Y Nn hY hN
  ·have e:acc.map lX++((f y).filter (p y)).map (λb=>lX (k y b))=(acc++((f y).filter (p y)).map (k y)).map lX:=by rw [dP,cK];rfl
   rw [e];refine N3 I J enc f Er p k lX JI ys dQ (acc++((f y).filter (p y)).map (k y)) P (λz hz=>h1 z (cA _ hz)) (λz hz=>h2 z (cA _ hz)) (JI y dQ PF) (by rw [dS];omega) (λz hz=>?_) ?_
   ·have:=hy z (cA _ hz)
    rw [yx,dS] at this;rw [dS];omega
   ·rw [yx] at h
    rw [m7];exact h
theorem kR:FnOk P w Z.K mg base cq 1 T.m_ties.f T.m_ties.fd ["self"] (aW Z MO):=by
 have nd:=qC.nd;refine bR T.m_ties.F qC [0] (by decide) (λds R h=>by obtain ⟨_,rfl,_⟩:=h;rfl) (λbu A outer s H E ds R hr h=>?_)
 have hu:=hr.units;refine ⟨_,(ax (bq (dJ xn rfl T.B.sorted kA (af (Lb (NC:= ["p","row","q"]) (src:= [none,none,none]) rfl (lT (ao jG)) trivial (fE rfl T.B.enumerate (af (pW T.W (U 0)) au)) (λ_ _ _=>(t4 2 rfl (f6 (bb 0 (show (["p","row","q"]:List Str).Nodup from by decide+kernel)) (f6 (bb 1 (show (["p","row","q"]:List Str).Nodup from by decide+kernel)) pZ)))) (λ_ _ _=>cx) (λ_ _ _=>(bw (U 1))) (λ_ _ _=>(bb 2 (show (["p","row","q"]:List Str).Nodup from by decide+kernel))) (λ_ _ _=>(Au (bQ CZ (U 0) (U 2) (br _)))) (λ_ _ _=>(hC (af (U 0) (af (U 2) au))))) au)))),?_⟩
 obtain ⟨w',rfl,g,bS,q⟩:=h
 have ee:eM (w'.map aF)=(List.range w'.length).map λ(j:Nat)=>D.tup [.int (j:Int),aF (row w' j)]:=by
  refine oJ λj=>?_;rw [bW]
  by_cases lt:j<w'.length
  ·rw [tD lt]
   cases e:(eM (w'.map aF))[j]? with
   |none=>
    have:=List.getElem?_eq_none_iff.mp e
    rw [gU,aN] at this;omega
   |some d=>rw [(tq e).2];rfl
  ·rw [gf (by rw [gU,aN];omega),gf (by rw [iG];omega)];rfl
 have tb:((List.range w'.length).flatMap λp=>((row w' p).filter λq=>decide (p<q)).map λq=>(p,q))=fP (row w') w'.length:=rfl
 have fl:∀n,n≤w'.length→(fP (row w') n).length≤n*14:=λn=>by
  induction n with
  |zero=>intro _;exact aV _
  |succ n ih=>
   intro h
   have:=ih (by omega)
   have h2:=bU g n;have h3:=List.length_filter_le (λq=>decide (n<q)) (row w' n);unfold fP at this ⊢;rw [List.range_succ,List.flatMap_append,dS];simp only [yx,List.flatMap_nil,iK,aN];omega
 have fl0:=fl w'.length (aV _);refine ⟨_,rfl,w',rfl,?_⟩;refine (?_:om _ _ _ _ _ _ (eM (w'.map aF)) _ _ _);rw [ee];refine N3 (λρ=>∃o0 o1 o2,ρ= [o0,o1,o2]) (λp ρ=>∃o2,ρ= [some (aB p),some (aF (row w' p)),o2]) _ (λp=>row w' p) aB (λp q=>decide (p<q)) (λp q=>(p,q)) pairD (λy ρ ⟨o2,e⟩=>⟨_,_,_,e⟩) (List.range w'.length) _ [] _ (λp hp aD hI Y hY=>?_) (λp hp b hb aD hI Y Nn hY hN=>?_) ⟨none,none,none,rfl⟩ ?_ (λp hp=>?_) ?_
 ·obtain ⟨o0,o1,o2,rfl⟩:=hI
  exact ⟨rfl,rfl,_,rfl,hY _ ⟨_,rfl⟩⟩
 ·obtain ⟨o2,rfl⟩:=hI
  refine ⟨_,rfl,_,rfl,_,rfl,?_⟩;refine (?_:if decide ((p:Int)<(b:Int))=true then _ else _);rw [show decide ((p:Int)<(b:Int))=decide (p<b) from decide_eq_decide.mpr (by omega)]
  exact nB (λe=>⟨_,rfl,_,rfl,by show 2≤sizeLine;decide,hY _ ⟨_,rfl⟩ e⟩) (λe=>hN _ ⟨_,rfl⟩ e)
 ·rw [tb,tJ,ng];exact small (by omega)
 ·have:=bU g p
  rw [tb,tJ,ng];exact small (by omega)
 ·rw [tb,tI]
  exact ⟨_,rfl,by omega,q⟩
def GL:eW:=λds P=>∃(w:W)(p q:Nat),ds= [.eV w,aB p,aB q]∧Good w∧q∈row w p∧P (aB (aI (row w p) q))
theorem jn:FnOk P w Z.K mg base cq 1 T.m_behind.f T.m_behind.fd ["self","p","q"] (aW Z GL):=by
 have nd:=mM.nd;refine bR T.m_behind.F mM [0,0,0,0] (by decide) (λds R h=>by obtain ⟨_,_,_,rfl,_⟩:=h;rfl) (λbu A outer s H E ds R hr h=>?_)
 have hu:=hr.units
 refine ⟨_,(aw (dY false 3 nd (rj (pW T.W (U 0)) (U 1)))
   (ax (bq (rj (U 3) (oQ ED (oQ qo (Fp (U 3) (U 2)) bO) (dJ kB rfl T.B.len jz (af (U 3) au))))))),?_⟩
 obtain ⟨w',p,q',rfl,g,hq,q⟩:=h;have hp:=cQ hq;have rl:=bU g p;have lr:((row w' p).map aB).length=(row w' p).length:=aN _;have pos:0<(row w' p).length:=BM hq;have e0:(0:Int)<(((row w' p).map aB).length:Int):=by rw [lr];omega
 refine ⟨_,rfl,w',rfl,_,rfl,_,Kf hp,trivial,?_⟩;refine ⟨_,rfl,_,rfl,_,rfl,_,rfl,rfl,j2 _,_,_,(kI hq).1,(kI hq).2.1,(kI hq).2.2,?_⟩;refine ⟨_,rfl,e0,?_⟩;have em:(((row w' p).idxOf q':Nat):Int)+1=(((row w' p).idxOf q'+1:Nat):Int):=by omega
 have et:((((row w' p).idxOf q':Nat):Int)+1)%(((row w' p).map aB).length:Int)=((((row w' p).idxOf q'+1)%(row w' p).length:Nat):Int):=by rw [lr,em,Int.natCast_emod]
 refine ⟨aB (aI (row w' p) q'),?_,q⟩;show fB ((row w' p).map aB) ((λi j=>i%j) _ _)=_;dsimp only;rw [et];exact JA (Nat.mod_lt _ pos)
theorem Fn{a b:Nat×Nat}{P:D→Prop}(h:P (.bl (!decide (a=b)))):tO (pairD a) (pairD b) P:=by
 refine ⟨_,_,Dm a,Dm b,by unfold gZ nD;simp [PyData.depth,PyData.depthAll],?_⟩
 have:PyData.eqv (gZ a) (gZ b)=decide (a=b):=by
  by_cases e:a=b
  ·rw [decide_eq_true e];exact (nq a b).mpr e
  ·rw [decide_eq_false e]
   apply tG.mpr;exact λz=>e ((nq a b).mp z)
 rw [if_pos rfl,this];exact h
def vP:eW:=λds P=>∃(w:W)(d:Nat×Nat),ds= [.eV w,pairD d]∧Good w∧w.length≤14∧aE w d∧∀r,fA w d r→P (.lst (r.map pairD))
theorem vw:FnOk P w Z.K mg base cq 2 T.d_round_from.f T.d_round_from.fd ["web","side"] (aW Z vP):=by
 have nd:=mO.nd;refine bR T.d_round_from.F mO [0,0,1,0,0] (by decide) (λds R h=>by obtain ⟨_,_,rfl,_⟩:=h;rfl) (λbu A outer s H E ds R hr h=>?_)
 have hu:=hr.units
 refine ⟨_,(aw (p6 2 nd (pY (af (U 1) au)))
   (aw (Lh (U 1) (iN 2 rfl (bI (bf 3 nd) (bI (bf 4 nd) fi))))
   (aw (Ep 3 4 rfl nd (af (U 4) (af (uG T.W (U 0) T.m_behind.m (jn T) (hr.mono (by decide)) T.m_behind.b (af (U 4) (af (U 3) au))) au)))
   (aw (xB PassesOwn.never (bQ (kQ hu) (hC (af (U 3) (af (U 4) au))) (U 1) (br _)) (aw (yL false 2 (hC (af (U 3) (af (U 4) au))))
   (ax (Ep 3 4 rfl nd (af (U 4) (af (uG T.W (U 0) T.m_behind.m (jn T) (hr.mono (by decide)) T.m_behind.b (af (U 4) (af (U 3) au))) au))))))
   (ax (bq (U 2))))))),?_⟩
 obtain ⟨w',d,rfl,g,bS,hd,q⟩:=h;have c1:=kD g;have c2:w'.length*w'.length≤14*14:=wq bS bS;refine ⟨_,rfl,by show 1≤sizeLine;decide,?_⟩
 refine ⟨_,rfl,rfl,rfl,?_⟩;refine ⟨_,rfl,_,rfl,w',rfl,_,rfl,_,rfl,w',d.2,d.1,rfl,g,g.sym _ _ hd,_,_,rfl,?_⟩;refine v7 (λm ρ=>∃k,0<k∧m+k=(aQ w').length+1∧(∀j,0<j→j<k→bH w' j d≠d)∧ρ= [some (.eV w'),some (pairD d),some (.lst ((walk w' d k).map pairD)),some (aB (bH w' k d).1),some (aB (bH w' k d).2)]) (aQ w').length ⟨1,by omega,rfl,λj h1 h2=>by omega,rfl⟩ ?_
 rintro m _ ⟨k,k0,hm,hk,rfl⟩;have hde:=eF g hd k;refine ⟨_,rfl,_,rfl,by show 2≤sizeLine;decide,_,rfl,?_⟩
 refine (?_:tO (pairD (bH w' k d)) (pairD d) _);refine Fn ⟨_,rfl,nB (λe=>?_) (λe=>?_)⟩
 ·have ne:bH w' k d≠d:=by simpa using e
  have lt:k<(aQ w').length:=by
   have:=vY g hd (k:=k+1) λj h1 h2=>by
    by_cases c:j=k
    ·subst c;exact ne
    ·exact hk j h1 (by omega)
   omega
  refine ⟨_,rfl,_,rfl,_,rfl,by show 2≤sizeLine;decide,trivial,bF (by rw [aN,fu];omega),?_⟩
  refine ⟨_,rfl,_,rfl,w',rfl,_,rfl,_,rfl,w',(bH w' k d).2,(bH w' k d).1,rfl,g,g.sym _ _ hde,_,_,rfl,?_⟩;refine ⟨m-1,by omega,k+1,by omega,by omega,λj h1 h2=>?_,?_⟩
  ·by_cases c:j=k
   ·subst c;exact ne
   ·exact hk j h1 (by omega)
  ·rw [vZ,dP];rfl
 ·have e:bH w' k d=d:=by simpa using e
  exact ⟨_,rfl,q _ ⟨k,k0,e,hk,rfl⟩⟩
def t7(rs:List (List (Nat×Nat))):D:= .lst ((rs.map λr=>r.map (·.1)).map aF)
def Bv:eW:=λds P=>∃(w:W),ds= [.eV w]∧Good w∧1≤w.length∧w.length≤14∧(w.length=1→P (.lst [aF [0]]))∧(2≤w.length→∀rs,cO w rs→u3 w=oi rs→P (.lst ((u3 w).map aF)))
theorem F4{l:List (Nat×Nat)}{d:Nat×Nat}(h:d∉l):AL (l.map zz) (zz d)=(l++ [d]).map zz:=by
 unfold AL;rw [if_neg (λz=>h (E9.mp z)),dP];rfl
theorem vq:FnOk P w Z.K mg base cq 3 T.d_lands.f T.d_lands.fd ["web"] (vg Z 2 Bv):=by
 have nd:=yn.nd;refine xH 2 T.d_lands.F yn [0,98,2,0,0,0] (by decide) (λds R h=>by obtain ⟨_,rfl,_⟩:=h;rfl) (λbu A outer s H E ds R hr h=>?_)
 have hu:=hr.units
 refine ⟨_,(aw (cT (bQ (zo hu) (fZ T.W (U 0) T.m_many.m (qp T) (hr.mono (by decide)) T.m_many.b) bO (br _)) (ax (HW (Lf (pY (af bO au))))) bB)
   (aw (Fx 1 nd rfl T.x_set)
   (aw (p6 2 nd (HN 1))
   (aw (fh rfl PassesOwn.never (bw (dJ xn rfl T.B.sorted kA (af (oQ qo (fZ T.W (U 0) T.m_ties.m (kR T) (hr.mono (by decide)) T.m_ties.b) (jf (NC:= ["a","b"]) (src:= [none,none]) rfl (lT (ao mK)) trivial (bw (fZ T.W (U 0) T.m_ties.m (kR T) (hr.mono (by decide)) T.m_ties.b)) (λ_ _ _=>(t4 2 rfl (f6 (bb 0 (show (["a","b"]:List Str).Nodup from by decide+kernel)) (f6 (bb 1 (show (["a","b"]:List Str).Nodup from by decide+kernel)) pZ)))) (λ_ _ _=>cx) (λ_ _ _=>(hC (af (U 1) (af (U 0) au)))))) au))) (bf 3 nd) (ax (cT (bQ (C0 hu) (U 3) (U 1) (by with_unfolding_all rfl)) (aw (dY false 4 nd (aZ T.d_round_from (vw T) hr (af (U 0) (af (U 3) au))))
   (aw (fh rfl PassesOwn.never (bw (U 4)) (bf 5 nd) (ax (HS false 1 hu (U 5))))
   (ax (Fv 2 (Pl (NC:= ["p","q"]) (src:= [none,none]) rfl (lT (ao mK)) trivial (bw (U 4)) (λ_ _ _=>(t4 2 rfl (f6 (bb 0 (show (["p","q"]:List Str).Nodup from by decide+kernel)) (f6 (bb 1 (show (["p","q"]:List Str).Nodup from by decide+kernel)) pZ)))) (λ_ _ _=>cx) (λ_ _ _=>(U 0))))))) bB)))
   (ax (Cf 2 hu rfl T.B.sorted)))))),?_⟩
 obtain ⟨w',rfl,g,h1,bS,q1,q2⟩:=h;have c1:=kD g;have c2:w'.length*w'.length≤14*14:=wq bS bS;have lw:(w'.map aF).length=w'.length:=aN _;refine ⟨_,rfl,w',rfl,w',rfl,?_⟩;refine T3 ⟨_,rfl,nB (λe=>?_) (λe=>?_)⟩
 ·have e:w'.length=1:=by have:=of_decide_eq_true e;omega
  exact ⟨by show 1≤sizeLine;decide,q1 e⟩
 have n2:2≤w'.length:=by have:=of_decide_eq_false e;omega
 refine ⟨by show 0≤sizeLine;decide,?_⟩
 refine ⟨_,rfl,w',rfl,w',rfl,g,bS,λts pm Bw=>?_⟩;have tl:=DV g;rw [←uF] at tl;have tl2:=pm.length_eq;refine ⟨_,rfl,w',rfl,w',rfl,g,bS,λzN Gw Oz=>?_⟩;have e2:zN=ts:=List.Perm.eq_of_pairwise (λ_ _ _ _=>nG) Oz Bw (Gw.trans pm.symm);subst e2;refine kL (λρ=>∃o0 o1,ρ= [o0,o1]) pairD (λ_=>true) (λt=>pairD (t.2,t.1)) zN _ [] _ (λt ht aD hI Y Nn hY hN=>?_) ⟨none,none,rfl⟩ (by rw [tJ,ng];exact small (by omega)) λaD hI=>?_
 ·obtain ⟨o0,o1,rfl⟩:=hI
  exact ⟨rfl,rfl,OD ⟨_,rfl,_,rfl,by show 2≤sizeLine;decide,hY _ ⟨_,_,rfl⟩ rfl⟩⟩
 have pd:=B3 g pm;have pl:=pd.length_eq;rw [dS,aN] at pl;have ef:zN.filter (λ_=>true)=zN:=by simp
 rw [tI,ef];refine ⟨by rw [aN,aN];exact small (by omega),?_⟩
 have ej:(.lst (zN.map pairD++zN.map λt=>pairD (t.2,t.1)):D)= .lst ((zN++zN.map λt=>(t.2,t.1)).map pairD):=by rw [dP,cK];rfl
 dsimp only [su];rw [ej];refine ⟨_,rfl,by rw [dS,aN];omega,λds Mp XQ=>?_⟩
 have Mp:=Mp.trans pd;have all:∀e,aE w' e→e∈ds:=λe h=>Mp.mem_iff.mpr (aK.mpr h);have dart:∀e∈ds,aE w' e:=λe h=>aK.mp (Mp.mem_iff.mp h);clear pm Gw Bw Oz ej pd ef;refine cX (λi ρ=>∃(rs:List (List (Nat×Nat)))(o3 o4 o5:Option D),ρ= [some (.eV w'),some (.x (.qw (fQ w) (rs.flatten.map zz))),some (t7 rs),o3,o4,o5]∧Wk w' ds i rs) ⟨[],none,none,none,rfl,Wk.zero w' ds⟩ ?_ ?_
 ·rintro i d _ hd ⟨rs,o3,o4,o5,rfl,hw⟩ A hA
  obtain ⟨e,he,rfl⟩:=fH hd;have de:=dart e (dD he);refine ⟨_,rfl,_,rfl,zz e,rs.flatten.map zz,rfl,rfl,_,rfl,?_⟩;refine (?_:if (if true=true then !decide (zz e∈rs.flatten.map zz) else _)=true then _ else _);rw [if_pos rfl,show decide (zz e∈rs.flatten.map zz)=decide (e∈rs.flatten) from decide_eq_decide.mpr E9]
  have sub:∀x∈rs.flatten,x∈aQ w':=λx hx=>by
   obtain ⟨r,hr,hxr⟩:=qW.mp hx;obtain ⟨d,R,dd,_⟩:=hw.rnd r hr;exact aK.mpr (R.aQ g dd x hxr)
  have fl:=bg hw.nod sub;refine nB (λc=>?_) (λc=>?_)
  ·have c:e∉rs.flatten:=by simpa using c
   refine ⟨_,rfl,_,rfl,w',e,rfl,g,bS,de,λr R=>⟨trivial,?_⟩⟩;have Vd:=hw.take g all dart XQ he c R;have rd:∀x∈r,x∈aQ w':=λx hx=>aK.mpr (R.aQ g de x hx);have rl:=bg (R.nodup g de) rd;have QH:(rs.flatten++r).Nodup:=by have:=Vd.nod;rw [yv] at this;simpa using this
   have ZN:(rs.flatten++r).length≤(aQ w').length:=bg QH λx hx=>(cw.mp hx).elim (sub x) (rd x);rw [dS] at ZN;refine ⟨_,rfl,?_⟩;refine cX (λk ρ=>∃o5,ρ= [some (.eV w'),some (.x (.qw (fQ w) ((rs.flatten++r.take k).map zz))),some (t7 rs),some (pairD e),some (.lst (r.map pairD)),o5]) ⟨o5,by rw [wo,iK];rfl⟩ ?_ ?_
   ·rintro k d _ hd ⟨o5,rfl⟩ A hA
    obtain ⟨x,hx,rfl⟩:=fH hd;have hk:=(cF.mp hx).1;have tk:r.take (k+1)=r.take k++ [x]:=by rw [List.take_succ,hx];rfl
    have nx:x∉rs.flatten++r.take k:=λz=>by
     have sp:rs.flatten++r=(rs.flatten++r.take k)++(x::r.drop (k+1)):=by
      rw [m7,←cF.mp hx|>.2,List.getElem_cons_drop,kq]
     rw [sp] at QH;exact (cJ.mp QH).2.2 x z x (cC ..) rfl
    refine ⟨_,rfl,_,rfl,zz x,rfl,by rw [aN,dS,iI];omega,?_⟩
    rw [F4 nx,m7,←tk];exact hA _ ⟨_,rfl⟩
   ·rintro _ ⟨o5,rfl⟩
    rw [aN,List.take_length]
    have dl:rs.length≤300:=by
     have h:∀iB:List (List (Nat×Nat)),(∀r∈iB,r≠ [])→iB.length≤iB.flatten.length:=λiB=>by
      induction iB with
      |nil=>intro _;exact aV _
      |cons a l ih=>
       intro h;have h1:=BP.mpr (h a (cC ..));have h2:=ih λr hr=>h r (cA _ hr);rw [m8,dS,cp];omega
     have:=h rs λr hr z=>by
      obtain ⟨d,R,_,_⟩:=hw.rnd r hr
      have:=R.first
      rw [z] at this;cases this
     omega
    refine ⟨_,rfl,_,rfl,?_⟩;refine kL (λρ=>∃o0 o1,ρ= [o0,o1]) pairD (λ_=>true) (λt=>aB t.1) r _ [] _ (λt ht aD hI Y Nn hY hN=>?_) ⟨none,none,rfl⟩ (by rw [tJ,ng];exact small (by omega)) λaD hI=>?_
    ·obtain ⟨o0,o1,rfl⟩:=hI
     exact ⟨rfl,rfl,OD ⟨_,rfl,hY _ ⟨_,_,rfl⟩ rfl⟩⟩
    rw [tI,show r.filter (λ_=>true)=r by simp]
    refine ⟨bF (by rw [aN,aN];omega),?_⟩
    refine hA _ ⟨rs++ [r],some (pairD e),some (.lst (r.map pairD)),o5,?_,Vd⟩
    have e1:t7 (rs++ [r])= .lst ((rs.map λr=>r.map (·.1)).map aF++ [.lst (r.map λt=>aB t.1)]):=by
     unfold t7 aF;rw [dP,dP];simp only [gI,List.map_nil,cK];rfl
    rw [e1,yv,show [r].flatten=r by simp];rfl
  ·have c:e∈rs.flatten:=by simpa using c
   exact hA _ ⟨rs,_,_,_,rfl,hw.skip he c⟩
 ·rintro _ ⟨rs,o3,o4,o5,rfl,hw⟩
  have hw:Wk w' ds ds.length rs:=by rw [aN] at hw;exact hw
  have fin:=hw.fin g all;have R:cO w' rs:=⟨hw.rnd,fin⟩
  have dl:rs.length≤300:=by
   have h:∀iB:List (List (Nat×Nat)),(∀r∈iB,r≠ [])→iB.length≤iB.flatten.length:=λiB=>by
    induction iB with
    |nil=>intro _;exact aV _
    |cons a l ih=>
     intro h;have h1:=BP.mpr (h a (cC ..));have h2:=ih λr hr=>h r (cA _ hr);rw [m8,dS,cp];omega
   have:=h rs λr hr z=>by
    obtain ⟨d,R,_,_⟩:=hw.rnd r hr
    have:=R.first
    rw [z] at this;cases this
   have:=fin.length_eq
   omega
  refine ⟨rs.map (λr=>r.map (·.1)),rfl,by rw [aN];omega,λM pm Bw=>?_⟩
  obtain ⟨iB,p',rfl⟩:=L2.iP (λr:List (Nat×Nat)=>r.map (·.1)) M rs pm;have R':=R.JM p';have e:=F7 g R' Bw
  have:=q2 n2 iB R' e
  rw [e] at this;exact this
end BS
namespace ug
open PySem L2
def top(i:Nat):Stmt:=PySem.Challenge.pw_mapdye_k16_written_and_read.main.body.getD i (.Pass ⟨0,0,0,0⟩)
abbrev vH:Stmt:=top 29
abbrev ub:Stmt:=top 30
abbrev vI:Stmt:=top 31
abbrev r8:Stmt:=top 32
def ME(K:PySem.W.Frag):Sp:=λvs H Q _=>∃(a:Addr)(ns:List Int)(k:Int),vs= [.ref a, .int k]∧aH K H a (ns.map V.int)∧ns.length≤63∧0≤k∧k≤100∧∀(v:Int)(H':Hp),aC H H'→Q (.int v) H'
section
variable {P:Program} {w:World} {K:PySem.W.Frag} {mg:Str→Option Value} {base:Heap}
theorem MB:aL ["_law_script","_law_k"] ["_law_script","_law_k"] (ao vH):=⟨rfl,rfl,rfl,by decide+kernel,rfl,by decide+kernel,by decide+kernel⟩
theorem vt(D:bX K mg "_law_cell" vH ["_law_script","_law_k"]):FnOk P w K mg base cq 1 D.f D.fd ["_law_script","_law_k"] (ME K):=by
 refine D.F.ok MB (λvs H Q E h=>?_) (λbu A outer s H vs Q E hr h=>?_)
 ·obtain ⟨a,ns,k,rfl,_⟩:=h
  rfl
 obtain ⟨a,ns,k,rfl,hS,oX,h0,h1,q⟩:=h;refine ⟨_,aX (fm (b9 bx (cm zw (nN qI (pv 0) (mE (pv 1)) (mE (cm gF (pv 1) aO))) (dF (ae aO aq))) aO (λ_ _=>rfl))),?_⟩;refine ⟨_,rfl,_,rfl,k,rfl,_,rfl,_,_,rfl,rfl,_,rfl,a,_,rfl,hS,λp hp=>?_⟩;refine ⟨by show 1≤sizeLine;decide,λp2 F0=>?_⟩
 have ne:p≠p2:=ah (aa (H:=H) (a:=p)) F0;have hlen:=kC (ns.map V.int) (some k) (some (k+1));rw [aN] at hlen;refine ⟨p,p2,_,_,rfl,rfl,by rw [ab ne];exact aa,aa,small (by show _+1≤1000;omega),λp3 hp3=>?_⟩
 have sm:aC H (upd (upd (upd H p (.lst (gK (ns.map V.int) (some k) (some (k+1))))) p2 (.lst [.int 0])) p3 (.lst (gK (ns.map V.int) (some k) (some (k+1))++ [.int 0]))):=
  (av hp _).trans ((av F0 _).trans (av hp3 _))
 have hint:∃v:Int,fB (gK (ns.map V.int) (some k) (some (k+1))++ [V.int 0]) 0=some (.int v):=by
  have:∀x∈gK (ns.map V.int) (some k) (some (k+1))++ [V.int 0],∃v,x=V.int v:=λx hx=>by
   rcases cw.mp hx with z|z
   ·unfold gK at z
    obtain ⟨v,_,rfl⟩:=bz.mp (List.mem_of_mem_drop (List.mem_of_mem_take z));exact ⟨v,rfl⟩
   ·exact ⟨0,by simpa using z⟩
  cases e:gK (ns.map V.int) (some k) (some (k+1))++ [V.int 0] with
  |nil=>simp at e
  |cons x r=>
   obtain ⟨v,rfl⟩:=this x (by rw [e];exact cC)
   exact ⟨v,ck (j:=0) rfl⟩
 obtain ⟨v,hv⟩:=hint;exact ⟨p3,_,0, .int v,rfl,rfl,aH.of aa,hv,q v _ sm⟩
end
theorem boot_max:bootBuiltins "max"=some (.builtin "max"):=by decide+kernel
theorem boot_min:bootBuiltins "min"=some (.builtin "min"):=by decide+kernel
def Kr(K:PySem.W.Frag):Sp:=λvs H Q _=>∃(a:Addr)(ns:List Int)(k:Int),vs= [.ref a, .int k]∧aH K H a (ns.map V.int)∧ns.length≤63∧∀(v:Int)(H':Hp),aC H H'→Q (.int v) H'
structure wG (mg:Str→Option Value):Prop where
 len:mg "len"=none
 range:mg "range"=none
 max:mg "max"=none
 min:mg "min"=none
 enumerate:mg "enumerate"=none
 zip:mg "zip"=none
 sorted:mg "sorted"=none
 all:mg "all"=none
 isinstance:mg "isinstance"=none
 int:mg "int"=none
 bool:mg "bool"=none
 list:mg "list"=none
 tuple:mg "tuple"=none
section
variable {P:Program} {w:World} {K:PySem.W.Frag} {mg:Str→Option Value} {base:Heap}
theorem Bn:aL ["_law_script","_law_turn","_law_number","_law_k","_law_part"] ["_law_script","_law_turn"] (ao ub):=⟨rfl,rfl,rfl,by decide+kernel,rfl,by decide+kernel,by decide+kernel⟩
theorem Gm(B:wG mg)(C:bX K mg "_law_cell" vH ["_law_script","_law_k"])(D:bX K mg "_law_mixed" ub ["_law_script","_law_turn"]):FnOk P w K mg base cq 2 D.f D.fd ["_law_script","_law_turn"] (Kr K):=by
 refine D.F.ok Bn (λvs H Q E h=>?_) (λbu A outer s H vs Q E hr h=>?_)
 ·obtain ⟨a,ns,k,rfl,_⟩:=h
  rfl
 obtain ⟨a,ns,k,rfl,hS,oX,q⟩:=h;have nd:=Bn.nd
 refine ⟨_,az (bP (i:=2) nd rfl (Or.inl rfl) aO)
  (az (iQ PassesOwn.never rfl (kT rfl B.range (ae (b8 (B5 rfl) rfl B.max boot_max (ae aO (ae (b8 (B6 rfl) rfl B.min boot_min (ae aO (ae (b8 cc rfl B.len PySem.boot_len (ae (pv 0) aq)) aq))) aq))) aq)) (bT (i:=3) nd rfl (Or.inl rfl))
   (az (bP (i:=4) nd rfl (Or.inl rfl) (cm nK (cm nM (cm gF (cm gF (cm gF (cm nK (bh (vt C) hr rfl C.m C.F.kp C.b .nil bY (ae (pv 0) (ae (pv 3) aq))) aO) (cm nM aO (pv 3))) (cm nM aO (pv 1))) aO) aO) aO))
    (aX (bP (i:=2) nd rfl (Or.inl rfl) (cm gF (cm nM (pv 2) aO) (cm nK (cm nM (pv 4) (pv 4)) aO))))))
  (aX (fm (pv 2)))),?_⟩
 refine ⟨_,rfl,a,_,rfl, .inl hS,_,_,rfl,_,_,rfl,_,rfl,?_⟩;have hl:(ns.map V.int).length=ns.length:=aN _;rw [hl]
 have hb:(if (if (ns.length:Int)<63 then (ns.length:Int) else 63)>12 then (if (ns.length:Int)<63 then (ns.length:Int) else 63) else 12)≤63∧0≤(if (if (ns.length:Int)<63 then (ns.length:Int) else 63)>12 then (if (ns.length:Int)<63 then (ns.length:Int) else 63) else (12:Int)):=by
  repeat' split
  all_goals omega
 generalize (if (if (ns.length:Int)<63 then (ns.length:Int) else 63)>12 then (if (ns.length:Int)<63 then (ns.length:Int) else 63) else (12:Int))=n at hb;refine ⟨by omega,by omega,kG (λi σ H'=>∃num o3 o4,σ= [some (.ref a),some (.int k),some (.int num),o3,o4]∧aC H H') ⟨_,_,_,rfl,aC.refl _⟩ (λi σ H' hi hP=>?_) (λσ H' hP=>?_)⟩
 ·obtain ⟨num,o3,o4,rfl,sm⟩:=hP
  have hz:(0:Int)+(i:Int)=(i:Int):=by omega
  refine ⟨_,rfl,_,rfl,a,ns,_,rfl,sm.seq hS,oX,by omega,by omega,λv H2 MD=>?_⟩
  refine ⟨_,_,rfl,rfl,(by show (0:Int)<2147483647;decide),?_⟩
  refine ⟨_,rfl,_,_,rfl,rfl, .inl ⟨by decide,by decide⟩,_,_,rfl,rfl,?_⟩
  refine ⟨_,rfl,_,_,rfl,rfl, .inl ⟨by decide,by decide⟩,_,_,rfl,rfl,_,_,rfl,rfl,?_⟩
  refine ⟨_,_,rfl,rfl, .inr ⟨by decide,by decide⟩,_,_,rfl,rfl,(by show (0:Int)<2147483647;decide),?_⟩
  generalize IY:((v%2147483647+40692*(0+(i:Int))+7*k+1)*48271)%2147483647=part;have p0:0≤part:=by rw [←IY];exact Int.emod_nonneg _ (by decide)
  have p1:part<2147483647:=by rw [←IY];exact Int.emod_lt_of_pos _ (by decide)
  refine ⟨_,rfl,_,_,rfl,rfl, .inr ⟨by decide,by decide⟩,?_⟩
  refine ⟨_,rfl,_,rfl,_,_,rfl,rfl, .inl ⟨by omega,by omega⟩,_,_,rfl,rfl,(by show (0:Int)<2147483629;decide),_,_,rfl,rfl,?_⟩
  exact ⟨_,_,_,rfl,sm.trans MD⟩
 ·obtain ⟨num,o3,o4,rfl,sm⟩:=hP
  exact ⟨_,rfl,q _ _ sm⟩
def GN(K:PySem.W.Frag):Sp:=λvs H Q _=>∃(a:Addr)(ns:List Int)(k:Int),vs= [.ref a, .int k]∧aH K H a (ns.map V.int)∧ns.length≤63∧0≤k∧k≤100∧
 ∀(r:Addr)(ds:List Int)(H':Hp),aC H H'→H r=none→H' r=some (.lst (ds.map V.int))→ds≠ []→ds.length≤2→Q (.ref r) H'
theorem GJ:aL ["_law_script","_law_at"] ["_law_script","_law_at"] (ao vI):=⟨rfl,rfl,rfl,by decide+kernel,rfl,by decide+kernel,by decide+kernel⟩
theorem C3(B:wG mg)(C:bX K mg "_law_cell" vH ["_law_script","_law_k"])(M:bX K mg "_law_mixed" ub ["_law_script","_law_turn"])(D:bX K mg "_law_digits" vI ["_law_script","_law_at"]):FnOk P w K mg base cq 3 D.f D.fd ["_law_script","_law_at"] (GN K):=by
 refine D.F.ok GJ (λvs H Q E h=>?_) (λbu A outer s H vs Q E hr h=>?_)
 ·obtain ⟨a,ns,k,rfl,_⟩:=h
  rfl
 obtain ⟨a,ns,k,rfl,hS,oX,h0,h1,q⟩:=h;have gC:=(vt (P:=P) (w:=w) (base:=base) C).mono (show 1≤2 by decide)
 have gM:=Gm (P:=P) (w:=w) (base:=base) B C M
 refine ⟨_,az (vC (ic C5 (bh gC hr rfl C.m C.F.kp C.b .nil bY (ae (pv 0) (ae (pv 1) aq))) (cm Md aO aO) (br _))
   (aX (fm (dF (ae (bh gM hr rfl M.m M.F.kp M.b .nil bY (ae (pv 0) (ae (pv 1) aq))) aq)))) mF)
  (aX (fm (dF (ae (bh gC hr rfl C.m C.F.kp C.b .nil bY (ae (pv 0) (ae (pv 1) aq))) (ae (bh gM hr rfl M.m M.F.kp M.b .nil bY (ae (pv 0) (ae (pv 1) aq))) aq))))),?_⟩
 refine ⟨_,rfl,_,rfl,a,ns,k,rfl,hS,oX,h0,h1,λv H1 s1=>?_⟩;refine ⟨_,_,rfl,rfl,⟨by decide,by decide,by decide⟩,_,_,rfl,rfl,_,rfl,?_⟩
 refine sN (λ_=>?_) (λ_=>?_)
 ·refine ⟨_,rfl,_,rfl,a,ns,k,rfl,s1.seq hS,oX,λv2 H2 s2=>?_⟩
  refine ⟨by show 1≤sizeLine;decide,λr gW=>?_⟩
  have Ki:=s1.trans s2;exact q r [v2] _ (Ki.trans (av gW _)) (Ki.free gW) aa (by simp) (by simp)
 ·refine ⟨_,rfl,_,rfl,a,ns,k,rfl,s1.seq hS,oX,h0,h1,λv2 H2 s2=>?_⟩
  refine ⟨_,rfl,_,rfl,a,ns,k,rfl,(s1.trans s2).seq hS,oX,λv3 H3 s3=>?_⟩;refine ⟨by show 2≤sizeLine;decide,λr gW=>?_⟩
  have Xn:=(s1.trans s2).trans s3;exact q r [v2,v3] _ (Xn.trans (av gW _)) (Xn.free gW) aa (by simp) (by simp)
def MM:Sp:=λvs H Q _=>∃(l:Addr)(ns:List Int)(m:Int),vs= [.ref l, .int m]∧H l=some (.lst (ns.map V.int))∧ns≠ []∧ns.length≤1000∧0<m∧m<1073741824∧
 ∀(d:Int)(ds:List Int),0≤d→d<m→ds≠ []→ds.length≤ns.length→Q (.int d) (upd H l (.lst (ds.map V.int)))
theorem ES:aL ["_law_left","_law_many","_law_digit"] ["_law_left","_law_many"] (ao r8):=⟨rfl,rfl,rfl,by decide+kernel,rfl,by decide+kernel,by decide+kernel⟩
theorem qs(B:wG mg)(D:bX K mg "_law_take" r8 ["_law_left","_law_many"]):FnOk P w K mg base cq 1 D.f D.fd ["_law_left","_law_many"] MM:=by
 refine D.F.ok ES (λvs H Q E h=>?_) (λbu A outer s H vs Q E hr h=>?_)
 ·obtain ⟨a,ns,k,rfl,_⟩:=h
  rfl
 obtain ⟨l,ns,m,rfl,hl,mn,hz,h0,h1,q⟩:=h;have nd:=ES.nd
 refine ⟨_,az (vC (PW.pt (EJ (ic C5 (b9 bx (pv 0) aO (λ_ _=>rfl)) aO (br _)) (Bh (ic JX (b8 cc rfl B.len PySem.boot_len (ae (pv 0) aq)) aO (br _)))))
   (aX (cN (dZ PySem.F.plainAttrs_list PySem.F.slot_list_pop PySem.F.type_list_pop Ge (pv 0) (ae aO aq)))) mF)
  (az (bP (i:=2) nd rfl (Or.inl rfl) (cm nK (b9 bx (pv 0) aO (λ_ _=>rfl)) (pv 1)))
  (az (nP (cm JW (b9 bx (pv 0) aO (λ_ _=>rfl)) (pv 1)) (zy (pv 0) aO set_list))
  (aX (fm (pv 2))))),?_⟩
 have fin:∀(ms:List Int),ms≠ []→ms.length≤ns.length→∀H1,H1=H∨H1=upd H l (.lst (ms.map V.int))→H1 l=some (.lst (ms.map V.int))→
   (KA (EZ (zM (rI (λ_ j=>0<j) λi j=>V.int (i%j)) (zM (EK K) (tj 0) (tC (.int 0))) (tj 1)) (uM 2)) (KA (EZ (zM (rI M8 λi j=>V.int (i / j)) (zM (EK K) (tj 0) (tC (.int 0))) (tj 1)) (NR (tj 0) (tC (.int 0)) Kb)) (OC (tj 2))))
    {nx:=λ_ H'=>Q .aM H',rt:=Q} (start ["_law_left","_law_many","_law_digit"] [.ref l, .int m]) H1:=by
  intro ms hms Lu H1 Z5 e1
  obtain ⟨x,r,rfl⟩:∃x r,ms=x::r:=by
   cases ms with
   |nil=>exact absurd rfl hms
   |cons x r=>exact ⟨x,r,rfl⟩
  refine ⟨_,rfl,l,_,0, .int x,rfl,rfl,aH.of e1,ck (j:=0) rfl,_,rfl,_,_,rfl,rfl,h0,?_⟩;refine ⟨_,rfl,l,_,0, .int x,rfl,rfl,aH.of e1,ck (j:=0) rfl,_,rfl,_,_,rfl,rfl,⟨h0,h1⟩,?_⟩;refine ⟨_,rfl,l,_,0,0,rfl,rfl,e1,?_,?_⟩
  ·show iw (r.length+1|>λn=>((x::r).map V.int).length) 0=some 0
   unfold iw;rw [if_pos (by decide),if_pos (by simp)]
   rfl
  ·refine ⟨_,rfl,?_⟩
   have e2:upd H1 l (.lst (((x::r).map V.int).set 0 (.int (x / m))))=upd H l (.lst (((x / m)::r).map V.int)):=by
    rcases Z5 with z|z
    ·rw [z];rfl
    ·rw [z,qM];rfl
   rw [e2];exact q (x%m) ((x / m)::r) (Int.emod_nonneg _ (by omega)) (Int.emod_lt_of_pos _ h0) (by simp) (by simpa using Lu)
 obtain ⟨x,r,rfl⟩:∃x r,ns=x::r:=by
  cases ns with
  |nil=>exact absurd rfl mn
  |cons x r=>exact ⟨x,r,rfl⟩
 refine ⟨_,rfl,l,_,0, .int x,rfl,rfl,aH.of hl,ck (j:=0) rfl,_,_,rfl,rfl,_,rfl,?_⟩;refine sN (λ_=>?_) (λ_=>?_)
 ·refine ⟨_,rfl,l,_,rfl, .inl (aH.of hl),_,_,rfl,rfl,_,rfl,?_⟩
  refine sN (λc=>?_) (λ_=>?_)
  ·have c':=of_decide_eq_true c
   have hr2:r≠ []:=by
    intro z;subst z;simp at c'
   refine ⟨_,rfl, .inl ⟨rfl,_,aH.of hl⟩,l,_,0,0, .int x,rfl,rfl,hl,by decide,by decide,?_,rfl,?_⟩
   ·simp [seqIndex?]
   ·exact fin r hr2 (by simp) _ (.inr rfl) aa
  ·exact fin (x::r) (by simp) (aV _) _ (.inl rfl) hl
 ·exact fw (fin (x::r) (by simp) (aV _) _ (.inl rfl) hl)
end
end ug
namespace Wb
abbrev Dt:=Nat×Nat
def oO(w:W):Dt→List Dt→Dt→Prop
 |x,[],y=>x=y
 |x,a::l,y=>x=a∧oO w (bC w a) l y
theorem fI{w:W}:∀{l m:List Dt}{x z:Dt},oO w x (l++m) z↔∃y,oO w x l y∧oO w y m z
 | [],m,x,z=>⟨λh=>⟨x,rfl,h⟩,λ⟨y,e,h⟩=>by have e:x=y:=e;subst e;exact h⟩
 |a::l,m,x,z=>⟨λ⟨e,h⟩=>let ⟨y,h1,h2⟩:=fI.mp h;⟨y,⟨e,h1⟩,h2⟩,λ⟨y,⟨e,h1⟩,h2⟩=>⟨e,fI.mpr ⟨y,h1,h2⟩⟩⟩
theorem vX(w:W)(d:Dt)(n:Nat):walk w d (n+1)=d::walk w (bC w d) n:=by
 refine oJ λi=>?_;cases i with
 |zero=>rw [fM (by omega)];rfl
 |succ i=>
  rw [qS]
  by_cases h:i<n
  ·rw [fM (by omega),fM h]
   exact congrArg some (eC (w:=w) (d:=d) 1 i)
  ·rw [pO (by omega),pO h]
theorem nQ{w:W}:∀{l:List Dt}{x y:Dt},oO w x l y↔l=walk w x l.length∧y=bH w l.length x
 | [],x,y=>⟨λh=>⟨rfl,(show x=y from h).symm⟩,λh=>h.2.symm⟩
 |a::l,x,y=>by
  have ie:bH w (l.length+1) x=bH w l.length (bC w x):=eC (w:=w) (d:=x) 1 l.length
  constructor
  ·rintro ⟨rfl,h⟩
   obtain ⟨h1,h2⟩:=nQ.mp h;rw [cp,vX,ie];exact ⟨congrArg (x::·) h1,h2⟩
  ·rintro ⟨h1,h2⟩
   rw [cp,vX] at h1;obtain ⟨e1,e2⟩:=List.cons.inj h1;rw [cp,ie] at h2;subst e1;exact ⟨rfl,nQ.mpr ⟨e2,h2⟩⟩
theorem fA.J5{w:W}{d:Dt}{r:List Dt}(h:fA w d r):oO w d r d:=by
 obtain ⟨k,k0,k1,k2,rfl⟩:=h;exact nQ.mpr ⟨by rw [fu],by rw [fu,k1]⟩
theorem nS{w:W}{d:Dt}{r:List Dt}(h:oO w d r d)(ne:r≠ [])(nd:r.Nodup):fA w d r:=by
 obtain ⟨h1,h2⟩:=nQ.mp h;refine ⟨r.length,BP.mpr ne,h2.symm,λj j0 jl z=>?_,h1⟩;have a:r[j]? =some (bH w j d):=by rw [h1];exact fM jl
 have b:r[0]? =some (bH w 0 d):=by rw [h1];exact fM (by omega)
 rw [z] at a;have b:r[0]? =some d:=b
 have:=(List.getElem?_inj (by omega:j<r.length) nd).mp (a.trans b.symm)
 omega
theorem rS{w v:W}:∀{l:List Dt}{x y:Dt},oO w x l y→(∀e∈l,bC v e=bC w e)→oO v x l y
 | [],x,y,h,_=>h
 |a::l,x,y,⟨e,h⟩,k=>⟨e,by rw [k a (cC ..)];exact rS h λe he=>k e (cA _ he)⟩
theorem eH{w v:W}{l:List Dt}{x y y' z:Dt}(h:oO w x (l++ [z]) y)(k:∀e∈l,bC v e=bC w e)(hz:bC v z=y'):oO v x (l++ [z]) y'∧bC w z=y:=by
 obtain ⟨m,h1,h2,h3⟩:=fI.mp h;have h3:bC w z=y:=h3;exact ⟨fI.mpr ⟨m,rS h1 k,h2,hz⟩,h3⟩
theorem gY{α:Type}{l:List α}(h:l≠ []):∃a z,l=a++ [z]:=⟨l.dropLast,l.getLast h,(List.dropLast_concat_getLast h).symm⟩
theorem GO{r u:Nat}{t:List Nat}(nd:(u::r::t).Nodup):aI (u::r::t) u=r∧∀x∈r::t,aI (u::r::t) x=if aI (r::t) x=r then u else aI (r::t) x:=by
 have n9:=(fz.mp nd).2;refine ⟨fX (a:= []) nd,λx hx=>?_⟩;obtain ⟨b,z,e⟩:=gY (l:=r::t) (by simp)
 have lz:aI (r::t) z=r:=by
  cases t with
  |nil=>
   have:b= []∧z=r:=by
    cases b with
    |nil=>simp at e;exact ⟨rfl,e.symm⟩
    |cons a b=>simp at e
   rw [this.2];unfold aI;simp
  |cons a t=>
   cases b with
   |nil=>simp at e
   |cons c b=>
    have e':a::t=b++ [z]:=(List.cons.inj e).2
    have:=ij (b:=b) (x:=z) (y:=r) (by rw [←e'];exact n9)
    rw [e'];exact this
 have zm:z∈r::t:=by rw [e];simp
 by_cases c:x=z
 ·subst c
  rw [if_pos lz]
  have:=ij (b:=b) (x:=x) (y:=u) (by rw [←e];exact nd)
  rw [e];exact this
 ·rw [if_neg (λh=>c (vV n9 hx zm (h.trans lz.symm)))]
  refine tZ nd hx ?_;rw [e];intro h;apply c;rw [h,eS,dS,jt (by simp),show b.length+ [z].length-1-b.length=0 by simp];rfl
def Hb(l l':List Nat)(r u:Nat):Prop:=∃a t b,l=b++a∧a++b=r::t∧∃a' b',l'=b'++a'∧a'++b'=u::r::t
theorem Hb.succ{l l':List Nat}{r u:Nat}(P:Hb l l' r u)(nd:l.Nodup)(nu:u∉l):aI l' u=r∧(∀x∈l,aI l' x=if aI l x=r then u else aI l x)∧l'.Nodup∧(∀x,x∈l'↔x=u∨x∈l)∧r∈l:=by
 obtain ⟨a,t,b,rfl,e1,a',b',rfl,e2⟩:=P;have p1:(b++a).Perm (r::t):=by rw [←e1];exact wC
 have p2:(b'++a').Perm (u::r::t):=by rw [←e2];exact wC
 have n1:(r::t).Nodup:=p1.nodup_iff.mp nd;have n2:(u::r::t).Nodup:=fz.mpr ⟨λz=>nu (p1.mem_iff.mpr z),n1⟩;obtain ⟨s1,s2⟩:=GO n2
 have r1:∀x∈r::t,aI (b++a) x=aI (r::t) x:=λx hx=>by
  have:=pK (a:=a) (b:=b) (x:=x) (by rw [e1];exact n1) (by rw [e1];exact hx)
  rw [this,e1]
 have r2:∀x∈u::r::t,aI (b'++a') x=aI (u::r::t) x:=λx hx=>by
  have:=pK (a:=a') (b:=b') (x:=x) (by rw [e2];exact n2) (by rw [e2];exact hx)
  rw [this,e2]
 refine ⟨by rw [r2 u (by simp),s1],λx hx=>?_,p2.nodup_iff.mpr n2,λx=>?_,p1.mem_iff.mpr (by simp)⟩
 ·have hx:=p1.mem_iff.mp hx
  rw [r2 x (cA _ hx),r1 x hx,s2 x hx]
 ·rw [p2.mem_iff,bV,p1.mem_iff]
theorem vE{l:List Nat}{i u r:Nat}(h:l[i]? =some r):Hb l (ins l i u) r u:=by
 obtain ⟨hi,e⟩:=cF.mp h;have hd:l.drop i=r::l.drop (i+1):=by rw [qQ hi,e]
 refine ⟨l.drop i,l.drop (i+1)++l.take i,l.take i,(kq ..).symm,by rw [hd];rfl,u::l.drop i,l.take i,rfl,by rw [hd];rfl⟩
theorem J6{l:List Nat}{u r:Nat}(h:l[0]? =some r):Hb l (ins l l.length u) r u:=by
 cases l with
 |nil=>simp at h
 |cons a t=>
  simp at h;subst h;refine ⟨a::t,t,[],rfl,by simp,[u],a::t,?_,rfl⟩
  unfold ins;simp
def sh(w:W)(rs:List (List Dt)):Prop:=∀r∈rs,∃d,fA w d r∧aE w d
def Fc(w:W)(n:Nat):Prop:=∃rs,sh w rs∧rs.flatten.Perm (aQ w)∧rs.length=n
theorem FC{α:Type}(a:List (List α))(r:List α)(b:List (List α)):(a++r::b).flatten.Perm (r++(a++b).flatten):=by
 rw [yv,yv,m8,←m7,←m7];exact List.Perm.append_right _ wC
theorem pF{w:W}(g:Good w){rs:List (List Dt)}(h:sh w rs){d:Dt}(hm:d∈rs.flatten):∃r1 rest,fA w d r1∧aE w d∧(r1++rest.flatten).Perm rs.flatten∧sh w rest∧rest.length+1=rs.length:=by
 obtain ⟨r,hr,hd⟩:=qW.mp hm;obtain ⟨e,Re,de⟩:=h r hr;obtain ⟨i,hi,ei⟩:=List.mem_iff_getElem.mp hd;have gi:r.getD i (0,0)=d:=by rw [eS,dh hi];exact ei
 have R1:=Re.rot g de hi;rw [gi] at R1;obtain ⟨a,b,rfl⟩:=List.append_of_mem hr
 have pr:(r.drop i++r.take i).Perm r:=by
  have:=wC (l₁:=r.drop i) (l₂:=r.take i)
  rwa [kq] at this
 refine ⟨_,a++b,R1,Re.aQ g de d hd,?_,λx hx=>h x ?_,by simp;omega⟩
 ·exact (pr.append_right _).trans (FC a r b).symm
 ·rcases cw.mp hx with hx|hx
  ·exact gh _ hx
  ·exact cY _ (cA _ hx)
theorem sh.dart{w:W}(g:Good w){rs:List (List Dt)}(h:sh w rs):∀e∈rs.flatten,aE w e:=λe he=>by
 obtain ⟨r,hr,PY⟩:=qW.mp he;obtain ⟨d,R,dd⟩:=h r hr;exact R.aQ g dd e PY
theorem sh.keep{w v:W}(g:Good w){rs:List (List Dt)}(h:sh w rs)(k:∀e∈rs.flatten,bC v e=bC w e)(dv:∀d,aE w d→aE v d):sh v rs:=λr hr=>by
 obtain ⟨d,R,dd⟩:=h r hr;refine ⟨d,nS (rS R.J5 λe he=>k e (qW.mpr ⟨r,hr,he⟩)) (λz=>?_) (R.nodup g dd),dv d dd⟩
 have:=R.first
 rw [z] at this;cases this
theorem Ic{w v:W}{p r n:Nat}(g:Good w)(gv:Good v)(hd:aE w (p,r))(hn:n=w.length)
  (k0:∀e,aE w e→bC w e≠(p,r)→bC v e=bC w e) (k1:∀e,aE w e→bC w e=(p,r)→bC v e=(p,n)) (k2:bC v (p,n)=(n,p)) (k3:bC v (n,p)=(p,r))
  (dv:∀d,aE v d↔d=(p,n)∨d=(n,p)∨aE w d) {c:Nat} (h:Fc w c):Fc v c:=by
 obtain ⟨rs,hA,pm,hl⟩:=h;obtain ⟨r1,rest,R1,_,p1,hR,l1⟩:=pF g hA (pm.mem_iff.mpr (aK.mpr hd));have pw:=p1.trans pm;have nd:=pw.nodup_iff.mpr (bA g);obtain ⟨rN,n9,vk⟩:=cJ.mp nd;have ne1:r1≠ []:=λz=>by have:=R1.first;rw [z] at this;cases this
 obtain ⟨a0,z,ez⟩:=gY ne1;have P1:=R1.J5;rw [ez] at P1;have hz:bC w z=(p,r):=(eH (v:=w) P1 (λ_ _=>rfl) rfl).2;have m1:∀e∈r1,aE w e:=λe he=>aK.mp (pw.mem_iff.mp (gh _ he));have zm:z∈r1:=by rw [ez];simp
 have pre:∀e,aE w e→bC w e=(p,r)→e=z:=λe he h=>kc g he (m1 z zm) (h.trans hz.symm)
 have nz0:z∉a0:=λh=>by
  rw [ez] at rN;exact (cJ.mp rN).2.2 z h z (by simp) rfl
 have Q1:=(eH (v:=v) P1 (λe he=>k0 e (m1 e (by rw [ez];exact gh _ he)) λh=>nz0 (by rw [←pre e (m1 e (by rw [ez];exact gh _ he)) h];exact he)) (k1 z (m1 z zm) hz)).1
 rw [←ez] at Q1;have Q:oO v (p,r) (r1++ [(p,n),(n,p)]) (p,r):=fI.mpr ⟨_,Q1,rfl,k2,k3⟩
 have nw:∀d,aE w d→d≠(p,n)∧d≠(n,p):=λd h=>⟨λz=>by
  have:=g.rng _ _ h;rw [z] at this;have:n<w.length:=this;omega,λz=>by
  have:=cQ h;rw [z] at this;have:n<w.length:=this;omega⟩
 have pn:p≠n:=by have:=cQ hd;have:p<w.length:=this;omega
 have V4:(r1++ [(p,n),(n,p)]).Nodup:=by
  rw [cJ];refine ⟨rN,?_,λa ha b hb e=>?_⟩
  ·rw [fz]
   exact ⟨λh=>by rw [eE] at h;exact pn (Prod.mk.inj h).1,by simp⟩
  ·rcases bV.mp hb with hb|hb
   ·exact (nw a (m1 a ha)).1 (e.trans hb)
   ·rw [eE] at hb;exact (nw a (m1 a ha)).2 (e.trans hb)
 refine ⟨(r1++ [(p,n),(n,p)])::rest,λx hx=>?_,?_,by rw [cp];omega⟩
 ·rcases bV.mp hx with rfl|hx
  ·exact ⟨_,nS Q (by simp) V4,(dv _).mpr (.inr (.inr hd))⟩
  ·refine hR.keep g (λe he=>k0 e (hR.dart g e he) λh=>?_) (λd h=>(dv d).mpr (.inr (.inr h))) x hx
   have:=pre e (hR.dart g e he) h
   exact vk z zm e he this.symm
 ·refine (qP ?_ (bA gv)).mpr λd=>?_
  ·rw [m8,cJ]
   refine ⟨V4,n9,λa ha b hb e=>?_⟩
   rcases cw.mp ha with ha|ha
   ·exact vk a ha b hb e
   ·have:=nw b (hR.dart g b hb)
    rcases bV.mp ha with ha|ha
    ·exact this.1 (e.symm.trans ha)
    ·rw [eE] at ha;exact this.2 (e.symm.trans ha)
  ·rw [aK,dv,m8,cw,cw,←aK (w:=w),←pw.mem_iff,cw]
   simp only [bV,List.not_mem_nil,or_false]
   constructor
   ·rintro ((h|h|h) |h)
    ·exact .inr (.inr (.inl h))
    ·exact .inl h
    ·exact .inr (.inl h)
    ·exact .inr (.inr (.inr h))
   ·rintro (h|h|h|h)
    ·exact .inl (.inr (.inl h))
    ·exact .inl (.inr (.inr h))
    ·exact .inl (.inl h)
    ·exact .inr h
theorem Lo{w x:W}{p r u v:Nat}(g:Good w)(gx:Good x)(hp:aE w (p,r))(hu:aE w (u,v))(pu:p≠u)(nt:¬aE w (p,u))
  (k0:∀e,aE w e→bC w e≠(p,r)→bC w e≠(u,v)→bC x e=bC w e) (k1:∀e,aE w e→bC w e=(p,r)→bC x e=(p,u)) (k2:∀e,aE w e→bC w e=(u,v)→bC x e=(u,p))
  (k3:bC x (p,u)=(u,v)) (k4:bC x (u,p)=(p,r)) (dx:∀d,aE x d↔d=(p,u)∨d=(u,p)∨aE w d) {c:Nat} (h:Fc w c):
  (Fc x (c+1)∨(Fc x (c-1)∧2≤c))∧((∃r1,fA w (p,r) r1∧(u,v)∈r1)→Fc x (c+1)):=by
 obtain ⟨rs,hA,pm,hl⟩:=h;obtain ⟨r1,rest,R1,_,p1,hR,l1⟩:=pF g hA (pm.mem_iff.mpr (aK.mpr hp));have pw:=p1.trans pm;have nd:=pw.nodup_iff.mpr (bA g);obtain ⟨rN,n9,vk⟩:=cJ.mp nd;have L4:¬aE w (u,p):=λh=>nt (g.sym _ _ h);have nw:∀d,aE w d→d≠(p,u)∧d≠(u,p):=λd h=>⟨λz=>nt (z▸h),λz=>L4 (z▸h)⟩;have m1:∀e∈r1,aE w e:=λe he=>aK.mp (pw.mem_iff.mp (gh _ he));have upv:(p,r)≠(u,v):=λz=>pu (Prod.mk.inj z).1;have LZ:(p,u)≠((u,p):Dt):=λz=>pu (Prod.mk.inj z).1;have up:∀d,aE w d→aE x d:=λd h=>(dx d).mpr (.inr (.inr h))
 have one:(u,v)∈r1→Fc x (c+1):=λhv=>by
  obtain ⟨a,b,e1⟩:=List.append_of_mem hv;have P1:=R1.J5;rw [e1] at P1;obtain ⟨y,Pa,Pb⟩:=fI.mp P1;obtain rfl:y=(u,v):=Pb.1;have YS:a≠ []:=λz=>by subst z;exact upv Pa
  obtain ⟨a0,za,ea⟩:=gY YS;obtain ⟨b0,zb,eb⟩:=gY (l:=(u,v)::b) (by simp)
  have OJ:=Pa;rw [ea] at OJ;have OK:=Pb;rw [eb] at OK;have Jd:bC w za=(u,v):=(eH (v:=w) OJ (λ_ _=>rfl) rfl).2;have Je:bC w zb=(p,r):=(eH (v:=w) OK (λ_ _=>rfl) rfl).2;have nda:(a++(u,v)::b).Nodup:=e1▸rN;obtain ⟨na,nb,QL⟩:=cJ.mp nda;have ma:∀e∈a,e∈r1:=λe he=>by rw [e1];exact gh _ he
  have mb:∀e∈(u,v)::b,e∈r1:=λe he=>by rw [e1];exact cY _ he
  have zU:za∈a:=by rw [ea];simp
  have zV:zb∈(u,v)::b:=by rw [eb];simp
  have Dh:∀e,aE w e→bC w e=(u,v)→e=za:=λe he h=>kc g he (m1 _ (ma _ zU)) (h.trans Jd.symm);have Dj:∀e,aE w e→bC w e=(p,r)→e=zb:=λe he h=>kc g he (m1 _ (mb _ zV)) (h.trans Je.symm);have QK:za∉a0:=λh=>by rw [ea] at na;exact (cJ.mp na).2.2 za h za (by simp) rfl
  have QM:zb∉b0:=λh=>by rw [eb] at nb;exact (cJ.mp nb).2.2 zb h zb (by simp) rfl
  have Qa:=(eH (v:=x) OJ (λe he=>by
   have yQ:e∈a:=by rw [ea];exact gh _ he
   exact k0 e (m1 _ (ma e yQ)) (λh=>QL e yQ zb zV (Dj e (m1 _ (ma e yQ)) h)) λh=>QK (Dh e (m1 _ (ma e yQ)) h▸he)) (k2 za (m1 _ (ma _ zU)) Jd)).1
  have Qb:=(eH (v:=x) OK (λe he=>by
   have yR:e∈(u,v)::b:=by rw [eb];exact gh _ he
   exact k0 e (m1 _ (mb e yR)) (λh=>QM (Dj e (m1 _ (mb e yR)) h▸he)) λh=>QL za zU e yR (Dh e (m1 _ (mb e yR)) h).symm) (k1 zb (m1 _ (mb _ zV)) Je)).1
  rw [←ea] at Qa;rw [←eb] at Qb;have Ra:oO x (p,r) (a++ [(u,p)]) (p,r):=fI.mpr ⟨_,Qa,rfl,k4⟩;have Rb:oO x (u,v) ((u,v)::b++ [(p,u)]) (u,v):=fI.mpr ⟨_,Qb,rfl,k3⟩;have Od:(a++ [(u,p)]).Nodup:=cJ.mpr ⟨na,by simp,λe he f hf z=>by rw [eE] at hf;exact (nw e (m1 _ (ma e he))).2 (z.trans hf)⟩
  have Oe:((u,v)::b++ [(p,u)]).Nodup:=cJ.mpr ⟨nb,by simp,λe he f hf z=>by rw [eE] at hf;exact (nw e (m1 _ (mb e he))).1 (z.trans hf)⟩
  refine ⟨(a++ [(u,p)])::((u,v)::b++ [(p,u)])::rest,λy hy=>?_,?_,by rw [cp,cp];omega⟩
  ·rcases bV.mp hy with rfl|hy
   ·exact ⟨_,nS Ra (by simp) Od,up _ hp⟩
   ·rcases bV.mp hy with rfl|hy
    ·exact ⟨_,nS Rb (by simp) Oe,up _ hu⟩
    ·refine hR.keep g (λe he=>k0 e (hR.dart g e he) (λh=>?_) λh=>?_) up y hy
     ·exact vk zb (mb _ zV) e he (Dj e (hR.dart g e he) h).symm
     ·exact vk za (ma _ zU) e he (Dh e (hR.dart g e he) h).symm
  ·refine (qP ?_ (bA gx)).mpr λd=>?_
   ·rw [m8,m8,cJ]
    refine ⟨Od,cJ.mpr ⟨Oe,n9,λe he f hf z=>?_⟩,λe he f hf z=>?_⟩
    ·rcases cw.mp he with he|he
     ·exact vk e (mb e he) f hf z
     ·rw [eE] at he;exact (nw f (hR.dart g f hf)).1 (z.symm.trans he)
    ·rcases cw.mp hf with hf|hf
     ·rcases cw.mp hf with hf|hf
      ·rcases cw.mp he with he|he
       ·exact QL e he f hf z
       ·rw [eE] at he;exact (nw f (m1 _ (mb f hf))).2 (z.symm.trans he)
      ·rw [eE] at hf
       rcases cw.mp he with he|he
       ·exact (nw e (m1 _ (ma e he))).1 (z.trans hf)
       ·rw [eE] at he;exact LZ (hf.symm.trans (z.symm.trans he))
     ·rcases cw.mp he with he|he
      ·exact vk e (ma e he) f hf z
      ·rw [eE] at he;exact (nw f (hR.dart g f hf)).2 (z.symm.trans he)
   ·rw [aK,dx,←aK (w:=w),←pw.mem_iff,e1]
    simp only [m8,cw,bV,List.not_mem_nil,or_false]
    constructor
    ·rintro ((h|h) | ((h|h) |h) |h)
     ·exact .inr (.inr (.inl (.inl h)))
     ·exact .inr (.inl h)
     ·exact .inr (.inr (.inl (.inr (.inl h))))
     ·exact .inr (.inr (.inl (.inr (.inr h))))
     ·exact .inl h
     ·exact .inr (.inr (.inr h))
    ·rintro (h|h| (h|h|h) |h)
     ·exact .inr (.inl (.inr h))
     ·exact .inl (.inr h)
     ·exact .inl (.inl h)
     ·exact .inr (.inl (.inl (.inl h)))
     ·exact .inr (.inl (.inl (.inr h)))
     ·exact .inr (.inr h)
 refine ⟨?_,λ⟨r1',OL,hv⟩=>one (by rw [R1.uniq OL];exact hv)⟩
 by_cases hv:(u,v)∈r1
 ·exact .inl (one hv)
 ·refine .inr ?_
  have hvr:(u,v)∈rest.flatten:=by
   have:=pw.mem_iff.mpr (aK.mpr hu)
   exact (cw.mp this).resolve_left hv
  obtain ⟨r2,Kd,R2,_,p2,Iu,l2⟩:=pF g hR hvr;have GB:(r1++(r2++Kd.flatten)).Perm (aQ w):=(p2.append_left r1).trans pw;have ndw:=GB.nodup_iff.mpr (bA g);obtain ⟨_,V0,JC⟩:=cJ.mp ndw;obtain ⟨QP,QS,V1⟩:=cJ.mp V0;have m2:∀e∈r2,aE w e:=λe he=>aK.mp (GB.mem_iff.mp (cY _ (gh _ he)));have ne1:r1≠ []:=λz=>by have:=R1.first;rw [z] at this;cases this
  have ne2:r2≠ []:=λz=>by have:=R2.first;rw [z] at this;cases this
  obtain ⟨a0,za,ea⟩:=gY ne1;obtain ⟨b0,zb,eb⟩:=gY ne2;have P1:=R1.J5;rw [ea] at P1;have P2:=R2.J5;rw [eb] at P2;have Jd:bC w za=(p,r):=(eH (v:=w) P1 (λ_ _=>rfl) rfl).2;have Je:bC w zb=(u,v):=(eH (v:=w) P2 (λ_ _=>rfl) rfl).2;have zU:za∈r1:=by rw [ea];simp
  have zV:zb∈r2:=by rw [eb];simp
  have Dh:∀e,aE w e→bC w e=(p,r)→e=za:=λe he h=>kc g he (m1 _ zU) (h.trans Jd.symm);have Dj:∀e,aE w e→bC w e=(u,v)→e=zb:=λe he h=>kc g he (m2 _ zV) (h.trans Je.symm);have QK:za∉a0:=λh=>by rw [ea] at rN;exact (cJ.mp rN).2.2 za h za (by simp) rfl
  have QM:zb∉b0:=λh=>by rw [eb] at QP;exact (cJ.mp QP).2.2 zb h zb (by simp) rfl
  have Rz:∀e∈r1,∀f∈r2,e≠f:=λe he f hf=>JC e he f (gh _ hf)
  have Qa:=(eH (v:=x) P1 (λe he=>by
   have yQ:e∈r1:=by rw [ea];exact gh _ he
   exact k0 e (m1 e yQ) (λh=>QK (Dh e (m1 e yQ) h▸he)) λh=>Rz e yQ zb zV (Dj e (m1 e yQ) h)) (k1 za (m1 _ zU) Jd)).1
  have Qb:=(eH (v:=x) P2 (λe he=>by
   have yR:e∈r2:=by rw [eb];exact gh _ he
   exact k0 e (m2 e yR) (λh=>Rz za zU e yR (Dh e (m2 e yR) h).symm) λh=>QM (Dj e (m2 e yR) h▸he)) (k2 zb (m2 _ zV) Je)).1
  rw [←ea] at Qa;rw [←eb] at Qb;have Q:oO x (p,r) (r1++((p,u)::(r2++ [(u,p)]))) (p,r):=fI.mpr ⟨_,Qa,rfl,by rw [k3];exact fI.mpr ⟨_,Qb,rfl,k4⟩⟩
  have N7:∀e,e∈r1++((p,u)::(r2++ [(u,p)]))↔e∈r1∨e=(p,u)∨e∈r2∨e=(u,p):=λe=>by simp
  have V3:(r1++((p,u)::(r2++ [(u,p)]))).Nodup:=by
   refine cJ.mpr ⟨rN,fz.mpr ⟨λh=>?_,cJ.mpr ⟨QP,by simp,λe he f hf z=>?_⟩⟩,λe he f hf z=>?_⟩
   ·rcases cw.mp h with h|h
    ·exact (nw _ (m2 _ h)).1 rfl
    ·rw [eE] at h;exact LZ h
   ·rw [eE] at hf;exact (nw e (m2 e he)).2 (z.trans hf)
   ·rcases bV.mp hf with hf|hf
    ·exact (nw e (m1 e he)).1 (z.trans hf)
    ·rcases cw.mp hf with hf|hf
     ·exact Rz e he f hf z
     ·rw [eE] at hf;exact (nw e (m1 e he)).2 (z.trans hf)
  refine ⟨⟨(r1++((p,u)::(r2++ [(u,p)])))::Kd,λy hy=>?_,?_,by rw [cp];omega⟩,by omega⟩
  ·rcases bV.mp hy with rfl|hy
   ·exact ⟨_,nS Q (by simp) V3,up _ hp⟩
   ·refine Iu.keep g (λe he=>k0 e (Iu.dart g e he) (λh=>?_) λh=>?_) up y hy
    ·exact JC za zU e (cY _ he) (Dh e (Iu.dart g e he) h).symm
    ·exact V1 zb zV e he (Dj e (Iu.dart g e he) h).symm
  ·refine (qP ?_ (bA gx)).mpr λd=>?_
   ·rw [m8,cJ]
    refine ⟨V3,QS,λe he f hf z=>?_⟩;have df:=Iu.dart g f hf
    rcases (N7 e).mp he with he|he|he|he
    ·exact JC e he f (cY _ hf) z
    ·exact (nw f df).1 (z.symm.trans he)
    ·exact V1 e he f hf z
    ·exact (nw f df).2 (z.symm.trans he)
   ·rw [aK,dx,←aK (w:=w),←GB.mem_iff,m8,cw,N7]
    simp only [cw]
    constructor
    ·rintro ((h|h|h|h) |h)
     ·exact .inr (.inr (.inl h))
     ·exact .inl h
     ·exact .inr (.inr (.inr (.inl h)))
     ·exact .inr (.inl h)
     ·exact .inr (.inr (.inr (.inr h)))
    ·rintro (h|h|h|h|h)
     ·exact .inl (.inr (.inl h))
     ·exact .inl (.inr (.inr (.inr h)))
     ·exact .inl (.inl h)
     ·exact .inl (.inr (.inr (.inl h)))
     ·exact .inr h
theorem Ie{w:W}{p r u v:Nat}(g:Good w)(hp:aE w (p,r))(hu:aE w (u,v))(up:u≠p)(nt:u∉row w p){c:Nat}(h:Fc w c):
  (Fc (lP w p ((row w p).idxOf r) u ((row w u).idxOf v)) (c+1)∨(Fc (lP w p ((row w p).idxOf r) u ((row w u).idxOf v)) (c-1)∧2≤c))∧((∃r1,fA w (p,r) r1∧(u,v)∈r1)→Fc (lP w p ((row w p).idxOf r) u ((row w u).idxOf v)) (c+1)):=by
 have lp:p<w.length:=cQ hp;have lu:u<w.length:=cQ hu;have gx:=xM (i:=(row w p).idxOf r) (j:=(row w u).idxOf v) g lp lu up nt;have ntu:p∉row w u:=λz=>nt (g.sym _ _ z)
 have rows:∀q,row (lP w p ((row w p).idxOf r) u ((row w u).idxOf v)) q=if u=q then ins (row w u) ((row w u).idxOf v) p else if p=q then ins (row w p) ((row w p).idxOf r) u else row w q:=λq=>by
  unfold lP;rw [fK (by rw [gm];exact lu),fK lp]
 have hpr:r∈row w p:=hp;have huv:v∈row w u:=hu
 have gp:(row w p)[(row w p).idxOf r]? =some r:=by
  have hl:=qR.mpr hpr;rw [dh hl];exact congrArg some (tF hl)
 have gu:(row w u)[(row w u).idxOf v]? =some v:=by
  have hl:=qR.mpr huv;rw [dh hl];exact congrArg some (tF hl)
 obtain ⟨a1,a2,_,a4,_⟩:=(vE (u:=u) gp).succ (g.nod p) nt;obtain ⟨b1,b2,_,b4,_⟩:=(vE (u:=p) gu).succ (g.nod u) ntu;generalize lP w p ((row w p).idxOf r) u ((row w u).idxOf v)=x at gx rows;have xp:row x p=ins (row w p) ((row w p).idxOf r) u:=by rw [rows,if_neg up,if_pos rfl]
 have xu:row x u=ins (row w u) ((row w u).idxOf v) p:=by rw [rows,if_pos rfl]
 have xo:∀q,q≠p→q≠u→row x q=row w q:=λq h1 h2=>by rw [rows,if_neg (Ne.symm h2),if_neg (Ne.symm h1)]
 have sm:∀e:Dt,aE w e→e.1∈row w e.2:=λe h=>g.sym _ _ h
 have ne1:∀e:Dt,aE w e→e.2=p→bC x e=if bC w e=(p,r) then (p,u) else bC w e:=λe he h=>by
  have hs:=sm e he;have e2:=a2 e.1 (by rw [←h];exact hs)
  unfold bC;rw [h,xp,e2]
  by_cases z:aI (row w p) e.1=r
  ·rw [if_pos z,if_pos (by rw [z])]
  ·rw [if_neg z,if_neg (λy=>z (Prod.mk.inj y).2)]
 have ne2:∀e:Dt,aE w e→e.2=u→bC x e=if bC w e=(u,v) then (u,p) else bC w e:=λe he h=>by
  have hs:=sm e he;have e2:=b2 e.1 (by rw [←h];exact hs)
  unfold bC;rw [h,xu,e2]
  by_cases z:aI (row w u) e.1=v
  ·rw [if_pos z,if_pos (by rw [z])]
  ·rw [if_neg z,if_neg (λy=>z (Prod.mk.inj y).2)]
 have ne3:∀e:Dt,e.2≠p→e.2≠u→bC x e=bC w e:=λe h1 h2=>by unfold bC;rw [xo _ h1 h2]
 have NQ:∀e:Dt,(bC w e).1=e.2:=λe=>rfl;refine Lo g gx hp hu (Ne.symm up) nt (λe he h1 h2=>?_) (λe he h1=>?_) (λe he h1=>?_) ?_ ?_ (λd=>?_) h
 ·by_cases c1:e.2=p
  ·rw [ne1 e he c1,if_neg h1]
  ·by_cases c2:e.2=u
   ·rw [ne2 e he c2,if_neg h2]
   ·exact ne3 e c1 c2
 ·rw [ne1 e he (by rw [←NQ e,h1]),if_pos h1]
 ·rw [ne2 e he (by rw [←NQ e,h1]),if_pos h1]
 ·show (u,aI (row x u) p)=(u,v)
  rw [xu,b1]
 ·show (p,aI (row x p) u)=(p,r)
  rw [xp,a1]
 ·obtain ⟨d1,d2⟩:=d
  show d2∈row x d1↔_∨_∨d2∈row w d1
  by_cases c1:d1=p
  ·subst c1
   rw [xp,a4];exact ⟨λh=>h.elim (λh=> .inl (by rw [h])) λh=> .inr (.inr h),λh=>h.elim (λh=> .inl (Prod.mk.inj h).2) λh=>h.elim (λh=>absurd (Prod.mk.inj h).1.symm up) .inr⟩
  ·by_cases c2:d1=u
   ·subst c2
    rw [xu,b4];exact ⟨λh=>h.elim (λh=> .inr (.inl (by rw [h]))) λh=> .inr (.inr h),λh=>h.elim (λh=>absurd (Prod.mk.inj h).1 up) λh=>h.elim (λh=> .inl (Prod.mk.inj h).2) .inr⟩
   ·rw [xo d1 c1 c2]
    exact ⟨λh=> .inr (.inr h),λh=>h.elim (λh=>absurd (Prod.mk.inj h).1 c1) λh=>h.elim (λh=>absurd (Prod.mk.inj h).1 c2) id⟩
def Eu(b:Bool)(w:W):Prop:=2≤w.length→∃c,Fc w c∧2*(w.length+c)≤fC w+4∧(b=true→2*(w.length+c)=fC w+4)
def He(b:Bool)(w w':W):Prop:=w'=w∨∃p r u v,aE w (p,r)∧aE w (u,v)∧u≠p∧u∉row w p∧(b=true→∃r1,fA w (p,r) r1∧(u,v)∈r1)∧w'=lP w p ((row w p).idxOf r) u ((row w u).idxOf v)
theorem Eu.lP{b:Bool}{w w':W}(g:Good w)(E:Eu b w)(t:He b w w'):Eu b w':=by
 rcases t with rfl| ⟨p,r,u,v,hp,hu,up,nt,hb,rfl⟩
 ·exact E
 ·intro l2
  rw [qL] at l2 ⊢;obtain ⟨c,f,h1,h2⟩:=E l2;rw [Ap (cQ hp) (cQ hu) up];obtain ⟨k1,k2⟩:=Ie g hp hu up nt f;cases b with
  |true=>
   have:=h2 rfl
   exact ⟨c+1,k2 (hb rfl),by omega,λ_=>by omega⟩
  |false=>
   rcases k1 with k| ⟨k,c2⟩
   ·exact ⟨c+1,k,by omega,λz=>by cases z⟩
   ·exact ⟨c-1,k,by omega,λz=>by cases z⟩
theorem Eu.nam{b:Bool}{w v:W}{φ:Nat→Nat}(g:Good w)(gv:Good v)(E:Eu b w)(N:BX w v φ)(dg:fC v=fC w):Eu b v:=λl2=>by
 rw [N.len] at l2 ⊢;obtain ⟨c,⟨rs,hA,pm,hl⟩,h1,h2⟩:=E l2;rw [dg];refine ⟨c,⟨rs.map λr=>r.map λd=>(φ d.1,φ d.2),λr' gW=>?_,?_,by rw [aN];exact hl⟩,h1,h2⟩
 ·obtain ⟨r,hr,rfl⟩:=bz.mp gW
  obtain ⟨d,R,dd⟩:=hA r hr;exact ⟨_,(N.dmap g).rnd g R dd,(N.dmap g).dart d dd⟩
 ·rw [←List.map_flatten]
  exact (pm.map _).trans (An g gv (N.dmap g).dart (N.dmap g).inj N.XT)
theorem Fz{w:W}{p j:Nat}(g:Good w)(lp:p<w.length)(hj:j≤(row w p).length)(h:2≤w.length→Fc w 1):Fc (leaf w p j) 1:=by
 have gv:=uO (i:=j) g lp;have rows:∀q,row (leaf w p j) q=if q=w.length then [p] else if p=q then ins (row w p) j w.length else row w q:=λq=>yk lp;have ln:(leaf w p j).length=w.length+1:=nE ..;generalize leaf w p j=v at gv rows ln;have pn:p≠w.length:=by omega
 have vn:row v w.length= [p]:=by rw [rows,if_pos rfl]
 have vp:row v p=ins (row w p) j w.length:=by rw [rows,if_neg pn,if_pos rfl]
 have nw:w.length∉row w p:=λz=>m9 _ (g.rng _ _ z)
 have k2:bC v (p,w.length)=(w.length,p):=by
  show (w.length,aI (row v w.length) p)=_;rw [vn];unfold aI;simp
 by_cases hr:row w p= []
 ·
  have l1:w.length=1:=by
   apply Classical.byContradiction;intro z
   obtain ⟨q,hq,hqp⟩:∃q,q<w.length∧q≠p:=by
    by_cases c:p=0
    ·exact ⟨1,by omega,by omega⟩
    ·exact ⟨0,by omega,λe=>c e.symm⟩
   have none_:∀x,Reach w p x→x=p:=λx hx=>by
    induction hx with
    |refl=>rfl
    |step _ h ih=>rw [ih,hr] at h;cases h
   have back:∀{a b},Reach w a b→Reach w b a:=λ {a b} h=>by
    have tr:∀{a b c},Reach w a b→Reach w b c→Reach w a c:=λ {a b c} h1 h2=>by
     induction h2 with
     |refl=>exact h1
     |step _ h ih=>exact .step ih h
    induction h with
    |refl=>exact .refl _
    |step _ h ih=>exact tr (.step (.refl _) (g.sym _ _ h)) ih
   have tr:∀{a b c},Reach w a b→Reach w b c→Reach w a c:=λ {a b c} h1 h2=>by
    induction h2 with
    |refl=>exact h1
    |step _ h ih=>exact .step ih h
   exact hqp (none_ q (tr (back (g.con p lp)) (g.con q hq)))
  have p0:p=0:=by omega
  have M1:row v p= [w.length]:=by rw [vp,hr];unfold ins;simp
  have k3:bC v (w.length,p)=(p,w.length):=by
   show (p,aI (row v p) w.length)=_;rw [M1];unfold aI;simp
  refine ⟨[[(p,w.length),(w.length,p)]],λr hr=>?_,?_,rfl⟩
  ·rw [eE] at hr
   subst hr;refine ⟨(p,w.length),nS ⟨rfl,by rw [k2];exact ⟨rfl,k3⟩⟩ (by simp) ?_,show w.length∈row v p by rw [M1];simp⟩
   rw [fz];exact ⟨λh=>by rw [eE] at h;exact pn (Prod.mk.inj h).1,by simp⟩
  ·refine (qP ?_ (bA gv)).mpr λd=>?_
   ·show ([(p,w.length),(w.length,p)]:List Dt).Nodup
    rw [fz];exact ⟨λh=>by rw [eE] at h;exact pn (Prod.mk.inj h).1,by simp⟩
   ·obtain ⟨d1,d2⟩:=d
    rw [aK];show (d1,d2)∈([(p,w.length),(w.length,p)]:List Dt)↔d2∈row v d1
    constructor
    ·intro h
     rcases bV.mp h with h|h
     ·rw [(Prod.mk.inj h).1,(Prod.mk.inj h).2,M1];simp
     ·rw [eE] at h;rw [(Prod.mk.inj h).1,(Prod.mk.inj h).2,vn];simp
    ·intro h
     have hd:=cQ h
     by_cases c:d1=p
     ·subst c
      rw [M1,eE] at h;subst h;simp
     ·have:d1=w.length:=by omega
      subst this;rw [vn,eE] at h;subst h;simp
 ·have l2:2≤w.length:=by
   obtain ⟨q,hq⟩:=List.exists_mem_of_ne_nil _ hr
   have:=g.rng _ _ hq
   have:q≠p:=λe=>g.irr p (by rw [e] at hq;exact hq)
   omega
  obtain ⟨r,hP⟩:∃r,Hb (row w p) (row v p) r w.length:=by
   rw [vp]
   by_cases c:j<(row w p).length
   ·exact ⟨(row w p)[j],vE (dh c)⟩
   ·have hl:=BP.mpr hr
    rw [show j=(row w p).length by omega]
    exact ⟨(row w p)[0],J6 (dh hl)⟩
  obtain ⟨a1,a2,_,a4,a5⟩:=hP.succ (g.nod p) nw;have sm:∀e:Dt,aE w e→e.1∈row w e.2:=λe h=>g.sym _ _ h;refine Ic (p:=p) (r:=r) g gv a5 rfl (λe he h1=>?_) (λe he h1=>?_) k2 ?_ (λd=>?_) (h l2)
  ·by_cases c:e.2=p
   ·have e2:=a2 e.1 (by rw [←c];exact sm e he)
    unfold bC at h1 ⊢;rw [c] at h1 ⊢;rw [e2,if_neg (λz=>h1 (by rw [z]))]
   ·have:e.2<w.length:=g.rng _ _ he
    unfold bC;rw [rows,if_neg (by omega),if_neg (Ne.symm c)]
  ·have c:e.2=p:=congrArg Prod.fst h1
   have e2:=a2 e.1 (by rw [←c];exact sm e he)
   unfold bC at h1 ⊢;rw [c] at h1 ⊢;rw [e2,if_pos (Prod.mk.inj h1).2]
  ·show (p,aI (row v p) w.length)=(p,r)
   rw [a1]
  ·obtain ⟨d1,d2⟩:=d
   show d2∈row v d1↔_∨_∨d2∈row w d1
   by_cases c1:d1=p
   ·subst c1
    rw [a4];exact ⟨λh=>h.elim (λh=> .inl (by rw [h])) λh=> .inr (.inr h),λh=>h.elim (λh=> .inl (Prod.mk.inj h).2) λh=>h.elim (λh=>absurd (Prod.mk.inj h).1 pn) .inr⟩
   ·by_cases c2:d1=w.length
    ·subst c2
     rw [vn,eE];exact ⟨λh=> .inr (.inl (by rw [h])),λh=>h.elim (λh=>absurd (Prod.mk.inj h).1.symm pn) λh=>h.elim (λh=>(Prod.mk.inj h).2) λh=>absurd (cQ h) (m9 _)⟩
    ·rw [rows,if_neg c2,if_neg (Ne.symm c1)]
     exact ⟨λh=> .inr (.inr h),λh=>h.elim (λh=>absurd (Prod.mk.inj h).1 c1) λh=>h.elim (λh=>absurd (Prod.mk.inj h).1 c2) id⟩
theorem Ia{b:Bool}{w:W}(h:2≤w.length→Fc w 1)(dg:fC w+2=2*w.length):Eu b w:=λl2=>⟨1,h l2,by omega,λ_=>by omega⟩
end Wb
namespace ug
open PySem L2 Wb
abbrev DB:Stmt:=top 33
def aS(r:List Nat):List V:=r.map λ(n:Nat)=>V.int (n:Int)
def Off(S:List Addr)(H H':Hp):Prop:=∀b o,b∉S→H b=some o→H' b=some o
theorem Off.trans{S:List Addr}{H H1 H2:Hp}(a:Off S H H1)(b:Off S H1 H2):Off S H H2:=λc o hc h=>b c o hc (a c o hc h)
theorem Off.of_same{S:List Addr}{H H':Hp}(h:aC H H'):Off S H H':=λb o _ e=>h b o e
theorem Off.put{S:List Addr}{H:Hp}{a:Addr}{o:HO}(h:a∈S∨H a=none):Off S H (upd H a o):=λb u hb e=>by
 rw [ab (λz=>?_)]
 ·exact e
 ·rcases h with h|h
  ·rw [z] at hb;exact hb h
  ·rw [z,h] at e;cases e
structure aJ (H:Hp) (T:Addr) (as:List Addr) (w:W):Prop where
 top:H T=some (.lst (as.map V.ref))
 nod:as.Nodup
 nT:T∉as
 len:as.length=w.length
 row:∀(i:Nat) a,as[i]? =some a→H a=some (.lst (aS (Wb.row w i)))
theorem aJ.keep{H H':Hp}{T:Addr}{as:List Addr}{w:W}(R:aJ H T as w)(h:∀b,b=T∨b∈as→H' b=H b):aJ H' T as w:=
 ⟨by rw [h T (.inl rfl)];exact R.top,R.nod,R.nT,R.len,λi a e=>by rw [h a (.inr (dD e))];exact R.row i a e⟩
theorem aJ.off{S:List Addr}{H H':Hp}{T:Addr}{as:List Addr}{w:W}(R:aJ H T as w)(h:Off S H H')(hT:T∉S)(ha:∀a∈as,a∉S):aJ H' T as w:=
 ⟨h _ _ hT R.top,R.nod,R.nT,R.len,λi a e=>h _ _ (ha a (dD e)) (R.row i a e)⟩
theorem aJ.at{H:Hp}{T:Addr}{as:List Addr}{w:W}(R:aJ H T as w){p:Nat}(hp:p<w.length):∃a,as[p]? =some a∧H a=some (.lst (aS (Wb.row w p))):=by
 have:p<as.length:=by rw [R.len];exact hp
 exact ⟨_,dh this,R.row p _ (dh this)⟩
theorem get_inj{α:Type}{l:List α}(h:l.Nodup){i j:Nat}{a:α}(h1:l[i]? =some a)(h2:l[j]? =some a):i=j:=by
 obtain ⟨a1,b1⟩:=cF.mp h1;obtain ⟨a2,b2⟩:=cF.mp h2;exact (List.getElem_inj h).mp (b1.trans b2.symm)
theorem aJ.put{H H':Hp}{T:Addr}{as:List Addr}{w:W}(R:aJ H T as w){p:Nat}{a:Addr}{r:List Nat}(ha:as[p]? =some a)(h:∀b,b=T∨b∈as→b≠a→H' b=H b)(e:H' a=some (.lst (aS r))):aJ H' T as (w.set p r):=by
 have hp:p<w.length:=by rw [←R.len];exact (cF.mp ha).1
 have am:=dD ha;refine ⟨by rw [h T (.inl rfl) (λz=>R.nT (by rw [z];exact am))];exact R.top,R.nod,R.nT,by rw [R.len,gm],λi b hb=>?_⟩
 rw [fK hp]
 by_cases hi:p=i
 ·subst hi
  rw [ha] at hb;cases hb;rw [if_pos rfl];exact e
 ·rw [if_neg hi,h b (.inr (dD hb)) (λz=>hi (get_inj R.nod ha (by rw [←z];exact hb)))]
  exact R.row i b hb
theorem aJ.snoc{H H':Hp}{T:Addr}{as:List Addr}{w:W}(R:aJ H T as w){a:Addr}{r:List Nat}(na:a∉as)(nT:a≠T)(h:∀b,b∈as→H' b=H b)(eT:H' T=some (.lst ((as++ [a]).map V.ref)))(e:H' a=some (.lst (aS r))):aJ H' T (as++ [a]) (w++ [r]):=by
 refine ⟨eT,?_,λz=>?_,by simp [R.len],λi b hb=>?_⟩
 ·rw [cJ]
  exact ⟨R.nod,by simp,λx hx y hy z=>by
   have:y=a:=by simpa using hy
   rw [this] at z;rw [z] at hx;exact na hx⟩
 ·rcases cw.mp z with z|z
  ·exact R.nT z
  ·have z':T=a:=by simpa using z
   exact nT z'.symm
 ·rw [yl]
  by_cases hi:i<as.length
  ·rw [jK hi] at hb
   rw [if_neg (by rw [←R.len];omega),h b (dD hb)]
   exact R.row i b hb
  ·have fj:i=as.length:=by
    have:=(cF.mp hb).1
    simp at this;omega
   subst fj;rw [jt (aV _)] at hb;simp at hb;rw [if_pos R.len,←hb];exact e
theorem bN(r:List Nat):(aS r).length=r.length:=aN _
theorem nU(r:List Nat)(i n:Nat):aS (ins r i n)=ins (aS r) i (.int (n:Int)):=ins_map _ _ _ _
def MP:Sp:=λvs H Q _=>∃(l:Addr)(ns:List Int)(m:Nat),vs= [.int (m:Int), .ref l]∧H l=some (.lst (ns.map V.int))∧ns≠ []∧ns.length≤2∧1≤m∧m≤14∧
 ∀(T:Addr)(as:List Addr)(w:W)(ds:List Int)(H':Hp),Off [l] H H'→H T=none→(∀a∈as,H a=none)→aJ H' T as w→Good w→w.length=m→H' l=some (.lst (ds.map V.int))→ds≠ []→ds.length≤2→fC w+2=2*m→(2≤w.length→Fc w 1)→Q (.ref T) H'
section
variable {P:Program} {w:World} {K:PySem.W.Frag} {mg:Str→Option Value} {base:Heap}
theorem ET:aL ["_law_many","_law_left","_law_turns","_law_new","_law_p"] ["_law_many","_law_left"] (ao DB):=⟨rfl,rfl,rfl,by decide+kernel,rfl,by decide+kernel,by decide+kernel⟩
theorem JS(B:wG mg)(Tk:bX K mg "_law_take" r8 ["_law_left","_law_many"])(D:bX K mg "_law_tree" DB ["_law_many","_law_left"]):FnOk P w K mg base cq 2 D.f D.fd ["_law_many","_law_left"] MP:=by
 refine D.F.ok ET (λvs H Q E h=>?_) (λbu A outer s H vs Q E hr h=>?_)
 ·obtain ⟨a,ns,k,rfl,_⟩:=h
  rfl
 obtain ⟨l,ns,m,rfl,hl,mn,hz,h1,bS,q⟩:=h;have nd:=ET.nd;have gT:=qs (P:=P) (w:=w) (base:=base) B Tk
 refine ⟨_,az (bP (i:=2) nd rfl (Or.inl rfl) (dF (ae (dF aq) aq)))
  (az (iQ PassesOwn.never rfl (Dc rfl B.range (ae aO (ae (pv 0) aq))) (bT (i:=3) nd rfl (Or.inl rfl))
   (az (bP (i:=4) nd rfl (Or.inl rfl) (bh gT hr rfl Tk.m Tk.F.kp Tk.b .nil bY (ae (pv 1) (ae (pv 3) aq))))
   (az (cN (dZ PySem.F.plainAttrs_list PySem.F.slot_list_insert PySem.F.type_list_insert kP (b9 bx (pv 2) (pv 4) (λ_ _=>rfl))
     (ae (bh gT hr rfl Tk.m Tk.F.kp Tk.b .nil bY (ae (pv 1) (ae (cm gF (b8 cc rfl B.len PySem.boot_len (ae (b9 bx (pv 2) (pv 4) (λ_ _=>rfl)) aq)) aO) aq))) (ae (pv 3) aq))))
   (aX (cN (dZ PySem.F.plainAttrs_list PySem.F.slot_list_append PySem.F.type_list_append fW (pv 2) (ae (dF (ae (pv 4) aq)) aq)))))))
  (aX (fm (pv 2)))),?_⟩
 refine ⟨by show 0≤sizeLine;decide,λr0 Qk=>⟨by show 1≤sizeLine;decide,λT hT=>?_⟩⟩
 have QJ:T≠r0:=λz=>by rw [z,aa] at hT;cases hT
 have Iv:H T=none:=by rw [ab QJ] at hT;exact hT
 have tT:l≠T:=ah hl Iv;have nl0:l≠r0:=ah hl Qk;refine ⟨_,rfl,1,(m:Int),rfl,⟨by decide,by decide,by omega,by omega⟩,?_⟩
 refine kG (λi σ H'=>∃as w ds o3 o4,σ= [some (.int (m:Int)),some (.ref l),some (.ref T),o3,o4]∧Off [l] H H'∧(∀a∈as,H a=none)∧aJ H' T as w∧Good w∧w.length=i+1∧H' l=some (.lst (ds.map V.int))∧ds≠ []∧ds.length≤2∧fC w=2*i∧(2≤w.length→Fc w 1)) ?_ (λi σ H' hi hP=>?_) (λσ H' hP=>?_)
 ·refine ⟨[r0],[[]],ns,_,_,rfl,(Off.put (.inr Qk)).trans (Off.put (.inr hT)),λa ha=>?_,⟨aa,by simp,by simpa using QJ,rfl,λi a e=>?_⟩,FG,rfl,?_,mn,hz,rfl,λz=>absurd z (by decide)⟩
  ·have:a=r0:=by simpa using ha
   rw [this];exact Qk
  ·cases i with
   |zero=>
    have:a=r0:=by simpa using e.symm
    rw [this,ab (Ne.symm QJ),aa];rfl
   |succ i=>simp at e
  ·rw [ab tT,ab nl0];exact hl
 ·obtain ⟨as,w',ds,o3,o4,rfl,off,fr,R,g,hlen,IJ,IM,LD,hdg,PZ⟩:=hP
  have j5:l∉as:=λz=>by have:=fr l z;rw [hl] at this;cases this
  refine ⟨_,rfl,_,rfl,l,ds,_,rfl,IJ,IM,by omega,by omega,by omega,λd n0 d0 d1 oj Jc=>?_⟩
  have R1:aJ (upd H' l (.lst (n0.map V.int))) T as w':=R.keep λb hb=>by
   refine ab λz=>?_
   rcases hb with hb|hb
   ·exact tT (z.symm.trans hb)
   ·rw [z] at hb;exact j5 hb
  obtain ⟨p,rfl⟩:=qT d0;have hp:p<w'.length:=by omega
  obtain ⟨a,ha,hZ⟩:=R1.at hp;have L1:l≠a:=λz=>j5 (by rw [z];exact dD ha)
  have nZ:fB (as.map V.ref) ((p:Nat):Int)=some (.ref a):=ck (by rw [bW,ha];rfl)
  refine ⟨_,rfl,_,rfl,T,_,_,_,rfl,rfl,aH.of R1.top,nZ, .inl ⟨rfl,_,aH.of hZ⟩,?_⟩;refine ⟨_,rfl,_,rfl,_,rfl,T,_,_,_,rfl,rfl,aH.of R1.top,nZ,a,_,rfl, .inl (aH.of hZ),_,_,rfl,rfl,?_⟩;have rl:=bU g p;rw [bN];refine ⟨l,n0,_,rfl,aa,oj,by omega,by omega,by omega,λd2 jZ e0 e1 sI LF=>?_⟩
  rw [qM]
  have R2:aJ (upd H' l (.lst (jZ.map V.int))) T as w':=R.keep λb hb=>by
   refine ab λz=>?_
   rcases hb with hb|hb
   ·exact tT (z.symm.trans hb)
   ·rw [z] at hb;exact j5 hb
  have CF:=R2.row p a ha;refine ⟨_,rfl,a,_,d2,_,rfl,rfl,CF,e0,by rw [bN];omega,m6 (by rw [bN];exact rl) (bF (by omega)),?_⟩
  obtain ⟨j,rfl⟩:=qT e0;have ew:(1:Int)+(i:Int)=((w'.length:Nat):Int):=by omega
  rw [ew,jL,←nU];have R3:aJ (upd (upd H' l (.lst (jZ.map V.int))) a (.lst (aS (ins (row w' p) j w'.length)))) T as (w'.set p (ins (row w' p) j w'.length)):=R2.put ha (λb _ hb=>ab hb) aa;refine ⟨_,rfl, .inl ⟨rfl,_,aH.of R3.top⟩,_,rfl,by show 1≤sizeLine;decide,λr gW=>?_⟩
  have QR:r≠T:=Ne.symm (ah R3.top gW)
  have JF:r∉as:=λz=>by
   obtain ⟨k,hk⟩:=gL z
   have:=R3.row k r hk
   rw [gW] at this;cases this
  have QT:r≠l:=λz=>by
   rw [z,ab L1,aa] at gW;cases gW
  refine ⟨T,_, .ref r,rfl,rfl,by rw [ab (Ne.symm QR)];exact R3.top,m6 (by rw [aN,R3.len,gm];exact aV _) (bF (by omega)),?_⟩
  have U7:H r=none:=by
   cases e:H r with
   |none=>rfl
   |some o=>
    have:=off r o (by simpa using QT) e
    rw [ab (λz=>JF (by rw [z];exact dD ha)),ab QT] at gW
    rw [gW] at this;cases this
  have haH:H a=none:=fr a (dD ha);refine ⟨as++ [r],leaf w' p j,jZ,_,_,rfl,?_,λb hb=>?_,?_,uO g hp,by rw [nE];omega,?_,sI,by omega,by rw [Ft hp];omega,λ_=>Fz g hp (by omega) PZ⟩
  ·intro b o hb e
   have hbl:b≠l:=by simpa using hb
   rw [ab (λz=>by rw [z,Iv] at e;cases e),ab (λz=>by rw [z,U7] at e;cases e),ab (λz=>by rw [z,haH] at e;cases e),ab hbl]
   exact off b o hb e
  ·rcases cw.mp hb with z|z
   ·exact fr b z
   ·have:b=r:=by simpa using z
    rw [this];exact U7
  ·refine R3.snoc (r:= [p]) JF QR (λb hb=>?_) ?_ ?_
   ·rw [ab (λz=>R3.nT (by rw [←z];exact hb)),ab (λz=>JF (by rw [←z];exact hb))]
   ·rw [aa,dP];rfl
   ·rw [ab QR,aa];rfl
  ·rw [ab tT,ab (Ne.symm QT),ab L1,aa]
 ·obtain ⟨as,w',ds,o3,o4,rfl,off,fr,R,g,hlen,IJ,IM,LD,hdg,PZ⟩:=hP
  exact ⟨_,rfl,q T as w' ds H' off Iv fr R g (by omega) IJ IM LD (by omega) PZ⟩
end
abbrev vJ:Stmt:=top 34
abbrev uc:Stmt:=top 35
theorem g6{r:List Nat}{i n:Nat}(h:r[i]? =some n):(aS r)[i]? =some (.int (n:Int)):=by unfold aS;rw [bW,h];rfl
theorem kY(r:List Nat):(aS r).all gz=true:=by
 rw [List.all_eq_true];intro x hx;obtain ⟨n,_,rfl⟩:=bz.mp hx;rfl
theorem rY{r:List Nat}{i:Nat}{z:V}(h:(aS r)[i]? =some z):∃n,r[i]? =some n∧z= .int (n:Int):=by
 unfold aS at h;rw [bW] at h;cases e:r[i]? with
 |none=>rw [e] at h;cases h
 |some n=>rw [e] at h;cases h;exact ⟨n,rfl,rfl⟩
theorem qe{r:List Nat}{p:Nat}(h:p∈r):r[r.idxOf p]? =some p:=by
 have lt:=qR.mpr h;rw [dh lt,tF lt]
theorem LG{r:List Nat}(nd:r.Nodup){p m n:Nat}(h:p∈r)(hm:m<r.idxOf p)(e:r[m]? =some n):n≠p:=λz=>by
 rw [z] at e
 have:=get_inj nd e (qe h)
 omega
theorem nk(p:Nat):oT (.int (p:Int)) (.int (p:Int))=true:=by simp [oT]
theorem pq{r:List Nat}(nd:r.Nodup){p:Nat}(h:p∈r)(m:Nat)(z:V)(hm:m<r.idxOf p)(hz:(aS r)[m]? =some z):oT z (.int (p:Int))=false:=by
 obtain ⟨n,hn,rfl⟩:=rY hz
 have:=LG nd h hm hn
 simp [oT];omega
def MG:Sp:=λvs H Q _=>∃(T sd:Addr)(as:List Addr)(w:W)(d:Nat×Nat),vs= [.ref T, .ref sd]∧aJ H T as w∧Good w∧w.length≤14∧H sd=some (.tup (gG d))∧aE w d∧
 ∀t,H t=none→Q (.ref t) (upd H t (.tup (gG (bC w d))))
section
variable {P:Program} {w:World} {K:PySem.W.Frag} {mg:Str→Option Value} {base:Heap}
theorem ER:aL ["_law_turns","_law_side","_law_p","_law_q"] ["_law_turns","_law_side"] (ao vJ):=⟨rfl,rfl,rfl,by decide+kernel,rfl,by decide+kernel,by decide+kernel⟩
theorem JQ(B:wG mg)(D:bX K mg "_law_next" vJ ["_law_turns","_law_side"]):FnOk P w K mg base cq 1 D.f D.fd ["_law_turns","_law_side"] MG:=by
 refine D.F.ok ER (λvs H Q E h=>?_) (λbu A outer s H vs Q E hr h=>?_)
 ·obtain ⟨T,sd,as,w,d,rfl,_⟩:=h
  rfl
 obtain ⟨T,sd,as,w',⟨p,q'⟩,rfl,R,g,bS,AJ,hd,q⟩:=h;have nd:=ER.nd
 refine ⟨_,az (nP (pv 1) (nO rfl (eG (bT (i:=2) nd rfl (Or.inl rfl)) (eG (bT (i:=3) nd rfl (Or.inl rfl)) kg))))
  (aX (fm (t9 (ae (pv 3) (ae (b9 bx (b9 bx (pv 0) (pv 3) (λ_ _=>rfl))
   (cm nK (cm gF (dZ PySem.F.plainAttrs_list PySem.F.slot_list_index PySem.F.type_list_index nJ (b9 bx (pv 0) (pv 3) (λ_ _=>rfl)) (ae (pv 2) aq)) aO)
    (b8 cc rfl B.len PySem.boot_len (ae (b9 bx (pv 0) (pv 3) (λ_ _=>rfl)) aq))) (λ_ _=>rfl)) aq))))),?_⟩
 have Lz:p∈row w' q':=g.sym _ _ hd;have hq:q'<w'.length:=g.rng _ _ hd;obtain ⟨a,ha,hZ⟩:=R.at hq;have nZ:fB (as.map V.ref) ((q':Nat):Int)=some (.ref a):=ck (by rw [bW,ha];rfl)
 have hlen:0<(row w' q').length:=BM Lz;refine ⟨_,rfl,sd,_,rfl,dX.of AJ,rfl,_,_,rfl,_,_,rfl,rfl,?_⟩;refine ⟨_,rfl,_,rfl,_,rfl,T,_,_,_,rfl,rfl,aH.of R.top,nZ,?_⟩;refine ⟨_,rfl,_,rfl,T,_,_,_,rfl,rfl,aH.of R.top,nZ, .inl ⟨rfl,_,aH.of hZ⟩,_,rfl,?_⟩;refine ⟨a,_,_,(row w' q').idxOf p,_,rfl,rfl,hZ,rfl,kY _,g6 (qe Lz),nk p,pq (g.nod _) Lz,?_⟩;refine ⟨_,_,rfl,rfl,_,rfl,_,rfl,T,_,_,_,rfl,rfl,aH.of R.top,nZ,a,_,rfl, .inl (aH.of hZ),_,_,rfl,rfl,?_⟩;rw [bN];refine ⟨by omega,?_⟩
 have em:((((row w' q').idxOf p:Nat):Int)+1)%((row w' q').length:Int)=((((row w' q').idxOf p+1)%(row w' q').length:Nat):Int):=by rw [Int.natCast_emod,Int.natCast_add];rfl
 have IB:fB (aS (row w' q')) (((((row w' q').idxOf p:Nat):Int)+1)%((row w' q').length:Int))=some (.int (aI (row w' q') p:Nat)):=by
  rw [em];exact ck (g6 (g7 Lz))
 refine ⟨a,_,_,_,rfl,rfl,aH.of hZ,IB,by show 2≤sizeLine;decide,λt ht=>?_⟩
 exact q t ht
def vP:Sp:=λvs H Q _=>∃(T sd:Addr)(as:List Addr)(w:W)(d:Nat×Nat),vs= [.ref T, .ref sd]∧aJ H T as w∧Good w∧w.length≤14∧H sd=some (.tup (gG d))∧aE w d∧
 ∀(F:Addr)(L:List (Addr×(Nat×Nat)))(k:Nat)(H':Hp),aC H H'→H F=none→H' F=some (.lst (L.map λe=>V.ref e.1))→oN H' L→L.map (·.2)=walk w d k→0<k→bH w k d=d→(∀j,0<j→j<k→bH w j d≠d)→Q (.ref F) H'
theorem Bo:aL ["_law_turns","_law_side","_law_found","_law_here"] ["_law_turns","_law_side"] (ao uc):=⟨rfl,rfl,rfl,by decide+kernel,rfl,by decide+kernel,by decide+kernel⟩
theorem Ar{K:PySem.W.Frag}{H:Hp}{a:Addr}{d:Nat×Nat}(h:H a=some (.tup (gG d))):Dp K H (.ref a) (lG d):= .tup (dX.of h) (.cons (.int _) (.cons (.int _) .nil))
theorem Gn(B:wG mg)(Nx:bX K mg "_law_next" vJ ["_law_turns","_law_side"])(D:bX K mg "_law_round" uc ["_law_turns","_law_side"]):FnOk P w K mg base cq 2 D.f D.fd ["_law_turns","_law_side"] vP:=by
 refine D.F.ok Bo (λvs H Q E h=>?_) (λbu A outer s H vs Q E hr h=>?_)
 ·obtain ⟨T,sd,as,w,d,rfl,_⟩:=h
  rfl
 obtain ⟨T,sd,as,w',d,rfl,R,g,bS,AJ,hd,q⟩:=h;have nd:=Bo.nd;have gN:=JQ (P:=P) (w:=w) (base:=base) B Nx
 refine ⟨_,az (bP (i:=2) nd rfl (Or.inl rfl) (dF (ae (pv 1) aq)))
  (az (bP (i:=3) nd rfl (Or.inl rfl) (bh gN hr rfl Nx.m Nx.F.kp Nx.b .nil bY (ae (pv 0) (ae (pv 1) aq))))
  (az (yd PassesOwn.never (ic (zx hr.units) (pv 3) (pv 1) (br _))
   (az (cN (dZ PySem.F.plainAttrs_list PySem.F.slot_list_append PySem.F.type_list_append fW (pv 2) (ae (pv 3) aq)))
    (aX (bP (i:=3) nd rfl (Or.inl rfl) (bh gN hr rfl Nx.m Nx.F.kp Nx.b .nil bY (ae (pv 0) (ae (pv 3) aq)))))))
  (aX (fm (pv 2))))),?_⟩
 refine ⟨_,rfl,by show 1≤sizeLine;decide,λF hF=>?_⟩
 have s1:aC H (upd H F (.lst [.ref sd])):=av hF _;have R1:aJ (upd H F (.lst [.ref sd])) T as w':=R.off (S:= []) (Off.of_same s1) (by simp) (by simp)
 refine ⟨_,rfl,_,rfl,T,sd,as,w',d,rfl,R1,g,bS,s1 _ _ AJ,hd,λt ht=>?_⟩;have dl:=kD g;have hw:w'.length*w'.length≤196:=wq bS bS
 refine GR (λσ H'=>∃(k:Nat)(L:List (Addr×(Nat×Nat)))(t:Addr),σ= [some (.ref T),some (.ref sd),some (.ref F),some (.ref t)]∧0<k∧L.map (·.2)=walk w' d k∧(∀j,0<j→j<k→bH w' j d≠d)∧aC H H'∧H' F=some (.lst (L.map λe=>V.ref e.1))∧oN H' L∧H' t=some (.tup (gG (bH w' k d))))
  (λσ H'=>(aQ w').length+1-(match H' F with|some (.lst xs)=>xs.length|_=>0)) ?_ (λσ H' hP=>?_) (λσ H Q Q' hq h=>?_)
 ·have nFt:F≠t:=λz=>by rw [←z,aa] at ht;cases ht
  have nsF:sd≠F:=ah AJ hF;refine ⟨1,[(sd,d)],t,rfl,by omega,rfl,λj h1 h2=>by omega,s1.trans (av ht _),by rw [ab nFt];exact aa,λe he=>?_,aa⟩
  have yO:e=(sd,d):=by simpa using he
  rw [yO];exact (s1.trans (av ht _)) _ _ AJ
 ·obtain ⟨k,L,t,rfl,hk,hL,yY,sm,FI,Ey,wY⟩:=hP
  refine ⟨_,rfl,_,rfl,_,_,Ar wY,Ar (sm _ _ AJ),by have:=sC (bH w' k d);omega,_,rfl,?_⟩
  refine sN (λc=>?_) (λc=>?_)
  ·have mn:bH w' k d≠d:=λz=>by
    rw [(xE _ _).mpr z] at c;cases c
   have NZ:∀j,0<j→j<k+1→bH w' j d≠d:=λj h1 h2=>by
    by_cases hj:j=k
    ·rw [hj];exact mn
    ·exact yY j h1 (by omega)
   have hkd:=vY g hd NZ;have lL:L.length=k:=by have:=congrArg List.length hL;rw [aN,fu] at this;exact this
   refine ⟨_,rfl, .inl ⟨rfl,_,aH.of FI⟩,_,rfl,F,_, .ref t,rfl,rfl,FI,m6 (by rw [aN,lL];exact aV _) (bF (by omega)),?_⟩
   have nFH:H F=none:=hF;have MD:aC H (upd H' F (.lst ((L.map λe=>V.ref e.1)++ [.ref t]))):=λb o e=>by rw [ab (ah e hF)];exact sm b o e
   have R2:aJ (upd H' F (.lst ((L.map λe=>V.ref e.1)++ [.ref t]))) T as w':=R.off (S:= []) (Off.of_same MD) (by simp) (by simp)
   have Wc:t≠F:=λz=>by rw [z,FI] at wY;cases wY
   refine ⟨_,rfl,_,rfl,T,t,as,w',bH w' k d,rfl,R2,g,bS,by rw [ab Wc];exact wY,eF g hd k,λt2 Ja=>?_⟩
   have JG:t2≠F:=λz=>by rw [z,aa] at Ja;cases Ja
   have L4:H' t2=none:=by rw [ab JG] at Ja;exact Ja
   refine ⟨⟨k+1,L++ [(t,bH w' k d)],t2,rfl,by omega,?_,NZ,MD.trans (av Ja _),?_,λe he=>?_,aa⟩,?_⟩
   ·rw [dP,hL,vZ];rfl
   ·rw [ab (Ne.symm JG),aa,dP];rfl
   ·rcases cw.mp he with z|z
    ·have yP:=Ey e z
     rw [ab (ah yP L4),ab (λy=>by rw [y,FI] at yP;cases yP)]
     exact yP
    ·have z':e=(t,bH w' k d):=by simpa using z
     rw [z'];show upd _ t2 _ t=_;rw [ab (ah wY L4),ab Wc];exact wY
   ·show (aQ w').length+1-_<(aQ w').length+1-_
    rw [ab (Ne.symm JG),aa,FI];simp only [dS,aN,List.length_singleton];omega
  ·have heq:bH w' k d=d:=by
    apply Classical.byContradiction;intro z;apply c
    have:PyData.eqv (lG (bH w' k d)) (lG d)=false:=by
     cases y:PyData.eqv (lG (bH w' k d)) (lG d) with
     |false=>rfl
     |true=>exact absurd ((xE _ _).mp y) z
    rw [this];rfl
   exact ⟨_,rfl,q F L k H' sm hF FI Ey hL hk heq yY⟩
 ·obtain ⟨v1,e1,v2,e2,d',e',a,b,c,k,ek,q⟩:=h
  exact ⟨v1,e1,v2,e2,d',e',a,b,c,k,ek,hq _ _ q⟩
end
end ug
namespace L2
open PySem
theorem Eo{K:PySem.W.Frag}{H:Hp}:∀{M:List (Addr×(Nat×Nat))},oN H M→eJ K H (M.map λe=>V.ref e.1) (M.map λe=>lG e.2)
 | [],_=> .nil
 |e::M,h=> .cons (.tup (dX.of (h e cC)) (.cons (.int _) (.cons (.int _) .nil))) (Eo λx hx=>h x (cA _ hx))
end L2
namespace ug
open PySem L2 Wb
theorem Il{i:Nat}{x:V}{σ:St}{H:Hp}{P R:St→Hp→Prop}(h:P (σ.set i (some x)) H):uM i x σ H (λcU H4=>E2 cU H4 (λb H5=>if b=true then P cU H5 else R cU H5)):=by
 show (if true=true then P (σ.set i (some x)) H else R (σ.set i (some x)) H);rw [if_pos rfl];exact h
abbrev vK:Stmt:=top 36
theorem My{w:W}(g:Good w)(h2:2≤w.length){p:Nat}(hp:p<w.length):row w p≠ []:=by
 intro z
 have hq:∃q,q<w.length∧q≠p:=by
  by_cases h:p=0
  ·exact ⟨1,by omega,by omega⟩
  ·exact ⟨0,by omega,λy=>h y.symm⟩
 obtain ⟨q,hq,ne⟩:=hq;have r:=((g.con p hp).symm g.sym).trans (g.con q hq)
 have:∀{a b},Reach w a b→a=p→b=p:=λ {a b} h=>by
  induction h with
  |refl=>exact id
  |step _ hr ih=>
   intro e
   have:=ih e
   rw [this,z] at hr;cases hr
 exact ne (this r rfl)
structure OO (H:Hp) (w:W) (S:Addr) (L:List (Addr×(Nat×Nat))):Prop where
 at':H S=some (.lst (L.map λe=>V.ref e.1))
 prs:oN H L
 dart:∀e∈L,aE w e.2
 few:L.length≤196
def Rj:Sp:=λvs H Q _=>∃(T l:Addr)(b:Bool)(as:List Addr)(w:W)(ns:List Int),vs= [.ref T, .ref l, .bl b]∧aJ H T as w∧Good w∧2≤w.length∧w.length≤14∧H l=some (.lst (ns.map V.int))∧ns≠ []∧ns.length≤2∧l≠T∧l∉as∧
 ∀(w':W)(ds:List Int)(H':Hp),Off (l::as) H H'→aJ H' T as w'→Good w'→w'.length=w.length→H' l=some (.lst (ds.map V.int))→ds≠ []→ds.length≤2→fC w'≤fC w+2→He b w w'→Q .aM H'
section
variable {P:Program} {w:World} {K:PySem.W.Frag} {mg:Str→Option Value} {base:Heap}
theorem Kl:aL ["_law_turns","_law_left","_law_plane","_law_p","_law_r","_law_sides","_law_q","_law_turn","_law_u","_law_v"] ["_law_turns","_law_left","_law_plane"] (ao vK):=⟨rfl,rfl,rfl,by decide+kernel,rfl,by decide+kernel,by decide+kernel⟩
theorem L9(B:wG mg)(Tk:bX K mg "_law_take" r8 ["_law_left","_law_many"])(Nx:bX K mg "_law_next" vJ ["_law_turns","_law_side"])(Rd:bX K mg "_law_round" uc ["_law_turns","_law_side"])
  (D:bX K mg "_law_tie" vK ["_law_turns","_law_left","_law_plane"]):FnOk P w K mg base cq 3 D.f D.fd ["_law_turns","_law_left","_law_plane"] Rj:=by
 refine D.F.ok Kl (λvs H Q E h=>?_) (λbu A outer s H vs Q E hr h=>?_)
 ·obtain ⟨T,l,b,as,w,ns,rfl,_⟩:=h
  rfl
 obtain ⟨T,l,b,as,w',ns,rfl,R,g,h2,bS,hl,mn,hz,tT,j5,q⟩:=h;have nd:=Kl.nd;have gT:=(qs (P:=P) (w:=w) (base:=base) B Tk).mono (show 1≤2 by decide)
 have gR:=Gn (P:=P) (w:=w) (base:=base) B Nx Rd;have aab:w'.length*w'.length≤196:=wq bS bS;have n9:(["_law_side","_law_p","_law_turns"]:List Str).Nodup:=by decide+kernel
 obtain ⟨tE,pE,rE⟩:∃t,lJ (pT cq P w K mg base ["_law_turns","_law_left","_law_plane","_law_p","_law_r","_law_sides","_law_q","_law_turn","_law_u","_law_v"] "_law_tie" (ao vK) D.f bu A outer s H E).jw ((eY vK).drop 4) t∧
   ∀(p r:Nat)(S:Addr)(L:List (Addr×(Nat×Nat)))(ds:List Int)(o6 o7:Option V)(H1:Hp),Off (l::as) H H1→aJ H1 T as w'→p<w'.length→r∈row w' p→OO H1 w' S L→(b=true→∃r1,fA w' (p,r) r1∧∀e∈L,e.2∈r1)→H1 l=some (.lst (ds.map V.int))→ds≠ []→ds.length≤2→S≠l→S≠T→S∉as→
    t {nx:=λ_ H'=>Q .aM H',rt:=Q} [some (.ref T),some (.ref l),some (.bl b),some (.int (p:Int)),some (.int (r:Int)),some (.ref S),o6,o7,none,none] H1:=by
  refine ⟨_,az (iZ (i:=5) (NC:= ["_law_side","_law_p","_law_turns"]) (src:= [none,some 3,some 0]) rfl nd rfl (Or.inl rfl) (bp.of (ao vK) rfl rfl (by decide+kernel) (by decide+kernel) (by decide+kernel)) ⟨rfl,rfl,rfl,rfl,trivial⟩ (kh (pv 5))
    (λ_ _ _=>bT (i:=0) n9 rfl (Or.inl rfl)) (λ_ _ _=>Bd (PW.pt (EJ (ic QY (b9 (AR (K:=K)) (pv 0) aO (λ_ _=>rfl)) (pv 1) (br _)) (Bh (ic (C6 (K:=K)) (b9 (AR (K:=K)) (pv 0) aO (λ_ _=>rfl)) (b9 (xQ (K:=K)) (pv 2) (pv 1) (λ_ _=>rfl)) rfl))))) (λ_ _ _=>pv 0) rfl)
   (aX (vC (ic (zx hr.units) (pv 5) (dF aq) (br _))
    (az (nP (b9 bx (pv 5) (bh gT hr rfl Tk.m Tk.F.kp Tk.b .nil bY (ae (pv 1) (ae (b8 cc rfl B.len PySem.boot_len (ae (pv 5) aq)) aq))) (λ_ _=>rfl)) (nO rfl (eG (bT (i:=8) nd rfl (Or.inl rfl)) (eG (bT (i:=9) nd rfl (Or.inl rfl)) kg))))
    (az (cN (dZ PySem.F.plainAttrs_list PySem.F.slot_list_insert PySem.F.type_list_insert kP (b9 bx (pv 0) (pv 3) (λ_ _=>rfl)) (ae (dZ PySem.F.plainAttrs_list PySem.F.slot_list_index PySem.F.type_list_index nJ (b9 bx (pv 0) (pv 3) (λ_ _=>rfl)) (ae (pv 4) aq)) (ae (pv 8) aq))))
    (aX (cN (dZ PySem.F.plainAttrs_list PySem.F.slot_list_insert PySem.F.type_list_insert kP (b9 bx (pv 0) (pv 8) (λ_ _=>rfl)) (ae (dZ PySem.F.plainAttrs_list PySem.F.slot_list_index PySem.F.type_list_index nJ (b9 bx (pv 0) (pv 8) (λ_ _=>rfl)) (ae (pv 9) aq)) (ae (pv 3) aq))))))) mF)),?_⟩
  intro p r S L ds o6 o7 H1 off R1 hp wX sd hbr FX oj Jc VZ VY Ob;obtain ⟨a,ha,hZ⟩:=R1.at hp;have nZ:fB (as.map V.ref) ((p:Nat):Int)=some (.ref a):=ck (by rw [bW,ha];rfl)
  refine ⟨_,rfl,S,rfl,⟨_,aH.of sd.at'⟩,λDd hD=>?_⟩;have L0:S≠Dd:=ah sd.at' hD;refine zd (L.map λe=>V.ref e.1).length (λi ju Hc=>∃(M:List (Addr×(Nat×Nat)))(o:Option V),ju= [o,some (.int (p:Int)),some (.ref T)]∧Hc=upd H1 Dd (.lst (M.map λe=>V.ref e.1))∧(∀e∈M,e∈L∧e.2.1≠p∧e.2.1∉row w' p)∧M.length≤i) ?_ ?_ ?_ ?_ ?_
  ·exact ⟨[],none,rfl,rfl,(λe he=>by cases he),aV _⟩
  ·rintro i ju Hc hi ⟨M,o,rfl,rfl,_,_⟩
   exact ⟨_,_,aH.of (by rw [ab L0];exact sd.at'),dh hi⟩
  ·rintro i ju Hc hi ⟨M,o,rfl,rfl,_,_⟩
   exact ⟨_,aH.of (by rw [ab L0];exact sd.at'),hi⟩
  ·rintro i x ju Hc H3 hi ⟨M,o,rfl,rfl,hM,PK⟩ ⟨rfl,hx⟩
   have wZ:=hx _ (aH.of (by rw [ab L0];exact sd.at'))
   have fj:i<L.length:=by simpa using hi
   rw [bW,dh fj] at wZ;have ex:x= .ref (L[i]).1:=(Option.some.inj wZ).symm;subst ex;have hm:L[i]∈L:=oK fj
   have xN:upd H1 Dd (.lst (M.map λe=>V.ref e.1)) (L[i]).1=some (.tup (gG (L[i]).2)):=by
    have:=sd.prs _ hm
    rw [ab (ah this hD)];exact this
   have VV:T≠Dd:=ah R1.top hD;have nDa:a≠Dd:=ah hZ hD;refine ⟨_,rfl,(L[i]).1,_,0,_,rfl,rfl,dX.of xN,ck (j:=0) rfl,_,rfl,rfl,_,rfl,?_⟩;refine sN (λc=>?_) (λc=>?_)
   ·refine ⟨_,rfl,(L[i]).1,_,0,_,rfl,rfl,dX.of xN,ck (j:=0) rfl,?_⟩
    refine ⟨_,rfl,_,rfl,T,_,_,_,rfl,rfl,aH.of (by rw [ab VV];exact R1.top),nZ,a,_,rfl, .inl (aH.of (by rw [ab nDa];exact hZ)),rfl,kY _,_,rfl,?_⟩
    refine sN (λc2=>?_) (λc2=>?_)
    ·refine ⟨_,rfl,_,aa,m6 (by rw [aN];exact PK) (bF (by have:=sd.few;omega)),M++ [L[i]],_,rfl,?_,λe he=>?_,by simp;omega⟩
     ·rw [qM,dP];rfl
     ·rcases cw.mp he with z|z
      ·exact hM e z
      ·have z':e=L[i]:=by simpa using z
       rw [z'];refine ⟨hm,λy=>?_,λy=>?_⟩
       ·rw [show V.int ((L[i]).2.1:Int)=V.int (p:Int) by rw [y]] at c
        simp at c
       ·have:CH (V.int ((L[i]).2.1:Int)) (aS (row w' p))=true:=by
         unfold CH;rw [List.any_eq_true];exact ⟨_,bz.mpr ⟨_,y,rfl⟩,nk _⟩
        have c3:(!CH (V.int ((L[i]).2.1:Int)) (aS (row w' p)))=true:=c2;rw [this] at c3;cases c3
    ·exact ⟨M,_,rfl,rfl,hM,by omega⟩
   ·exact fw ⟨M,_,rfl,rfl,hM,by omega⟩
  ·rintro ju Hc ⟨M,o,rfl,rfl,hM,PK⟩
   have nDl:l≠Dd:=ah FX hD;have VV:T≠Dd:=ah R1.top hD;have few:=sd.few;rw [aN] at PK
   have Xb:oN (upd H1 Dd (.lst (M.map λe=>V.ref e.1))) M:=λe he=>by
    have:=sd.prs e (hM e he).1
    rw [ab (ah this hD)];exact this
   refine ⟨_,rfl,by show 0≤sizeLine;decide,λe1 yP=>?_⟩
   have n1D:e1≠Dd:=λz=>by rw [z,aa] at yP;cases yP
   have DH:aC (upd H1 Dd (.lst (M.map λe=>V.ref e.1))) (upd (upd H1 Dd (.lst (M.map λe=>V.ref e.1))) e1 (.lst [])):=av yP _;have Ov:oN (upd (upd H1 Dd (.lst (M.map λe=>V.ref e.1))) e1 (.lst [])) M:=λe he=>DH _ _ (Xb e he);have PD:upd (upd H1 Dd (.lst (M.map λe=>V.ref e.1))) e1 (.lst []) Dd=some (.lst (M.map λe=>V.ref e.1)):=DH _ _ aa;have Om:Off (l::as) H (upd (upd H1 Dd (.lst (M.map λe=>V.ref e.1))) e1 (.lst [])):=off.trans ((Off.put (.inr hD)).trans (Off.put (.inr yP)));have I0:aC H1 (upd (upd H1 Dd (.lst (M.map λe=>V.ref e.1))) e1 (.lst [])):=(av hD _).trans DH;have R3:aJ (upd (upd H1 Dd (.lst (M.map λe=>V.ref e.1))) e1 (.lst [])) T as w':=R1.off (S:= []) (Off.of_same I0) (by simp) (by simp)
   have FY:=I0 _ _ FX;refine ⟨_,_, .lst (aH.of PD) (Eo Ov), .lst (aH.of aa) .nil,?_,_,rfl,?_⟩
   ·rw [PyData.depth]
    have:=fD (f:=λe:Addr×(Nat×Nat)=>lG e.2) (k:=2) (λe=>sC e.2) M
    omega
   generalize Ul:upd (upd H1 Dd (.lst (M.map λe=>V.ref e.1))) e1 (.lst [])=H3 at*;refine sN (λc=>?_) (λc=>?_)
   ·have hM0:0<M.length:=by
     cases M with
     |nil=>simp [PyData.eqv,PyData.eqvAll] at c
     |cons _ _=>simp
    refine ⟨_,rfl,_,rfl,_,rfl,Dd,_,rfl, .inl (aH.of PD),?_⟩;rw [aN];refine ⟨l,ds,_,rfl,FY,oj,by omega,by omega,by omega,λdI jZ d0 d1 sI LF=>?_⟩
    obtain ⟨d,rfl⟩:=qT d0;have hd:d<M.length:=by omega
    have nlD:Dd≠l:=λz=>nDl z.symm;have Uk:upd H3 l (.lst (jZ.map V.int)) Dd=some (.lst (M.map λe=>V.ref e.1)):=by rw [ab nlD];exact PD
    obtain ⟨US,LB,Vb⟩:=hM _ (oK hd);have ml:=sd.dart _ US;have xN:=Ov _ (oK hd);have ntl:(M[d]).1≠l:=λz=>by rw [z,FY] at xN;cases xN
    refine ⟨Dd,_,_, .ref (M[d]).1,rfl,rfl,aH.of Uk,ck (by rw [bW,dh hd];rfl),?_⟩
    refine ⟨(M[d]).1,_,rfl,dX.of (by rw [ab ntl];exact xN),rfl,_,_,rfl,_,_,rfl,rfl,?_⟩
    generalize M[d]=me at*;obtain ⟨at0,u,v⟩:=me;dsimp only at*;have hu:u<w'.length:=cQ ml
    have R4:aJ (upd H3 l (.lst (jZ.map V.int))) T as w':=R3.keep λb hb=>by
     refine ab λz=>?_
     rcases hb with hb|hb
     ·exact tT (z.symm.trans hb)
     ·rw [z] at hb;exact j5 hb
    have y1:=R4.row p a ha;have rlp:=bU g p;have rlu:=bU g u;have QB:=qR.mpr wX;have jlt:(row w' u).idxOf v<(row w' u).length:=qR.mpr ml;refine ⟨_,rfl,_,rfl,T,_,_,_,rfl,rfl,aH.of R4.top,nZ, .inl ⟨rfl,_,aH.of y1⟩,?_⟩;refine ⟨_,rfl,_,rfl,T,_,_,_,rfl,rfl,aH.of R4.top,nZ, .inl ⟨rfl,_,aH.of y1⟩,_,rfl,?_⟩;refine ⟨a,_,_,(row w' p).idxOf r,_,rfl,rfl,y1,rfl,kY _,g6 (qe wX),nk r,pq (g.nod _) wX,?_⟩;refine ⟨_,rfl,a,_,_,_,rfl,rfl,y1,by omega,by rw [bN];omega,m6 (by rw [bN];exact rlp) (bF (by omega)),?_⟩
    rw [jL,←nU];have R5:aJ (upd (upd H3 l (.lst (jZ.map V.int))) a (.lst (aS (ins (row w' p) ((row w' p).idxOf r) u)))) T as (w'.set p (ins (row w' p) ((row w' p).idxOf r) u)):=R4.put ha (λb _ hb=>ab hb) aa;obtain ⟨a2,Iz,_⟩:=R4.at hu;have mr:=R5.row u a2 Iz;rw [fK hp,if_neg (Ne.symm LB)] at mr;have at2:fB (as.map V.ref) ((u:Nat):Int)=some (.ref a2):=ck (by rw [bW,Iz];rfl)
    refine ⟨_,rfl,_,rfl,T,_,_,_,rfl,rfl,aH.of R5.top,at2, .inl ⟨rfl,_,aH.of mr⟩,?_⟩;refine ⟨_,rfl,_,rfl,T,_,_,_,rfl,rfl,aH.of R5.top,at2, .inl ⟨rfl,_,aH.of mr⟩,_,rfl,?_⟩;refine ⟨a2,_,_,(row w' u).idxOf v,_,rfl,rfl,mr,rfl,kY _,g6 (qe ml),nk v,pq (g.nod _) ml,?_⟩;refine ⟨_,rfl,a2,_,_,_,rfl,rfl,mr,by omega,by rw [bN];omega,m6 (by rw [bN];exact rlu) (bF (by omega)),?_⟩
    rw [jL,←nU];have R6:aJ (upd (upd (upd H3 l (.lst (jZ.map V.int))) a (.lst (aS (ins (row w' p) ((row w' p).idxOf r) u)))) a2 (.lst (aS (ins (row w' u) ((row w' u).idxOf v) p)))) T as (lP w' p ((row w' p).idxOf r) u ((row w' u).idxOf v)):=R5.put Iz (λb _ hb=>ab hb) aa;have L1:l≠a:=λz=>j5 (by rw [z];exact dD ha)
    have V8:l≠a2:=λz=>j5 (by rw [z];exact dD Iz)
    refine q _ jZ _ ?_ R6 (xM g hp hu LB Vb) (qL _ _ _ _ _) ?_ sI (by omega) (by rw [Ap hp hu LB];exact aV _) (.inr ⟨p,r,u,v,wX,ml,LB,Vb,λhb=>let ⟨r1,OL,hm⟩:=hbr hb;⟨r1,OL,hm _ US⟩,rfl⟩)
    ·exact Om.trans ((Off.put (.inl cC)).trans ((Off.put (.inl (cA _ (dD ha)))).trans (Off.put (.inl (cA _ (dD Iz))))))
    ·rw [ab V8,ab L1,aa]
   ·exact q w' ds _ Om R3 g rfl FY oj Jc (by omega) (.inl rfl)
 have vk:(["_law_s","_law_q"]:List Str).Nodup:=by decide+kernel
 refine ⟨_,az (bP (i:=3) nd rfl (Or.inr rfl) (bh gT hr rfl Tk.m Tk.F.kp Tk.b .nil bY (ae (pv 1) (ae (b8 cc rfl B.len PySem.boot_len (ae (pv 0) aq)) aq))))
  (az (bP (i:=4) nd rfl (Or.inl rfl) (b9 bx (b9 bx (pv 0) (pv 3) (λ_ _=>rfl)) (bh gT hr rfl Tk.m Tk.F.kp Tk.b .nil bY (ae (pv 1) (ae (b8 cc rfl B.len PySem.boot_len (ae (b9 bx (pv 0) (pv 3) (λ_ _=>rfl)) aq)) aq))) (λ_ _=>rfl)))
  (az (bP (i:=5) nd rfl (Or.inl rfl) (bh gR hr rfl Rd.m Rd.F.kp Rd.b .nil bY (ae (pv 0) (ae (t9 (ae (pv 3) (ae (pv 4) aq))) aq))))
  (az (vC (EH (Mr (pv 2)))
   (az (bP (i:=5) nd rfl (Or.inl rfl) (dF aq))
   (aX (iQ PassesOwn.never rfl (vA rfl B.enumerate (ae (pv 0) aq)) (nO rfl (eG (bT (i:=6) nd rfl (Or.inr rfl)) (eG (bT (i:=7) nd rfl (Or.inl rfl)) kg)))
    (aX (cN (dZ PySem.F.plainAttrs_list PySem.F.slot_list_extend PySem.F.type_list_extend vj (pv 5) (ae (C9 (NC:= ["_law_s","_law_q"]) (src:= [none,some 6]) rfl (bp.of (ao vK) rfl rfl (by decide+kernel) (by decide+kernel) (by decide+kernel)) ⟨rfl,rfl,trivial⟩ (kh (pv 7))
     (λ_ _ _=>bT (i:=0) vk rfl (Or.inl rfl)) (λ_ _ _=>mG) (λ_ _ _=>t9 (ae (pv 1) (ae (pv 0) aq)))) aq))))))) mF) pE))),?_⟩
 have Iw:H T=_:=R.top;have lmap:(as.map V.ref).length=w'.length:=by rw [aN,R.len]
 refine ⟨_,rfl,_,rfl,T,_,rfl, .inl (aH.of R.top),l,ns,_,rfl,hl,mn,by omega,by omega,by omega,λdI n0 d0 d1 oj Jc=>?_⟩
 obtain ⟨p,rfl⟩:=qT d0;have hp:p<w'.length:=by omega
 have keep:∀(o:HO),aJ (upd H l o) T as w':=λo=>R.keep λb hb=>by
  refine ab λz=>?_
  rcases hb with hb|hb
  ·exact tT (z.symm.trans hb)
  ·rw [z] at hb;exact j5 hb
 have R1:=keep (.lst (n0.map V.int));obtain ⟨a,ha,hZ⟩:=R1.at hp;have nZ:fB (as.map V.ref) ((p:Nat):Int)=some (.ref a):=ck (by rw [bW,ha];rfl)
 have rne:=My g h2 hp;have aan:0<(row w' p).length:=BP.mpr rne;have rl:=bU g p;have Xl:=bN (row w' p);refine ⟨_,rfl,_,rfl,T,_,_,_,rfl,rfl,aH.of R1.top,nZ,?_⟩;refine ⟨_,rfl,_,rfl,_,rfl,T,_,_,_,rfl,rfl,aH.of R1.top,nZ,a,_,rfl, .inl (aH.of hZ),l,n0,_,rfl,aa,oj,by omega,by omega,by omega,λdI2 jZ e0 e1 sI LF=>?_⟩
 rw [qM];obtain ⟨j,rfl⟩:=qT e0;have hj:j<(row w' p).length:=by omega
 have R2:=keep (.lst (jZ.map V.int));have CF:=R2.row p a ha;refine ⟨a,_,_,_,rfl,rfl,aH.of CF,ck (g6 (dh hj)),?_⟩;have wX:(row w' p)[j]∈row w' p:=oK hj;generalize (row w' p)[j]=r at wX;have Ol:Off (l::as) H (upd H l (.lst (jZ.map V.int))):=Off.put (.inl cC);have AD:upd H l (.lst (jZ.map V.int)) l=some (.lst (jZ.map V.int)):=aa;generalize upd H l (.lst (jZ.map V.int))=H2 at R2 Ol AD;refine ⟨_,rfl,_,rfl,_,rfl,by show 2≤sizeLine;decide,λsd AJ=>?_⟩
 have ss:=av AJ (.tup [V.int (p:Int),V.int (r:Int)]);have R3:aJ (upd H2 sd (.tup [V.int (p:Int),V.int (r:Int)])) T as w':=R2.off (S:= []) (Off.of_same ss) (by simp) (by simp)
 refine ⟨T,sd,as,w',(p,r),rfl,R3,g,bS,aa,wX,λF L k H4 sm4 FJ hF Ey hL hk hit yY=>?_⟩;have Kn:aC H2 H4:=ss.trans sm4;have R4:aJ H4 T as w':=R2.off (S:= []) (Off.of_same Kn) (by simp) (by simp)
 have P8:=Kn _ _ AD;have Oo:Off (l::as) H H4:=Ol.trans (Off.of_same Kn);have ml:aE w' (p,r):=wX;have kd:=vY g ml yY;have dl:=kD g;have OH:∀e∈L,aE w' e.2:=λe he=>pN g ml (k:=k) e.2 (by rw [←hL];exact bz.mpr ⟨e,he,rfl⟩)
 have aac:L.length=k:=by have:=congrArg List.length hL;rw [aN,fu] at this;exact this
 have nFl:F≠l:=λz=>by rw [z,ss _ _ AD] at FJ;cases FJ
 have nFT:F≠T:=λz=>by rw [z,R3.top] at FJ;cases FJ
 have VW:F∉as:=λz=>by
  obtain ⟨i,hi⟩:=gL z;rw [R3.row i F hi] at FJ;cases FJ
 refine ⟨_,rfl,_,rfl,sN (λcB=>?_) (λ_=>?_)⟩
 ·
  refine ⟨by show 0≤sizeLine;decide,λS hS=>?_⟩
  have VZ:S≠l:=λz=>by rw [z,P8] at hS;cases hS
  have VY:S≠T:=λz=>by rw [z,R4.top] at hS;cases hS
  have Ob:S∉as:=λz=>by
   obtain ⟨i,hi⟩:=gL z;rw [R4.row i S hi] at hS;cases hS
  refine ⟨_,rfl,T,rfl,⟨_,(av hS _) _ _ R4.top⟩,xJ (xs:=as.map V.ref) (λi σ H'=>∃(o6 o7:Option V)(L:List (Addr×(Nat×Nat))),σ= [some (.ref T),some (.ref l),some (.bl b),some (.int (p:Int)),some (.int (r:Int)),some (.ref S),o6,o7,none,none]∧aC H4 H'∧H' S=some (.lst (L.map λe=>V.ref e.1))∧oN H' L∧(∀e∈L,aE w' e.2)∧L.length≤i*14) ?_ ?_ ?_ ?_⟩
  ·exact ⟨_,_,[],rfl,av hS _,aa,(λe he=>by cases he),(λe he=>by cases he),cS _⟩
  ·rintro i σ H' _ ⟨o6,o7,L,rfl,sm,_⟩
   exact aH.of (sm _ _ R4.top)
  ·rintro i x t σ H5 hx ht ⟨o6,o7,L,rfl,GK,PM,CB,PR,IK⟩
   rw [bW] at hx;obtain ⟨ai,FO,rfl⟩:=Option.map_eq_some_iff.mp hx;have hi:i<w'.length:=by rw [←R4.len];exact (cF.mp FO).1
   refine ⟨t,_,rfl,dX.of aa,rfl,_,_,rfl,_,_,rfl,rfl,?_⟩;have s6:=av ht (.tup [V.int (i:Int),V.ref ai]);generalize upd H5 t (.tup [V.int (i:Int),V.ref ai])=H6 at s6;have y2:=s6 _ _ (GK _ _ (R4.row i ai FO));have PN:=s6 _ _ PM;have rli:=bU g i;refine ⟨_,rfl, .inl ⟨rfl,_,aH.of PN⟩,_,rfl,ai,rfl,⟨_,aH.of y2⟩,λDd hD=>?_⟩;have L0:S≠Dd:=ah PN hD;refine zd (aS (row w' i)).length (λj ju Hc=>∃(o:Option V)(M:List (Addr×(Nat×Nat))),ju= [o,some (.int (i:Int))]∧aC H6 Hc∧Hc Dd=some (.lst (M.map λe=>V.ref e.1))∧oN Hc M∧(∀e∈M,aE w' e.2)∧M.length≤j) ?_ ?_ ?_ ?_ ?_
   ·exact ⟨none,[],rfl,av hD _,aa,(λe he=>by cases he),(λe he=>by cases he),aV _⟩
   ·rintro j ju Hc hj ⟨o,M,rfl,xh,_⟩
    exact ⟨_,_,aH.of (xh _ _ y2),dh hj⟩
   ·rintro j ju Hc hj ⟨o,M,rfl,xh,_⟩
    exact ⟨_,aH.of (xh _ _ y2),hj⟩
   ·rintro j x ju Hc H7 hj ⟨o,M,rfl,xh,hM,CC,PU,Qc⟩ ⟨rfl,hx⟩
    obtain ⟨n,hn,rfl⟩:=rY (hx _ (aH.of (xh _ _ y2)));refine Il ?_;refine ⟨_,rfl,_,rfl,by show 2≤sizeLine;decide,λtt wY=>?_⟩
    have s8:=av wY (.tup [V.int (i:Int),V.int (n:Int)]);have N0:upd H7 tt (.tup [V.int (i:Int),V.int (n:Int)]) tt=some (.tup (gG (i,n))):=aa;generalize upd H7 tt (.tup [V.int (i:Int),V.int (n:Int)])=H8 at s8 N0;have ntD:tt≠Dd:=λz=>by rw [z,hM] at wY;cases wY
    refine ⟨_,s8 _ _ hM,m6 (by rw [aN];exact Qc) (bF (by rw [bN] at hj;omega)),_,M++ [(tt,(i,n))],rfl,λb u eb=>?_,?_,λe he=>?_,λe he=>?_,by simp;omega⟩
    ·rw [ab (ah eb hD)];exact s8 _ _ (xh _ _ eb)
    ·rw [aa,dP];rfl
    ·rcases cw.mp he with z|z
     ·have:=CC e z
      rw [ab (λy=>by rw [y,hM] at this;cases this)]
      exact s8 _ _ this
     ·have z':e=(tt,(i,n)):=by simpa using z
      rw [z',ab ntD];exact N0
    ·rcases cw.mp he with z|z
     ·exact PU e z
     ·have z':e=(tt,(i,n)):=by simpa using z
      rw [z'];exact dD hn
   ·rintro ju Hc ⟨o,M,rfl,xh,hM,CC,PU,Qc⟩
    rw [bN] at Qc;have Ur:=xh _ _ PN;refine ⟨S,Dd,_,_,rfl,rfl,Ur,hM,small (by simp;omega),?_⟩
    refine ⟨_,_,L++M,rfl,λb u eb=>?_,?_,λe he=>?_,λe he=>?_,by simp;omega⟩
    ·rw [ab (ah eb hS)];exact xh _ _ (s6 _ _ (GK _ _ eb))
    ·rw [aa,dP]
    ·have hh:Hc e.1=some (.tup (gG e.2)):=by
      rcases cw.mp he with z|z
      ·exact xh _ _ (s6 _ _ (CB e z))
      ·exact CC e z
     rw [ab (λy=>by rw [y,Ur] at hh;cases hh)];exact hh
    ·rcases cw.mp he with z|z
     ·exact PR e z
     ·exact PU e z
  ·rintro σ H5 ⟨o6,o7,L,rfl,GK,PM,CB,PR,IK⟩
   rw [aN,R4.len] at IK;exact rE p r S L jZ o6 o7 H5 (Oo.trans (Off.of_same GK)) (R4.off (S:= []) (Off.of_same GK) (by simp) (by simp)) hp wX ⟨PM,CB,PR,by omega⟩ (λhb=>by rw [hb] at cB;cases cB) (GK _ _ P8) sI (by omega) VZ VY Ob
 ·exact rE p r F L jZ none none H4 Oo R4 hp wX ⟨hF,Ey,OH,by omega⟩ (λ_=>⟨_,⟨k,hk,hit,yY,rfl⟩,λe he=>by rw [←hL];exact bz.mpr ⟨e,he,rfl⟩⟩) P8 sI (by omega) nFl nFT VW
end
abbrev Bm:Stmt:=top 37
theorem aJ.Xj{H H':Hp}{T:Addr}{as:List Addr}{w:W}(R:aJ H T as w){k:Nat}{a:Addr}{r:List Nat}(hk:k<w.length)(na:a∉as)(naT:a≠T)(h:∀b,b∈as→H' b=H b)(eT:H' T=some (.lst ((as.set k a).map V.ref)))
  (e:H' a=some (.lst (aS r))):aJ H' T (as.set k a) (w.set k r):=by
 have gB:k<as.length:=by rw [R.len];exact hk
 refine ⟨eT,?_,λz=>?_,by rw [gm,gm];exact R.len,λi b hb=>?_⟩
 ·unfold List.Nodup
  rw [wu];intro i j hi hj lt;rw [gm] at hi hj;rw [List.getElem_set,List.getElem_set];have pw:=wu.mp R.nod
  split
  ·split
   ·omega
   ·intro z;exact na (by rw [z];exact oK hj)
  ·split
   ·intro z;exact na (by rw [←z];exact oK hi)
   ·exact pw i j hi hj lt
 ·rcases D9 z with z|z
  ·exact R.nT z
  ·exact naT z.symm
 ·rw [fK hk]
  rw [qU] at hb
  by_cases hi:k=i
  ·rw [if_pos hi,if_pos gB] at hb
   cases hb;rw [if_pos hi];exact e
  ·rw [if_neg hi] at hb
   rw [if_neg hi,h b (dD hb)];exact R.row i b hb
theorem Jk{n k:Nat}(h:k<n):iw n (k:Int)=some k:=by
 unfold iw;rw [if_pos (by omega),if_pos (by omega),jL]
theorem K2(xs:List V)(b:Nat):gK xs (some (b:Int)) none=xs.drop b:=by
 unfold gK;rw [HT.Bl,HT.ym]
 by_cases h:b≤xs.length
 ·rw [Nat.min_eq_left h,mZ (by rw [iJ];exact aV _)]
 ·rw [Nat.min_eq_right (by omega),wx (aV _),wx (by omega)];simp
theorem K1(xs:List V)(b:Nat):gK xs none (some (b:Int))=xs.take b:=by
 unfold gK;rw [HT.Bl,HT.ym,List.drop_zero,Nat.sub_zero]
 by_cases h:b≤xs.length
 ·rw [Nat.min_eq_left h]
 ·rw [Nat.min_eq_right (by omega),mZ (aV _),mZ (by omega)]
theorem Dx(r:List Nat)(b:Nat):(aS r).take b=aS (r.take b):=by unfold aS;rw [List.map_take]
theorem Dw(r:List Nat)(b:Nat):(aS r).drop b=aS (r.drop b):=by unfold aS;rw [List.map_drop]
theorem GH(r s:List Nat):aS r++aS s=aS (r++s):=by unfold aS;rw [dP]
theorem GG{α:Type}(l:List α)(b:Nat):(l.drop b++l.take b).Perm l:=by
 have:=(wC (l₁:=l.drop b) (l₂:=l.take b))
 rwa [kq] at this
structure Ord (ord:List Nat) (n:Nat):Prop where
 pm:ord.Perm (List.range n)
theorem Ord.len{ord:List Nat}{n:Nat}(o:Ord ord n):ord.length=n:=by rw [o.pm.length_eq,iG]
theorem Ord.get{ord:List Nat}{n p:Nat}(o:Ord ord n)(h:p<n):ord[p]? =some (ord.getD p 0):=by
 rw [eS,dh (by rw [o.len];exact h)];rfl
theorem Ord.into{ord:List Nat}{n p:Nat}(o:Ord ord n)(h:p<n):ord.getD p 0<n:=gP.mp (o.pm.mem_iff.mp (dD (o.get h)))
theorem Ord.inj{ord:List Nat}{n p q:Nat}(o:Ord ord n)(hp:p<n)(hq:q<n)(e:ord.getD p 0=ord.getD q 0):p=q:=by
 have nd:ord.Nodup:=o.pm.nodup_iff.mpr List.nodup_range;have h1:=o.get hp;rw [e] at h1;exact get_inj nd h1 (o.get hq)
theorem Ord.sur{ord:List Nat}{n y:Nat}(o:Ord ord n)(h:y<n):∃p,p<n∧ord.getD p 0=y:=by
 have:=o.pm.mem_iff.mpr (gP.mpr h)
 obtain ⟨p,hp⟩:=gL this;have lt:=(cF.mp hp).1;rw [o.len] at lt
 have:=o.get lt
 rw [hp] at this;exact ⟨p,lt,(Option.some.inj this).symm⟩
structure ON (H:Hp) (T:Addr) (as:List Addr) (w:W):Prop where
 top:H T=some (.lst (as.map V.ref))
 len:as.length=w.length
 row:∀(i:Nat) a,as[i]? =some a→H a=some (.lst (aS (Wb.row w i)))
def Ri:Sp:=λvs H Q _=>∃(T O l:Addr)(as:List Addr)(w:W)(ord:List Nat)(ns:List Int),vs= [.ref T, .ref O, .ref l]∧ON H T as w∧Good w∧w.length≤14∧H O=some (.lst (aS ord))∧Ord ord w.length∧H l=some (.lst (ns.map V.int))∧ns≠ []∧ns.length≤2∧l≠T∧l∉as∧l≠O∧
 ∀(F:Addr)(fs:List Addr)(w':W)(H':Hp),Off [l] H H'→H F=none→(∀a∈fs,H a=none)→aJ H' F fs w'→Good w'→w'.length=w.length→fC w'=fC w→(∀p,p<w.length→∃b,row w' (ord.getD p 0)=((row w p).map λx=>ord.getD x 0).drop b++((row w p).map λx=>ord.getD x 0).take b)→Q (.ref F) H'
section
variable {P:Program} {w:World} {K:PySem.W.Frag} {mg:Str→Option Value} {base:Heap}
theorem Kk:aL ["_law_turns","_law_order","_law_left","_law_found","_law_p","_law_turn","_law_begin","_law_names"] ["_law_turns","_law_order","_law_left"] (ao Bm):=⟨rfl,rfl,rfl,by decide+kernel,rfl,by decide+kernel,by decide+kernel⟩
theorem L8(B:wG mg)(Tk:bX K mg "_law_take" r8 ["_law_left","_law_many"])(D:bX K mg "_law_renamed" Bm ["_law_turns","_law_order","_law_left"]):FnOk P w K mg base cq 2 D.f D.fd ["_law_turns","_law_order","_law_left"] Ri:=by
 refine D.F.ok Kk (λvs H Q E h=>?_) (λbu A outer s H vs Q E hr h=>?_)
 ·obtain ⟨T,O,l,as,w,ord,ns,rfl,_⟩:=h
  rfl
 obtain ⟨T,O,l,as,w',ord,ns,rfl,R,g,bS,hO,od,hl,mn,hz,tT,j5,V7,q⟩:=h;have nd:=Kk.nd;have rN:(["_law_turn"]:List Str).Nodup:=by decide+kernel
 have n9:(["_law_q","_law_order"]:List Str).Nodup:=by decide+kernel
 have gT:=qs (P:=P) (w:=w) (base:=base) B Tk
 refine ⟨_,az (iZ (i:=3) (NC:= ["_law_turn"]) (src:= [none]) rfl nd rfl (Or.inl rfl) (bp.of (ao Bm) rfl rfl (by decide+kernel) (by decide+kernel) (by decide+kernel)) trivial (kh (pv 0))
    (λ_ _ _=>bT (i:=0) rN rfl (Or.inl rfl)) (λ_ _ _=>mG) (λ_ _ _=>dF aq) rfl)
  (az (iQ PassesOwn.never rfl (vA rfl B.enumerate (ae (pv 0) aq)) (nO rfl (eG (bT (i:=4) nd rfl (Or.inl rfl)) (eG (bT (i:=5) nd rfl (Or.inl rfl)) kg)))
   (az (bP (i:=6) nd rfl (Or.inl rfl) (bh gT hr rfl Tk.m Tk.F.kp Tk.b .nil bY (ae (pv 2) (ae (cm gF (b8 cc rfl B.len PySem.boot_len (ae (pv 5) aq)) aO) aq))))
   (az (iZ (i:=7) (NC:= ["_law_q","_law_order"]) (src:= [none,some 1]) rfl nd rfl (Or.inl rfl) (bp.of (ao Bm) rfl rfl (by decide+kernel) (by decide+kernel) (by decide+kernel)) ⟨rfl,rfl,trivial⟩ (kh (pv 5))
    (λ_ _ _=>bT (i:=0) n9 rfl (Or.inl rfl)) (λ_ _ _=>mG) (λ_ _ _=>b9 (xQ (K:=K)) (pv 1) (pv 0) (λ_ _=>rfl)) rfl)
   (aX (nP (cm zw (nN qI (pv 7) (mE (pv 6)) vB) (nN qI (pv 7) vB (mE (pv 6)))) (zy (pv 3) (b9 bx (pv 1) (pv 4) (λ_ _=>rfl)) set_list))))))
  (aX (fm (pv 3)))),?_⟩
 refine ⟨_,rfl,T,rfl,⟨_,aH.of R.top⟩,λF hF=>?_⟩;refine zd (as.map V.ref).length (λi ju Hc=>∃(o:Option V)(fs:List Addr),ju= [o]∧aC H Hc∧Hc F=some (.lst (fs.map V.ref))∧fs.Nodup∧F∉fs∧(∀a∈fs,H a=none∧Hc a=some (.lst []))∧fs.length=i) ?_ ?_ ?_ ?_ ?_
 ·exact ⟨none,[],rfl,av hF _,aa,kr,(by simp),(λa ha=>by cases ha),rfl⟩
 ·rintro i ju Hc hi ⟨o,fs,rfl,sm,_⟩
  exact ⟨_,_,aH.of (sm _ _ R.top),dh hi⟩
 ·rintro i ju Hc hi ⟨o,fs,rfl,sm,_⟩
  exact ⟨_,aH.of (sm _ _ R.top),hi⟩
 ·rintro i x ju Hc H3 hi ⟨o,fs,rfl,sm,hf,nf,nF,fr,hl⟩ ⟨rfl,hx⟩
  rw [aN,R.len] at hi;refine Il ?_;refine ⟨by show 0≤sizeLine;decide,λr gW=>?_⟩
  have QQ:r≠F:=λz=>by rw [z,hf] at gW;cases gW
  have Oi:r∉fs:=λz=>by rw [(fr r z).2] at gW;cases gW
  refine ⟨_,by rw [ab (Ne.symm QQ)];exact hf,bF (by simp;omega),_,fs++ [r],rfl,λb u eb=>?_,?_,?_,?_,λa ha=>?_,by simp [hl]⟩
  ·rw [ab (ah eb hF),ab (ah (sm _ _ eb) gW)];exact sm _ _ eb
  ·rw [aa,dP];rfl
  ·rw [cJ]
   exact ⟨nf,by simp,λx hx y hy z=>by
    have:y=r:=by simpa using hy
    rw [this] at z;rw [z] at hx;exact Oi hx⟩
  ·intro z
   rcases cw.mp z with z|z
   ·exact nF z
   ·have:F=r:=by simpa using z
    exact QQ this.symm
  ·rcases cw.mp ha with z|z
   ·refine ⟨(fr a z).1,?_⟩
    rw [ab (λy=>nF (by rw [←y];exact z)),ab (λy=>Oi (by rw [←y];exact z))]
    exact (fr a z).2
   ·have:a=r:=by simpa using z
    rw [this];exact ⟨sm.free gW,by rw [ab QQ,aa]⟩
 rintro ju H1 ⟨o,Ua,rfl,DH,Z4,nf0,nF0,Ij,FW⟩;rw [aN,R.len] at FW;have FX:=DH _ _ hl;have QO:l≠F:=λz=>by rw [z,hF] at hl;cases hl
 have R1:aJ H1 F Ua (List.replicate w'.length []):=by
  refine ⟨Z4,nf0,nF0,by rw [FW,tw],λi a e=>?_⟩
  have hz:row (List.replicate w'.length []) i= []:=by
   unfold row;rw [eS,BL]
   split<;>rfl
  rw [hz];exact (Ij a (dD e)).2
 refine ⟨_,rfl,T,rfl,⟨_,DH _ _ R.top⟩,xJ (xs:=as.map V.ref) (λi σ H'=>∃(o4 o5 o6 o7:Option V)(fs:List Addr)(w1:W)(ds:List Int),σ= [some (.ref T),some (.ref O),some (.ref l),some (.ref F),o4,o5,o6,o7]∧Off [l] H H'∧aJ H' F fs w1∧(∀a∈fs,H a=none)∧w1.length=w'.length∧
   (∀p,p<i→∃b,row w1 (ord.getD p 0)=((row w' p).map λx=>ord.getD x 0).drop b++((row w' p).map λx=>ord.getD x 0).take b)∧H' l=some (.lst (ds.map V.int))∧ds≠ []∧ds.length≤2) ?_ ?_ ?_ ?_⟩
 ·exact ⟨_,_,_,_,Ua,_,ns,rfl,Off.of_same DH,R1,λa ha=>(Ij a ha).1,tw,(λp hp=>by omega),FX,mn,hz⟩
 ·rintro i σ H' _ ⟨o4,o5,o6,o7,fs,w1,ds,rfl,off,_⟩
  exact aH.of (off _ _ (by simpa using Ne.symm tT) R.top)
 ·rintro i x t σ H5 hx ht ⟨o4,o5,o6,o7,fs,w1,ds,rfl,off,R5,oV,jh,vF,IK,NX,hz5⟩
  rw [bW] at hx;obtain ⟨ai,FO,rfl⟩:=Option.map_eq_some_iff.mp hx;have hi:i<w'.length:=by rw [←R.len];exact (cF.mp FO).1
  have Of:l≠ai:=λz=>j5 (by rw [z];exact dD FO)
  have mr:H5 ai=_:=off _ _ (by simpa using Ne.symm Of) (R.row i ai FO)
  have Cr:H5 O=_:=off _ _ (by simpa using Ne.symm V7) hO
  refine ⟨t,_,rfl,dX.of aa,rfl,_,_,rfl,_,_,rfl,rfl,?_⟩;have s6:=av ht (.tup [V.int (i:Int),V.ref ai]);generalize upd H5 t (.tup [V.int (i:Int),V.ref ai])=H6 at s6;have rli:=bU g i;have Xl:=bN (row w' i);refine ⟨_,rfl,_,rfl,ai,_,rfl, .inl (aH.of (s6 _ _ mr)),_,_,rfl,rfl,l,ds,_,rfl,s6 _ _ IK,NX,by omega,by omega,by omega,λdI n0 d0 d1 oj Jc=>?_⟩
  obtain ⟨b,rfl⟩:=qT d0;have JN:Off [l] H (upd H6 l (.lst (n0.map V.int))):=(off.trans (Off.of_same s6)).trans (Off.put (.inl cC));have uQ:upd H6 l (.lst (n0.map V.int)) l=some (.lst (n0.map V.int)):=aa;have V9:l∉fs:=λz=>by rw [oV l z] at hl;cases hl
  have R7:aJ (upd H6 l (.lst (n0.map V.int))) F fs w1:=(R5.off (S:= []) (Off.of_same s6) (by simp) (by simp)).keep λb hb=>by
   refine ab λz=>?_
   rcases hb with hb|hb
   ·exact QO (z.symm.trans hb)
   ·rw [z] at hb;exact V9 hb
  have uU:upd H6 l (.lst (n0.map V.int)) ai=some (.lst (aS (row w' i))):=by rw [ab (Ne.symm Of)];exact s6 _ _ mr
  have FL:upd H6 l (.lst (n0.map V.int)) O=some (.lst (aS ord)):=by rw [ab (Ne.symm V7)];exact s6 _ _ Cr
  generalize upd H6 l (.lst (n0.map V.int))=H7 at JN uQ R7 uU FL;refine ⟨_,rfl,ai,rfl,⟨_,aH.of uU⟩,λNm Uq=>?_⟩;refine zd (aS (row w' i)).length (λj ju Hc=>∃(o:Option V),ju= [o,some (.ref O)]∧aC H7 Hc∧Hc Nm=some (.lst (aS (((row w' i).take j).map λx=>ord.getD x 0)))) ?_ ?_ ?_ ?_ ?_
  ·exact ⟨none,rfl,av Uq _,aa⟩
  ·rintro j ju Hc hj ⟨o,rfl,sm,_⟩
   exact ⟨_,_,aH.of (sm _ _ uU),dh hj⟩
  ·rintro j ju Hc hj ⟨o,rfl,sm,_⟩
   exact ⟨_,aH.of (sm _ _ uU),hj⟩
  ·rintro j x ju Hc H8 hj ⟨o,rfl,sm,hN⟩ ⟨rfl,hx⟩
   obtain ⟨n,hn,rfl⟩:=rY (hx _ (aH.of (sm _ _ uU)));have Qh:n<w'.length:=g.rng _ _ (dD hn);refine Il ?_;refine ⟨_,rfl,_,rfl,O,_,_,_,rfl,rfl,aH.of (sm _ _ FL),ck (g6 (od.get Qh)),?_⟩;refine ⟨_,hN,m6 (by rw [bN,aN,iI];exact Nat.min_le_right _ _) (bF (by omega)),_,rfl,λb u eb=>?_,?_⟩
   ·rw [ab (ah eb Uq)];exact sm _ _ eb
   ·obtain ⟨bG,hg⟩:=cF.mp hn
    rw [aa,List.take_succ_eq_append_getElem bG,hg,dP];unfold aS;rw [dP];rfl
  rintro ju H8 ⟨o,rfl,XM,Lp⟩;rw [Xl,List.take_length] at Lp;generalize UZ:((row w' i).map λx=>ord.getD x 0)=nm at Lp;have nml:nm.length≤14:=by rw [←UZ,aN];omega
  refine ⟨_,rfl,_,rfl,_,rfl,Nm,_,rfl,aH.of Lp,λc1 hc1=>?_⟩;rw [K2,Dw];have s9:=av hc1 (.lst (aS (nm.drop b)));have e9:upd H8 c1 (.lst (aS (nm.drop b))) c1=_:=aa;generalize upd H8 c1 (.lst (aS (nm.drop b)))=H9 at s9 e9;refine ⟨_,rfl,_,rfl,_,rfl,Nm,_,rfl,aH.of (s9 _ _ Lp),λc2 Cv=>?_⟩;rw [K1,Dx];have zE:=av Cv (.lst (aS (nm.take b)));have TV:upd H9 c2 (.lst (aS (nm.take b))) c2=_:=aa;generalize upd H9 c2 (.lst (aS (nm.take b)))=yA at zE TV;refine ⟨c1,c2,_,_,rfl,rfl,zE _ _ e9,TV,small (by rw [bN,bN,iJ,iI];omega),λc3 Uu=>?_⟩
  rw [GH];have Dz:=av Uu (.lst (aS (nm.drop b++nm.take b)));have TX:upd yA c3 (.lst (aS (nm.drop b++nm.take b))) c3=_:=aa;have sF:yA c3=none:=Uu;generalize upd yA c3 (.lst (aS (nm.drop b++nm.take b)))=Fe at Dz TX;have EO:aC H7 Fe:=XM.trans (s9.trans (zE.trans Dz));have EN:aC H7 yA:=XM.trans (s9.trans zE);have OM:aJ Fe F fs w1:=R7.off (S:= []) (Off.of_same EO) (by simp) (by simp)
  have Qi:=od.into hi;have lfs:(fs.map V.ref).length=w'.length:=by rw [aN,R7.len,jh]
  refine ⟨_,rfl,_,rfl,_,rfl,O,_,_,_,rfl,rfl,aH.of (EO _ _ FL),ck (g6 (od.get hi)),F,_,_,ord.getD i 0,rfl,rfl,OM.top,by rw [lfs];exact Jk Qi,?_⟩
  have Oc:c3≠F:=λz=>by rw [z,EN _ _ R7.top] at sF;cases sF
  have QN:c3∉fs:=λz=>by
   obtain ⟨k,hk⟩:=gL z;rw [EN _ _ (R7.row k c3 hk)] at sF;cases sF
  have Uv:H c3=none:=by
   cases e:H c3 with
   |none=>rfl
   |some u=>
    by_cases z:c3=l
    ·rw [z,EN _ _ uQ] at sF;cases sF
    ·rw [EN _ _ (JN _ _ (by simpa using z) e)] at sF;cases sF
  have aam:l≠F:=QO;refine ⟨_,_,_,_,fs.set (ord.getD i 0) c3,w1.set (ord.getD i 0) (nm.drop b++nm.take b),n0,rfl,?_,?_,λa ha=>?_,by rw [gm];exact jh,λp hp=>?_,?_,oj,by omega⟩
  ·exact λb u hb eb=>by rw [ab (ah eb hF)];exact EO _ _ (JN b u hb eb)
  ·refine OM.Xj (by rw [jh];exact Qi) QN Oc (λb hb=>ab λz=>OM.nT (by rw [←z];exact hb)) ?_ ?_
   ·rw [aa,List.map_set]
   ·rw [ab Oc];exact TX
  ·rcases D9 ha with z|z
   ·exact oV a z
   ·rw [z];exact Uv
  ·rw [fK (by rw [jh];exact Qi)]
   by_cases e:p=i
   ·subst e
    rw [if_pos rfl,UZ];exact ⟨b,rfl⟩
   ·rw [if_neg (λz=>e (od.inj (by omega) hi z.symm))]
    exact vF p (by omega)
  ·rw [ab QO];exact EO _ _ uQ
 ·rintro σ H5 ⟨o4,o5,o6,o7,fs,w1,ds,rfl,off,R5,oV,jh,vF,IK,NX,hz5⟩
  rw [aN,R.len] at vF
  have Mo:∀p,p<w'.length→(row w1 (ord.getD p 0)).Perm ((row w' p).map λx=>ord.getD x 0):=λp hp=>by
   obtain ⟨b,e⟩:=vF p hp;rw [e];exact GG _ b
  exact ⟨_,rfl,q F fs w1 H5 off hF oV R5 (FH g jh (λp hp=>od.into hp) (λp q hp hq e=>od.inj hp hq e) (λy hy=>od.sur hy) λp hp=>Mo p hp) jh (HM jh od.pm λp hp=>Mo p hp) vF⟩
end
abbrev Kj:Stmt:=top 38
theorem boot_int:bootBuiltins "int"=some (.type "int"):=by decide+kernel
def MR(K:PySem.W.Frag):Sp:=λvs H Q _=>∃(a:Addr)(ns:List Int)(m:Int)(b:Bool),vs= [.ref a, .int m, .bl b]∧aH K H a (ns.map V.int)∧ns.length≤63∧1≤m∧m≤14∧
 ∀(F:Addr)(fs:List Addr)(w':W)(H':Hp),aC H H'→H F=none→(∀a∈fs,H a=none)→aJ H' F fs w'→Good w'→1≤w'.length→(w'.length:Int)≤m→fC w'≤102→Eu b w'→Q (.ref F) H'
section
variable {P:Program} {w:World} {K:PySem.W.Frag} {mg:Str→Option Value} {base:Heap}
theorem EU:aL ["_law_script","_law_most","_law_plane","_law_left","_law_many","_law_turns","_law_order","_law_k","_law_at"] ["_law_script","_law_most","_law_plane"] (ao Kj):=⟨rfl,rfl,rfl,by decide+kernel,rfl,by decide+kernel,by decide+kernel⟩
theorem JT(B:wG mg)(Ce:bX K mg "_law_cell" vH ["_law_script","_law_k"])(Mi:bX K mg "_law_mixed" ub ["_law_script","_law_turn"])(Di:bX K mg "_law_digits" vI ["_law_script","_law_at"])(Tk:bX K mg "_law_take" r8 ["_law_left","_law_many"])
  (Tr:bX K mg "_law_tree" DB ["_law_many","_law_left"]) (Nx:bX K mg "_law_next" vJ ["_law_turns","_law_side"]) (Rd:bX K mg "_law_round" uc ["_law_turns","_law_side"]) (Ti:bX K mg "_law_tie" vK ["_law_turns","_law_left","_law_plane"]) (Re:bX K mg "_law_renamed" Bm ["_law_turns","_law_order","_law_left"])
  (D:bX K mg "_law_web" Kj ["_law_script","_law_most","_law_plane"]):FnOk P w K mg base cq 4 D.f D.fd ["_law_script","_law_most","_law_plane"] (MR K):=by
 refine D.F.ok EU (λvs H Q E h=>?_) (λbu A outer s H vs Q E hr h=>?_)
 ·obtain ⟨a,ns,m,b,rfl,_⟩:=h
  rfl
 obtain ⟨a,ns,m,b,rfl,hS,oX,m1,m14,q⟩:=h;have nd:=EU.nd;have gD:=C3 (P:=P) (w:=w) (base:=base) B Ce Mi Di;have gT:=(qs (P:=P) (w:=w) (base:=base) B Tk).mono (show 1≤3 by decide)
 have ZW:=(JS (P:=P) (w:=w) (base:=base) B Tk Tr).mono (show 2≤3 by decide)
 have ZV:=L9 (P:=P) (w:=w) (base:=base) B Tk Nx Rd Ti;have ZU:=(L8 (P:=P) (w:=w) (base:=base) B Tk Re).mono (show 2≤3 by decide)
 refine ⟨_,az (bP (i:=3) nd rfl (Or.inl rfl) (bh gD hr rfl Di.m Di.F.kp Di.b .nil bY (ae (pv 0) (ae aO aq))))
  (az (bP (i:=4) nd rfl (Or.inl rfl) (cm gF aO (bh gT hr rfl Tk.m Tk.F.kp Tk.b .nil bY (ae (pv 3) (ae (pv 1) aq)))))
  (az (bP (i:=5) nd rfl (Or.inl rfl) (bh ZW hr rfl Tr.m Tr.F.kp Tr.b .nil bY (ae (pv 4) (ae (pv 3) aq))))
  (az (bP (i:=6) nd rfl (Or.inl rfl) (dF aq))
  (az (iQ PassesOwn.never rfl (kT rfl B.range (ae (pv 4) aq)) (bT (i:=7) nd rfl (Or.inl rfl))
   (aX (cN (dZ PySem.F.plainAttrs_list PySem.F.slot_list_insert PySem.F.type_list_insert kP (pv 6) (ae (bh gT hr rfl Tk.m Tk.F.kp Tk.b .nil bY (ae (pv 3) (ae (cm gF (pv 7) aO) aq))) (ae (pv 7) aq))))))
  (az (iQ PassesOwn.never rfl (kh (dF (ae aO (ae aO aq)))) (bT (i:=8) nd rfl (Or.inl rfl))
   (az (bP (i:=3) nd rfl (Or.inl rfl) (bh gD hr rfl Di.m Di.F.kp Di.b .nil bY (ae (pv 0) (ae (pv 8) aq))))
   (aX (iQ PassesOwn.never rfl (kT rfl B.range (ae (cm nM (bh gT hr rfl Tk.m Tk.F.kp Tk.b .nil bY (ae (pv 3) (ae aO aq))) (pB B4 rfl B.int boot_int (ae (Ba JX (pv 4) aO (br _)) aq))) aq)) (bT (i:=7) nd rfl (Or.inl rfl))
    (aX (cN (bh ZV hr rfl Ti.m Ti.F.kp Ti.b .nil bY (ae (pv 5) (ae (pv 3) (ae (pv 2) aq))))))))))
  (aX (fm (bh ZU hr rfl Re.m Re.F.kp Re.b .nil bY (ae (pv 5) (ae (pv 6) (ae (bh gD hr rfl Di.m Di.F.kp Di.b .nil bY (ae (pv 0) (ae aO aq))) aq))))))))))),?_⟩
 refine ⟨_,rfl,a,ns,1,rfl,hS,oX,by decide,by decide,λl ds H1 s1 FW FX mn hz=>?_⟩
 refine ⟨_,rfl,_,rfl,l,ds,m,rfl,FX,mn,by omega,by omega,by omega,λdI n0 d0 d1 oj Jc=>?_⟩
 refine ⟨_,_,rfl,rfl,?_⟩;obtain ⟨d,rfl⟩:=qT d0;have em:(1:Int)+(d:Int)=((d+1:Nat):Int):=by omega
 show uM 4 (V.int (1+(d:Int))) _ _ _;rw [em];have hm:((d+1:Nat):Int)≤m:=by omega
 generalize d+1=n at hm em;have Lv:1≤n:=by omega
 refine ⟨_,rfl,_,rfl,l,n0,n,rfl,aa,oj,by omega,Lv,by omega,λT as w0 jZ H2 off Iw Ij R2 g0 len0 AD sI LF dg0 ZM=>?_⟩
 have tT:l≠T:=λz=>by rw [←z,aa] at Iw;cases Iw
 have j5:l∉as:=λz=>by have:=Ij l z;rw [aa] at this;cases this
 have s2:aC H H2:=λb u eb=>off b u (by simpa using ah eb FW) (by rw [ab (ah eb FW)];exact s1 b u eb)
 have hTH:H T=none:=by
  cases e:H T with
  |none=>rfl
  |some u=>rw [ab (Ne.symm tT),s1 _ _ e] at Iw;cases Iw
 have ZR:∀x∈as,H x=none:=λx hx=>by
  cases e:H x with
  |none=>rfl
  |some u=>
   have:=Ij x hx
   rw [ab (λz=>j5 (by rw [←z];exact hx)),s1 _ _ e] at this;cases this
 refine ⟨by show 0≤sizeLine;decide,λO hO=>?_⟩
 have QI:l≠O:=ah AD hO;have nOT:T≠O:=ah R2.top hO
 have Oa:O∉as:=λz=>by
  obtain ⟨k,hk⟩:=gL z;rw [R2.row k O hk] at hO;cases hO
 have Z8:H O=none:=s2.free hO;refine ⟨_,rfl,(n:Int),rfl,by omega,by omega,kG (n:=((n:Int)).toNat) (λi σ H'=>∃(ord:List Nat)(ds:List Int)(o7:Option V),σ= [some (.ref a),some (.int m),some (.bl b),some (.ref l),some (.int (n:Int)),some (.ref T),some (.ref O),o7,none]∧aC H H'∧aJ H' T as w0∧H' O=some (.lst (aS ord))∧ord.Perm (List.range i)∧H' l=some (.lst (ds.map V.int))∧ds≠ []∧ds.length≤2) ?_ ?_ ?_⟩
 ·refine ⟨[],jZ,none,rfl,s2.trans (av hO _),R2.off (S:= []) (Off.of_same (av hO _)) (by simp) (by simp),aa,List.Perm.refl _,?_,sI,LF⟩
  rw [ab QI];exact AD
 ·rintro i σ H3 hi ⟨ord,TN,o7,rfl,s3,R3,Ir,Df,FY,NW,hz3⟩
  rw [jL] at hi;have lo:ord.length=i:=by rw [Df.length_eq,iG]
  have LD:(0:Int)+(i:Int)=(i:Int):=by omega
  refine ⟨_,rfl, .inl ⟨rfl,_,aH.of Ir⟩,_,rfl,_,rfl,_,_,rfl,rfl,l,TN,_,rfl,FY,NW,by omega,by omega,by omega,λeI TQ e0 e1 UW hz4=>?_⟩
  obtain ⟨e,rfl⟩:=qT e0;have Z7:upd H3 l (.lst (TQ.map V.int)) O=some (.lst (aS ord)):=by rw [ab (Ne.symm QI)];exact Ir
  refine ⟨_,rfl,O,_,_,_,rfl,rfl,Z7,by omega,by rw [bN];omega,m6 (by rw [bN];exact Nat.le_of_eq lo) (bF (by omega)),?_⟩
  rw [LD,jL,←nU];refine ⟨ins ord e i,TQ,_,rfl,λb u eb=>?_,?_,aa,?_,?_,UW,by omega⟩
  ·rw [ab (ah eb Z8),ab (ah eb FW)];exact s3 b u eb
  ·refine R3.keep λb hb=>?_
   rw [ab (λz=>?_),ab (λz=>?_)]
   ·rcases hb with hb|hb
    ·exact tT (z.symm.trans hb)
    ·rw [z] at hb;exact j5 hb
   ·rcases hb with hb|hb
    ·exact nOT (hb.symm.trans z)
    ·rw [z] at hb;exact Oa hb
  ·refine (nA ord e i).trans ?_
   rw [List.range_succ];refine (List.Perm.cons i Df).trans ?_;exact (List.perm_append_singleton i (List.range i)).symm
  ·rw [ab QI,aa]
 rintro σ H3 ⟨ord,TN,o7,rfl,s3,R3,Ir,Df,FY,NW,hz3⟩;rw [jL] at Df;have od:Ord ord n:=⟨Df⟩;refine ⟨by show 2≤sizeLine;decide,λLx FK=>?_⟩
 have s4:=av FK (.lst [V.int 2,V.int 3]);have e4:upd H3 Lx (.lst [V.int 2,V.int 3]) Lx=some (.lst [V.int 2,V.int 3]):=aa;have nLT:Lx≠T:=Ne.symm (ah R3.top FK);have nLO:Lx≠O:=Ne.symm (ah Ir FK)
 have VX:Lx∉as:=λz=>by
  obtain ⟨k,hk⟩:=gL z;rw [R3.row k Lx hk] at FK;cases FK
 have hLH:H Lx=none:=s3.free FK;generalize upd H3 Lx (.lst [V.int 2,V.int 3])=H4 at s4 e4;have R4:aJ H4 T as w0:=R3.off (S:= []) (Off.of_same s4) (by simp) (by simp)
 refine ⟨Lx,rfl,⟨_,aH.of e4⟩,FD (K:=K) (a:=Lx) (xs:= [V.int 2,V.int 3]) (λi σ H'=>∃(l':Addr)(w1:W)(o7 o8:Option V),σ= [some (.ref a),some (.int m),some (.bl b),some (.ref l'),some (.int (n:Int)),some (.ref T),some (.ref O),o7,o8]∧aC H H'∧aJ H' T as w1∧Good w1∧w1.length=n∧H' O=some (.lst (aS ord))∧H' Lx=some (.lst [V.int 2,V.int 3])∧fC w1≤26+38*i∧Eu b w1) ?_ ?_ ?_ ?_⟩
 ·exact ⟨l,w0,o7,none,rfl,s3.trans s4,R4,g0,len0,s4 _ _ Ir,e4,by omega,Ia ZM (by omega)⟩
 ·rintro i σ H' _ ⟨l',w1,o7,o8,rfl,_,_,_,_,_,hL,_⟩
  exact aH.of hL
 ·rintro i x σ H5 hx ⟨l',w1,o7,o8,rfl,s5,R5,g5,jh,Cr,PH,TK,Pr⟩
  obtain ⟨k,tQ,wU,rfl⟩:∃k:Int,0≤k∧k≤100∧x= .int k:=by
   match i,hx with
   |0,hx=>cases hx;exact ⟨2,by decide,by decide,rfl⟩
   |1,hx=>cases hx;exact ⟨3,by decide,by decide,rfl⟩
   |n+2,hx=>simp at hx
  refine ⟨_,rfl,_,rfl,a,ns,k,rfl,s5.seq hS,oX,tQ,wU,λl2 Pn H6 s6 hV P9 IQ Vg=>?_⟩;have VT:l2≠T:=λz=>by rw [z,R5.top] at hV;cases hV
  have N9:l2∉as:=λz=>by
   obtain ⟨k,hk⟩:=gL z;rw [R5.row k l2 hk] at hV;cases hV
  have VS:l2≠O:=λz=>by rw [z,Cr] at hV;cases hV
  have VR:l2≠Lx:=λz=>by rw [z,PH] at hV;cases hV
  have Ue:H l2=none:=s5.free hV;refine ⟨_,rfl,l2,Pn,20,rfl,P9,IQ,by omega,by decide,by decide,λcI As c0 c1 UX hz7=>?_⟩
  refine ⟨_,rfl,_,_,rfl,rfl, .inr ⟨_,rfl,?_⟩⟩;obtain ⟨c,rfl⟩:=qT c0
  have R7:aJ (upd H6 l2 (.lst (As.map V.int))) T as w1:=(R5.off (S:= []) (Off.of_same s6) (by simp) (by simp)).keep λb hb=>by
   refine ab λz=>?_
   rcases hb with hb|hb
   ·exact VT (z.symm.trans hb)
   ·rw [z] at hb;exact N9 hb
  have s7:aC H (upd H6 l2 (.lst (As.map V.int))):=λb u eb=>by rw [ab (ah eb Ue)];exact s6 _ _ (s5 b u eb)
  have FL:upd H6 l2 (.lst (As.map V.int)) O=some (.lst (aS ord)):=by rw [ab (Ne.symm VS)];exact s6 _ _ Cr
  have Up:upd H6 l2 (.lst (As.map V.int)) Lx=some (.lst [V.int 2,V.int 3]):=by rw [ab (Ne.symm VR)];exact s6 _ _ PH
  have uQ:upd H6 l2 (.lst (As.map V.int)) l2=some (.lst (As.map V.int)):=aa;generalize upd H6 l2 (.lst (As.map V.int))=H7 at R7 s7 FL Up uQ;refine ⟨_,_,rfl,rfl, .inl ⟨by omega,by omega⟩,?_⟩
  have Uz:∃N:Nat,(c:Int)*(if decide ((1:Int)<(n:Int))=true then 1 else 0)=(N:Int)∧N<20∧(0<N→2≤n):=by
   by_cases hn:(1:Int)<(n:Int)
   ·rw [decide_eq_true hn,if_pos rfl]
    exact ⟨c,by omega,by omega,λ_=>by omega⟩
   ·rw [decide_eq_false hn,if_neg (by decide)]
    exact ⟨0,by omega,by omega,λh=>by omega⟩
  obtain ⟨N,eN,N20,N2⟩:=Uz;refine ⟨(N:Int),congrArg (λz=> [V.int z]) eN,by omega,by omega,kG (n:=((N:Int)).toNat) (λj σ H'=>∃(w2:W)(ds:List Int)(o7 o8:Option V),σ= [some (.ref a),some (.int m),some (.bl b),some (.ref l2),some (.int (n:Int)),some (.ref T),some (.ref O),o7,o8]∧aC H H'∧aJ H' T as w2∧Good w2∧w2.length=n∧H' O=some (.lst (aS ord))∧H' Lx=some (.lst [V.int 2,V.int 3])∧H' l2=some (.lst (ds.map V.int))∧ds≠ []∧ds.length≤2∧fC w2≤fC w1+2*j∧Eu b w2) ?_ ?_ ?_⟩
  ·exact ⟨w1,As,_,_,rfl,s7,R7,g5,jh,FL,Up,uQ,UX,by omega,by omega,Pr⟩
  ·rintro j σ H8 hj ⟨w2,TR,o7,o8,rfl,s8,R8,g8,N4,PL,PJ,UP,NY,Vh,TL,Pt⟩
   rw [jL] at hj;have n2:=N2 (by omega)
   refine ⟨_,rfl,_,rfl,_,rfl,T,l2,b,as,w2,TR,rfl,R8,g8,by omega,by omega,UP,NY,Vh,VT,N9,λw3 ZC H9 JO R9 g9 aal hl9 UY hz9 dg9 ti9=>?_⟩
   refine ⟨w3,ZC,_,_,rfl,λb u eb=>JO b u (λz=>?_) (s8 b u eb),R9,g9,by omega,JO _ _ (λz=>?_) PL,JO _ _ (λz=>?_) PJ,hl9,UY,hz9,by omega,Pt.lP g8 ti9⟩
   ·rcases bV.mp z with z|z
    ·rw [z,Ue] at eb;cases eb
    ·rw [ZR b z] at eb;cases eb
   ·rcases bV.mp z with z|z
    ·exact VS z.symm
    ·exact Oa z
   ·rcases bV.mp z with z|z
    ·exact VR z.symm
    ·exact VX z
  ·rintro σ H8 ⟨w2,TR,o7,o8,rfl,s8,R8,g8,N4,PL,PJ,UP,NY,Vh,TL,Pt⟩
   rw [jL] at TL;exact ⟨l2,w2,o7,o8,rfl,s8,R8,g8,N4,PL,PJ,by omega,Pt⟩
 ·rintro σ H5 ⟨l',w1,o7,o8,rfl,s5,R5,g5,jh,Cr,PH,TK,Pr⟩
  refine ⟨_,rfl,_,rfl,_,rfl,a,ns,4,rfl,s5.seq hS,oX,by decide,by decide,λl4 Pn H6 s6 hV P9 IQ Vg=>?_⟩
  have n4T:l4≠T:=λz=>by rw [z,R5.top] at hV;cases hV
  have VU:l4∉as:=λz=>by
   obtain ⟨k,hk⟩:=gL z;rw [R5.row k l4 hk] at hV;cases hV
  have n4O:l4≠O:=λz=>by rw [z,Cr] at hV;cases hV
  have Z1:H l4=none:=s5.free hV;have Rg:=s5.trans s6;refine ⟨T,O,l4,as,w1,ord,Pn,rfl,(let Q5:=R5.off (S:= []) (Off.of_same s6) (by simp) (by simp);⟨Q5.top,Q5.len,Q5.row⟩),g5,by omega,s6 _ _ Cr,by rw [jh];exact od,P9,IQ,Vg,n4T,VU,n4O,λF fs w' H' off hF fr R' g' VN TJ vG=>?_⟩
  refine q F fs w' H' (λb u eb=>off b u (by simpa using ah eb Z1) (Rg b u eb)) (Rg.free hF) (λx hx=>Rg.free (fr x hx)) R' g' (by omega) (by omega) (by rw [TJ];simp at TK;omega) (Pr.nam g5 g' (φ:=λx=>ord.getD x 0) ⟨VN,λp hp=>by rw [jh] at hp ⊢;exact od.into hp,λp q hp hq e=>by rw [jh] at hp hq;exact od.inj hp hq e,λy hy=>by rw [jh] at hy ⊢;exact od.sur hy,vG⟩ TJ)
end
end ug
namespace BS
open PySem L2 Wb
variable {P:Program} {w:World} {mg:Str→Option Value} {base:Heap} {Z:DC} (T:Txt Z mg)
theorem EL{Z:DC}{G:Hp}:∀(fs:List Addr)(w:W),fs.length=w.length→(∀(i:Nat) a,fs[i]? =some a→G a=some (.lst (ug.aS (row w i))))→ar Z G (fs.map V.ref) (w.map aF)
 | [],[],_,_=> .nil
 | [],_::_,h,_=>by cases h
 |_::_,[],h,_=>by cases h
 |a::fs,r::w,h,k=>by
  refine .cons ?_ (EL fs w (by simpa using h) λi b hb=>k (i+1) b (by simpa using hb))
  have h0:G a=some (.lst (ug.aS r)):=k 0 a rfl;refine Dv.lst h0 ?_;unfold ug.aS;clear h0 k h
  induction r with
  |nil=>exact .nil
  |cons x r ih=>exact .cons (.int _) ih
def MQ:eW:=λds P=>∃(ns:List Int)(m:Nat)(b:Bool),ds= [.km ns,aB m, .bl b]∧1≤m∧m≤14∧∀w,Good w→1≤w.length→w.length≤m→Eu b w→P (aT w)
theorem Sj{Z:DC}{mg:Str→Option Value}(T:Txt Z mg):ug.wG mg:=⟨T.B.len,T.B.range,T.B.max,T.B.min,T.B.enumerate,T.B.zip,T.B.sorted,T.B.all,T.B.isinstance,T.B.int,T.B.bool,T.B.list,T.B.tuple⟩
theorem zt:FnOk P w Z.K mg base cq 4 T.d__law_web.f T.d__law_web.fd ["_law_script","_law_most","_law_plane"] (aW Z MQ):=by
 refine (ug.JT (Sj T) T.d__law_cell T.d__law_mixed T.d__law_digits T.d__law_take T.d__law_tree T.d__law_next T.d__law_round T.d__law_tie T.d__law_renamed T.d__law_web).imp ?_;rintro vs H Q E ⟨G,ds,P,s,dv,⟨ns,m,b,rfl,m1,m14,hp⟩,q⟩;obtain ⟨v1,us,rfl,d1,dv⟩:=dv.t8;obtain ⟨v2,v3,rfl,d2,d3⟩:=dv.zr;obtain ⟨a,rfl,hs,oX⟩:=d1.zq;obtain rfl:=d2.ofInt;obtain rfl:=d3.WN;refine ⟨a,ns,m,b,rfl,hs.mono s,oX,by omega,by omega,λF fs w' H' sm hF hfs R g l1 lm _ eu=>?_⟩
 let Fc:Addr→Prop:=λb=>b=F∨b∈fs
 have F1:∀b,Fc b→H b=none:=λb hb=>by
  rcases hb with rfl|hb
  ·exact hF
  ·exact hfs b hb
 have nF:∀b o,H b=some o→¬Fc b:=λb o e z=>by rw [F1 b z] at e;cases e
 have x2:Ext G H (plus G H' Fc) H':=⟨λb o e=>by rw [dO (nF b o (s _ _ e))];exact e,λb o e=>by
  by_cases z:Fc b
  ·rw [e7 z] at e;exact e
  ·rw [dO z] at e;exact sm _ _ (s _ _ e),sm,λb hb hg=>by
  rw [dO (λz=>hb (F1 b z))];exact hg⟩
 refine q _ (hp w' g l1 (by omega) eu) _ _ _ x2 (Dv.lst (xs:=fs.map V.ref) (by rw [e7 (.inl rfl)];exact R.top) (EL fs w' R.len λi a ha=>?_))
 rw [e7 (.inr (dD ha))];exact R.row i a ha
def Kq:eW:=λds P=>∃(ns:List Int)(k:Nat),ds= [.km ns,aB k]∧k≤100∧∀v:Int,P (.int v)
theorem xa:FnOk P w Z.K mg base cq 1 T.d__law_cell.f T.d__law_cell.fd ["_law_script","_law_k"] (aW Z Kq):=by
 refine (ug.vt T.d__law_cell).imp ?_;rintro vs H Q E ⟨G,ds,P,s,dv,⟨ns,k,rfl,hk,hp⟩,q⟩;obtain ⟨v1,v2,rfl,d1,d2⟩:=dv.zr;obtain ⟨a,rfl,hs,oX⟩:=d1.zq;obtain rfl:=d2.ofInt;refine ⟨a,ns,k,rfl,hs.mono s,oX,by omega,by omega,λv H' sm=>?_⟩
 exact q _ (hp v) _ G H' ⟨.refl _,s.trans sm,sm,λ_ _ z=>z⟩ (.int v)
variable {P:Program} {w:World} {mg:Str→Option Value} {base:Heap} {Z:DC} (T:Txt Z mg)
def bM(w:W):List (List Nat):=(List.range w.length).map λp=>p::row w p
theorem enum_rows(w:W):eM (w.map aF)=(List.range w.length).map λ(j:Nat)=>D.tup [.int (j:Int),aF (row w j)]:=by
 refine oJ λj=>?_;rw [bW]
 by_cases lt:j<w.length
 ·rw [tD lt]
  cases e:(eM (w.map aF))[j]? with
  |none=>
   have:=List.getElem?_eq_none_iff.mp e
   rw [gU,aN] at this;omega
  |some d=>rw [(tq e).2];rfl
 ·rw [gf (by rw [gU,aN];omega),gf (by rw [iG];omega)];rfl
theorem pH{w:W}(g:Good w)(h:w.length≤14):∀l∈bM w,l.length≤15∧∀p∈l,p<26:=by
 intro l hl;obtain ⟨p,hp,rfl⟩:=bz.mp hl
 have:=gP.mp hp
 refine ⟨by have:=bU g p;rw [cp];omega,λq hq=>?_⟩
 rcases bV.mp hq with rfl|hq
 ·omega
 ·have:=g.rng _ _ hq;omega
theorem sP{te:aP}{i:Nat}{ρ:DN}{N:DN→List D→Prop}{l:List Nat}(h26:∀p∈l,p<26)(hz:l.length≤100)(h0:ρ[i]? =some none)(hs:∀p∈l,∀(Y:D→Prop),Y (.str (Tx.bJ p))→te (ρ.set i (some (aB p))) Y)(h:∀aD,N aD ((l.map Tx.bJ).map D.str)):lcW (nj i) sv te (l.map aB) ρ [] N:=
 lc_all aB (λp=> .str (Tx.bJ p)) l N hs h0 (small (by omega)) λaD=>by
  have:=h aD
  rw [cK] at this;exact this
theorem Ed{α:Type}{l:List α}{p:Nat}{x:α}(h:l[p]? =some x):fB l (p:Int)=some x:=by
 have lt:p<l.length:=(cF.mp h).1
 have e:iw l.length (p:Int)=some p:=by
  unfold iw;rw [if_pos (by omega),if_pos (by omega)]
  exact congrArg some (by omega)
 unfold fB;rw [e];exact h
theorem Bj(w:W):(List.range w.length).map (λp=>aF (row w p))=w.map aF:=by
 refine oJ λi=>?_;rw [bW,bW]
 by_cases h:i<w.length
 ·rw [tD h,dh h]
  show some (aF (row w i))=some (aF w[i]);unfold row;rw [eS,dh h];rfl
 ·rw [gf (by rw [iG];omega),gf (by omega)];rfl
theorem Ec{p:Nat}(h:p<26){Y:D→Prop}(hY:Y (.str (Tx.bJ p))):HA (.str Tx.tL) (aB p) Y:=
 ⟨97+p,by decide+kernel,Ed (Tx.KR h),Tx.u7 h,hY⟩
def ML:eW:=λds P=>∃(w:W),ds= [.eV w]∧Good w∧w.length≤14∧P (.str (Tx.lH (bM w)))
theorem qr:FnOk P w Z.K mg base cq 2 T.d_show_web.f T.d_show_web.fd ["web"] (aW Z ML):=by
 have nd:=qG.nd;refine bR T.d_show_web.F qG [0,0] (by decide) (λds R h=>by obtain ⟨_,rfl,_⟩:=h;rfl) (λbu A outer s H E ds R hr h=>?_)
 have hu:=hr.units
 refine ⟨_,(aw (rq 1 (NC:= ["p","row"]) (src:= [none,none]) rfl nd (lT (ao ig)) trivial (fE rfl T.B.enumerate (af (fZ T.W (U 0) T.m_turns.m (jO T) (hr.mono (by decide)) T.m_turns.b) au)) (λ_ _ _=>(t4 2 rfl (f6 (bb 0 (show (["p","row"]:List Str).Nodup from by decide+kernel)) (f6 (bb 1 (show (["p","row"]:List Str).Nodup from by decide+kernel)) pZ)))) (λ_ _ _=>cx) (λ_ _ _=>(oQ qo (pV (af (U 0) au)) (U 1))))
   (ax (bq (pU fg (jf (NC:= ["row"]) (src:= [none]) rfl (lT (ao ig)) trivial (bw (U 1)) (λ_ _ _=>(bb 0 (show (["row"]:List Str).Nodup from by decide+kernel))) (λ_ _ _=>cx) (λ_ _ _=>(pU fg (jf (NC:= ["p"]) (src:= [none]) rfl Nz trivial (bw (U 0)) (λ_ _ _=>(bb 0 (show (["p"]:List Str).Nodup from by decide+kernel))) (λ_ _ _=>cx) (λ_ _ _=>(Ek (rh rfl T.t_LETTERS) (U 0))))))))))),?_⟩
 obtain ⟨w',rfl,g,bS,q⟩:=h;have lw:(w'.map aF).length=w'.length:=aN _;have few:=pH g bS;have rl:(bM w').length=w'.length:=by unfold bM;rw [aN,iG]
 refine ⟨_,rfl,w',rfl,w',rfl,bS,?_⟩;refine (?_:lcW _ _ _ (eM (w'.map aF)) _ _ _);rw [enum_rows];refine kL (λρ=>∃o0 o1,ρ= [o0,o1]) _ (λ_=>true) (λp=>aF (p::row w' p)) (List.range w'.length) _ [] _ (λp hp aD hI Y Nn hY hN=>?_) ⟨none,none,rfl⟩ (by rw [tJ,ng,iG];exact small (by omega)) λaD _=>?_
 ·obtain ⟨o0,o1,rfl⟩:=hI
  have:=bU g p
  refine ⟨rfl,rfl,?_⟩;refine (?_:if true=true then Al Ht (NH (Hv (Am 0) su)) (Am 1) [some (aB p),some (aF (row w' p))] (Y [some (aB p),some (aF (row w' p))]) else Nn [some (aB p),some (aF (row w' p))]);rw [if_pos rfl];refine ⟨_,rfl,by show 1≤sizeLine;decide,_,rfl,?_⟩
  exact ⟨small (by show 1+((row w' p).map aB).length≤_;rw [aN];omega),hY _ ⟨_,_,rfl⟩ rfl⟩
 rw [tI,List.filter_eq_self.mpr λ_ _=>rfl];refine ⟨trivial,?_⟩;have em:(List.range w'.length).map (λp=>aF (p::row w' p))=(bM w').map aF:=by unfold bM;rw [cK];rfl
 rw [em];refine ⟨_,rfl,_,rfl,?_⟩;refine lc_all (ρ:= [none]) aF (λl=> .str (Tx.fJ l)) (bM w') _ (λl hl Y hY=>?_) rfl (by rw [rl];exact small (by omega)) λaD=>?_
 ·have fl:=few l hl
  refine ⟨_,rfl,_,rfl,?_⟩;refine sP (ρ:= [none]) fl.2 (by omega) rfl (λp hp Y' Iy=>⟨_,rfl,Ec (fl.2 p hp) Iy⟩) λaD=>?_
  refine ⟨_,rfl,Tx.yh (by omega),?_⟩
  rw [Tx.xR];exact ⟨Tx.zC fl.2,hY⟩
 refine ⟨(bM w').map Tx.fJ,by rw [cK];rfl,Tx.yq (B:=0) (λl hl=>by have:=few l hl;omega) (by omega),?_⟩
 rw [Tx.xS];exact ⟨Tx.E5 λl hl=>(few l hl).2,q⟩
def Ks:eW:=λds P=>∃p:Nat,ds= [.str (Tx.bJ p)]∧p<26∧P (aB p)
theorem zv:FnOk P w Z.K mg base cq 1 T.d_point_of.f T.d_point_of.fd ["sign"] (aW Z Ks):=by
 have nd:=qE.nd;refine bR T.d_point_of.F qE [0] (by decide) (λds R h=>by obtain ⟨_,rfl,_⟩:=h;rfl) (λbu A outer s H E ds R hr h=>?_)
 have hu:=hr.units
 refine ⟨_,(aw (cT (DW.dt (rz (bQ (kQ hu) (dJ Hq rfl T.B.len jz (af (U 0) au)) bO (br _)) (t5 (bQ C1 (U 0) (rh rfl T.t_LETTERS) (by with_unfolding_all rfl))))) (ax iT) bB)
   (ax (bq (Cc (rh rfl T.t_LETTERS) (U 0))))),?_⟩
 obtain ⟨p,rfl,hp,q⟩:=h;refine ⟨_,rfl,(by decide:(1:Nat)≤sizeLine),?_⟩
 refine Gh ⟨_,rfl,lj (by rw [Tx.AU];rfl) ?_⟩
 refine ⟨_,rfl,_,rfl,lj ?_ ?_⟩
 ·show (if true=true then !Jf (Tx.bJ p) Tx.tL else _)=false
  rw [if_pos rfl,Tx.CO hp];rfl
 ·exact ⟨_,rfl,_,rfl,_,p,[],rfl,Tx.AV hp,q⟩
def MH:eW:=λds P=>∃(w:W),ds= [.str (Tx.lH (bM w))]∧Good w∧1≤w.length∧w.length≤14∧P (.eV w)
theorem qq:FnOk P w Z.K mg base cq 6 T.d_read_web.f T.d_read_web.fd ["text"] (aW Z MH):=by
 have nd:=qF.nd;refine bR T.d_read_web.F qF [0,0] (by decide) (λds R h=>by obtain ⟨_,rfl,_⟩:=h;rfl) (λbu A outer s H E ds R hr h=>?_)
 have hu:=hr.units
 refine ⟨_,(aw (rq 1 (NC:= ["part"]) (src:= [none]) rfl nd (lT (ao gb)) trivial (bw (xw (U 0) fg)) (λ_ _ _=>(bb 0 (show (["part"]:List Str).Nodup from by decide+kernel))) (λ_ _ _=>cx) (λ_ _ _=>(jf (NC:= ["sign"]) (src:= [none]) rfl Nz trivial (bw (xw (U 0) fg)) (λ_ _ _=>(bb 0 (show (["sign"]:List Str).Nodup from by decide+kernel))) (λ_ _ _=>cx) (λ_ _ _=>(aZ T.d_point_of (zv T) hr (af (U 0) au))))))
   (aw (cT (bQ (kQ hu) (jf (NC:= ["row"]) (src:= [none]) rfl (lT (ao gb)) trivial (bw (U 1)) (λ_ _ _=>(bb 0 (show (["row"]:List Str).Nodup from by decide+kernel))) (λ_ _ _=>cx) (λ_ _ _=>(rj (U 0) bO))) (je (Fj rfl) rfl T.B.list jY (af (je Hr rfl T.B.range Fi (af (dJ kB rfl T.B.len jz (af (U 1) au)) au)) au)) (br _)) (ax iT) bB)
   (ax (bq (Ao T.mkW (ke T) (hr.mono (by decide)) rfl T.mC T.m___init__b (af (jf (NC:= ["row"]) (src:= [none]) rfl (lT (ao gb)) trivial (bw (U 1)) (λ_ _ _=>(bb 0 (show (["row"]:List Str).Nodup from by decide+kernel))) (λ_ _ _=>cx) (λ_ _ _=>(ni (U 0) (p5 bO) p4))) au)))))),?_⟩
 obtain ⟨w',rfl,g,h1,bS,q⟩:=h;have lw:(w'.map aF).length=w'.length:=aN _;have few:=pH g bS;have rl:(bM w').length=w'.length:=by unfold bM;rw [aN,iG]
 have sp:Txt.split (Tx.lH (bM w')) "; "=(bM w').map Tx.fJ:=by
  cases e:bM w' with
  |nil=>rw [e] at rl;exact absurd rl.symm (by show ¬_=0;omega)
  |cons l ls=>exact Tx.D1 l ls
 have wl:=Tx.KG (bM w') 15 λl hl=>(few l hl).1;refine ⟨_,rfl,_,rfl,_,rfl,by decide+kernel,small (by rw [rl] at wl;omega),?_⟩
 rw [sp];refine ⟨λx hx=>?_,?_⟩
 ·obtain ⟨l,hl,rfl⟩:=bz.mp hx
  exact Tx.zC (few l hl).2
 refine (?_:lcW _ _ _ (((bM w').map Tx.fJ).map D.str) _ _ _);rw [cK];refine lc_all (ρ:= [none]) (λl=>D.str (Tx.fJ l)) aF (bM w') _ (λl hl Y hY=>?_) rfl (by rw [rl];exact small (by omega)) λaD=>?_
 ·have fl:=few l hl
  have ll:=Tx.bU l;obtain ⟨p,hp,rfl⟩:=bz.mp hl;refine ⟨_,rfl,_,rfl,_,rfl,by decide+kernel,small (by omega),?_⟩
  rw [Tx.Dy];refine ⟨λx hx=>?_,?_⟩
  ·obtain ⟨c,hc,rfl⟩:=bz.mp hx
   exact Tx.u7 (fl.2 c hc)
  refine (?_:lcW _ _ _ (((p::row w' p).map Tx.bJ).map D.str) _ _ _);rw [cK];exact lc_all (ρ:= [none]) (λc=>D.str (Tx.bJ c)) aB (p::row w' p) _ (λc hc Y' Iy=>⟨_,rfl,c,rfl,fl.2 c hc,Iy⟩) rfl (small (by omega)) λaD=>hY
 have em:(bM w').map aF=(List.range w'.length).map (λp=>aF (p::row w' p)):=by unfold bM;rw [cK];rfl
 have lm:((List.range w'.length).map (λp=>aF (p::row w' p))).length=w'.length:=by rw [aN,iG]
 refine ⟨trivial,?_⟩;rw [em];refine ⟨_,rfl,?_⟩;refine lc_all (ρ:= [none]) _ aB (List.range w'.length) _ (λp hp Y hY=>?_) rfl (by rw [iG];exact small (by omega)) λaD=>?_
 ·exact ⟨_,rfl,_,Ed (p:=0) rfl,hY⟩
 refine ⟨_,rfl,_,rfl,0,_,rfl,⟨by decide,by decide,by rw [lm];omega,by rw [lm];omega,by rw [lm];omega⟩,?_⟩
 rw [show ((((List.range w'.length).map (λp=>aF (p::row w' p))).length:Int)-0).toNat=w'.length by rw [lm];omega,Ds]
 refine (?_:tO (aF (List.range w'.length)) (aF (List.range w'.length)) _);refine Ai ⟨_,rfl,lj (by simp) ?_⟩
 refine ⟨_,rfl,?_⟩;refine lc_all (ρ:= [none]) _ (λp=>aF (row w' p)) (List.range w'.length) _ (λp hp Y hY=>?_) rfl (by rw [iG];exact small (by omega)) λaD=>?_
 ·refine ⟨_,rfl,?_⟩
  show Y (.lst (cutD ((p::row w' p).map aB) (some ((1:Nat):Int)) none));rw [uD _ 1 (by simp)];exact hY
 ·exact ⟨w',by rw [Bj];rfl,g,h1,bS,q⟩
variable {P:Program} {w:World} {mg:Str→Option Value} {base:Heap} {Z:DC} (T:Txt Z mg)
def MN:eW:=λds P=>∃(w:W),ds= [aT w]∧Good w∧w.length≤14∧P (.str (Tx.lH (bM w)))
theorem xc:FnOk P w Z.K mg base cq 1 T.d__law_text.f T.d__law_text.fd ["_law_turns"] (aW Z MN):=by
 have nd:=oF.nd;refine bR T.d__law_text.F oF [0,0,1,0,0] (by decide) (λds R h=>by obtain ⟨_,rfl,_⟩:=h;rfl) (λbu A outer s H E ds R hr h=>?_)
 have hu:=hr.units
 refine ⟨_,(aw (dY false 1 nd fg)
   (aw (p6 2 nd (pY au))
   (aw (fh rfl PassesOwn.never (fE rfl T.B.enumerate (af (U 0) au)) (iN 2 rfl (bI (bf 3 nd) (bI (bf 4 nd) fi))) (ax (yL false 2 (pU fg (jf (NC:= ["_law_q","_law_letters"]) (src:= [none,some 1]) rfl (lT (ao iS)) ⟨rfl,rfl,trivial⟩ (bw (oQ qo (pV (af (U 3) au)) (U 4))) (λ_ _ _=>(bb 0 (show (["_law_q","_law_letters"]:List Str).Nodup from by decide+kernel))) (λ_ _ _=>cx) (λ_ _ _=>(Ek (U 1) (U 0))))))))
   (ax (bq (pU fg (U 2))))))),?_⟩
 obtain ⟨w',rfl,g,bS,q⟩:=h;have lw:(w'.map aF).length=w'.length:=aN _;have few:=pH g bS;have rl:(bM w').length=w'.length:=by unfold bM;rw [aN,iG]
 refine ⟨trivial,by show 0≤sizeLine;decide,_,rfl,?_⟩
 refine (?_:j3 _ _ _ (eM (w'.map aF)) _);refine cX (λi ρ=>∃o3 o4,ρ= [some (aT w'),some (.str Tx.tL),some (.lst ((((bM w').take i).map Tx.fJ).map D.str)),o3,o4]) ⟨none,none,rfl⟩ ?_ ?_
 ·rintro i _ _ hd ⟨o3,o4,rfl⟩ A hA
  obtain ⟨il,rfl⟩:=tq hd;have hl:(bM w')[i]? =some (i::row w' i):=by unfold bM;rw [bW,tD il];rfl
  have fl:=few _ (dD hl);have r1:=bU g i;have tk:(bM w').take (i+1)=(bM w').take i++ [i::row w' i]:=by rw [List.take_succ,hl];rfl
  refine ⟨rfl,rfl,_,rfl,_,rfl,_,rfl,by show 1≤sizeLine;decide,_,rfl,small (by show 1+((row w' i).map aB).length≤_;rw [aN];omega),?_⟩
  refine (?_:lcW _ _ _ ((i::row w' i).map aB) _ _ _);refine sP (ρ:= [none,some (.str Tx.tL)]) fl.2 (by omega) rfl (λp hp Y' Iy=>⟨_,rfl,_,rfl,Ec (fl.2 p hp) Iy⟩) λaD=>?_
  refine ⟨_,rfl,Tx.yh (by omega),?_⟩
  rw [Tx.xR];refine ⟨Tx.zC fl.2,trivial,bF (by rw [aN,aN,iI];omega),hA _ ⟨some (aB i),some (aF (row w' i)),?_⟩⟩
  rw [tk,dP,dP];rfl
 ·rintro _ ⟨o3,o4,rfl⟩
  rw [gU,lw,←rl,List.take_length];refine ⟨_,rfl,_,rfl,(bM w').map Tx.fJ,rfl,Tx.yq (B:=0) (λl hl=>by have:=few l hl;omega) (by omega),?_⟩
  rw [Tx.xS];exact ⟨Tx.E5 λl hl=>(few l hl).2,q⟩
theorem A5{r:List Nat}{ms:List Int}(pm:ms.Perm (r.map λ(n:Nat)=>(n:Int)))(st:ms.Pairwise (·≤·)):∃m:List Nat,ms=m.map (λ(n:Nat)=>(n:Int))∧m.Perm r∧m.Pairwise (·≤·):=by
 have pos:∀x∈ms,((x.toNat:Nat):Int)=x:=λx hx=>by
  obtain ⟨n,_,rfl⟩:=bz.mp (pm.mem_iff.mp hx);exact congrArg _ (jL n)
 refine ⟨ms.map Int.toNat,?_,?_,?_⟩
 ·rw [cK]
  exact ((E8 pos).trans (List.map_id' _)).symm
 ·have:=pm.map Int.toNat
  rw [cK] at this;have e:r.map (Int.toNat∘λ(n:Nat)=>(n:Int))=r:=(E8 λx _=>jL x).trans (List.map_id' _);rw [e] at this;exact this
 ·exact iH.mpr (st.imp λh=>by omega)
theorem Xk{r:List Nat}(nd:r.Nodup):r.map (aI r)=r.drop 1++r.take 1:=by
 refine oJ λk=>?_;rw [bW]
 by_cases h:k<r.length
 ·have hm:r[k]∈r:=oK h
  have e:=g7 hm;have ix:r.idxOf r[k]=k:=(List.getElem?_inj (List.idxOf_lt_length_of_mem hm) nd).mp (by rw [dh (List.idxOf_lt_length_of_mem hm),tF,dh h])
  rw [ix] at e;rw [dh h];show some (aI r r[k])=_;rw [←e]
  by_cases h2:k+1<r.length
  ·rw [wD h2,jK (by rw [iJ];omega),wB,Nat.add_comm 1 k]
  ·have hk:k+1=r.length:=by omega
   rw [hk,Nat.mod_self,jt (by rw [iJ];omega),iJ,show k-(r.length-1)=0 by omega,BJ (by omega)]
 ·rw [gf (by omega),gf (by rw [dS,iJ,iI];omega)];rfl
theorem Ag(r:List Nat):cutD (r.map aB) (some 1) none++cutD (r.map aB) none (some 1)=(r.drop 1++r.take 1).map aB:=by
 cases r with
 |nil=>rfl
 |cons a l=>
  have h1:cutD ((a::l).map aB) (some 1) none=l.map aB:=uD ((a::l).map aB) 1 (by simp)
  rw [h1,dP]
  congr 1
def MK:eW:=λds P=>∃(w:W),ds= [.eV w,aT w]∧Good w∧1≤w.length∧w.length≤14∧P (.bl true)
theorem xb:FnOk P w Z.K mg base cq 6 T.d__law_same.f T.d__law_same.fd ["_law_web_here","_law_turns"] (aW Z MK):=by
 have nd:=oE.nd;refine bR T.d__law_same.F oE [0,0,1,0,0] (by decide) (λds R h=>by obtain ⟨_,rfl,_⟩:=h;rfl) (λbu A outer s H E ds R hr h=>?_)
 have hu:=hr.units
 refine ⟨_,(aw (p6 2 nd (pY au))
   (aw (fh rfl PassesOwn.never (fE rfl T.B.enumerate (af (U 1) au)) (iN 2 rfl (bI (bf 3 nd) (bI (bf 4 nd) fi))) (aw (Li 2 (jf (NC:= ["_law_b","_law_a"]) (src:= [none,some 3]) rfl (lT (ao fq)) ⟨rfl,rfl,trivial⟩ (bw (dJ Fl rfl T.B.sorted kA (af (U 4) au))) (λ_ _ _=>(bb 0 (show (["_law_b","_law_a"]:List Str).Nodup from by decide+kernel))) (λ_ _ _=>(Au (bQ CZ (U 1) (U 0) (br _)))) (λ_ _ _=>(hC (af (U 1) (af (U 0) au))))))
   (ax (cT (bQ (kQ hu) (jf (NC:= ["_law_q","_law_a","_law_web_here"]) (src:= [none,some 3,some 0]) rfl (lT (ao fq)) ⟨rfl,rfl,rfl,rfl,trivial⟩ (bw (U 4)) (λ_ _ _=>(bb 0 (show (["_law_q","_law_a","_law_web_here"]:List Str).Nodup from by decide+kernel))) (λ_ _ _=>cx) (λ_ _ _=>(uG T.W (U 2) T.m_behind.m (jn T) (hr.mono (by decide)) T.m_behind.b (af (U 1) (af (U 0) au))))) (oQ qo (ni (U 4) (p5 bO) p4) (ni (U 4) p4 (p5 bO))) (br _)) (ax (bq lU)) bB))))
   (ax (bq (yH (yI (zo hu) (fZ T.W (U 0) T.m_ties.m (kR T) (hr.mono (by decide)) T.m_ties.b) (U 2) (br _)) (El (yI (zo hu) (aZ T.d_lands ((vq T).imp Rh) hr (af (U 0) au)) (aZ T.d_lands ((vq T).imp Rh) hr (af (Ao T.mkW (ke T) (hr.mono (by decide)) rfl T.mC T.m___init__b (af (jf (NC:= ["_law_turn"]) (src:= [none]) rfl (lT (ao fq)) trivial (bw (U 1)) (λ_ _ _=>(bb 0 (show (["_law_turn"]:List Str).Nodup from by decide+kernel))) (λ_ _ _=>cx) (λ_ _ _=>(je uz rfl T.B.list jY (af (U 0) au)))) au)) au)) (br _)))))))),?_⟩
 obtain ⟨w',rfl,g,h1,bS,q⟩:=h;have lw:(w'.map aF).length=w'.length:=aN _
 obtain ⟨L,hL⟩:∃L:W,∀P:D→Prop,P (aT L)→Bv [.eV w'] P:=by
  by_cases e:w'.length=1
  ·exact ⟨[[0]],λP h=>⟨w',rfl,g,h1,bS,λ_=>h,λh2=>by omega⟩⟩
  ·exact ⟨u3 w',λP h=>⟨w',rfl,g,h1,bS,λz=>absurd z e,λ_ _ _ _=>h⟩⟩
 refine ⟨by show 0≤sizeLine;decide,_,rfl,?_⟩
 refine (?_:j3 _ _ _ (eM (w'.map aF)) _);refine cX (λi ρ=>∃(ts:List (Nat×Nat))(o3 o4:Option D),ρ= [some (.eV w'),some (aT w'),some (.lst (ts.map pairD)),o3,o4]∧ts.Perm (fP (row w') i)∧ts.Pairwise lexLe∧(∀t∈ts,t.1<i)∧ts.length≤i*14) ⟨[],none,none,rfl, .refl _, .nil,(λ_ h=>by cases h),cS _⟩ ?_ ?_
 ·rintro i _ _ hd ⟨ts,o3,o4,rfl,pm,st,lt,tl⟩ A hA
  obtain ⟨il,rfl⟩:=tq hd;have r1:=bU g i;refine ⟨rfl,rfl,_,rfl,_,rfl,(row w' i).map (λ(n:Nat)=>(n:Int)),by rw [cK];rfl,by rw [aN];omega,λms Gw jU=>?_⟩
  obtain ⟨m,rfl,Xa,stm⟩:=A5 Gw jU;have lm:=Xa.length_eq;refine (?_:lcW _ _ _ ((m.map λ(n:Nat)=>(n:Int)).map D.int) _ _ _);rw [cK];refine kL (λρ=>∃o,ρ= [o,some (aB i)]) _ (λb=>decide (i<b)) (λb=>pairD (i,b)) m _ [] _ (λb hb aD hI Y Nn hY hN=>?_) ⟨none,rfl⟩ (by rw [tJ,ng];exact small (by omega)) λaD _=>?_
  ·obtain ⟨o,rfl⟩:=hI
   refine ⟨_,rfl,_,rfl,_,rfl,?_⟩;refine (?_:if decide ((i:Int)<(b:Int))=true then _ else _);rw [show decide ((i:Int)<(b:Int))=decide (i<b) from decide_eq_decide.mpr (by omega)]
   exact nB (λe=>⟨_,rfl,_,rfl,by show 2≤sizeLine;decide,hY _ ⟨_,rfl⟩ e⟩) (λe=>hN _ ⟨_,rfl⟩ e)
  rw [tI];have lf:=List.length_filter_le (λb=>decide (i<b)) m;have ez:(m.filter λb=>decide (i<b)).map (λb=>pairD (i,b))=((m.filter λb=>decide (i<b)).map λb=>(i,b)).map pairD:=by rw [cK];rfl
  refine ⟨_,rfl,small (by rw [aN,aN];have:i*14≤14*14:=wq (by omega) (aV _);omega),?_⟩
  refine ⟨_,rfl,lc_all (ρ:= [none,some (aB i),some (.eV w')]) aB (λp=>aB (aI (row w' i) p)) (row w' i) _ (λp hp Y hY=>⟨_,rfl,w',rfl,_,rfl,_,rfl,w',i,p,rfl,g,hp,hY⟩) rfl (small (by omega)) λaD=>?_⟩
  refine ⟨_,rfl,_,rfl,?_,?_⟩
  ·have:=congrArg List.length (Ag (row w' i))
   rw [dS] at this;show (cutD ((row w' i).map aB) (some 1) none).length+(cutD ((row w' i).map aB) none (some 1)).length≤sizeLine;rw [this,aN,dS,iJ,iI];exact small (by omega)
  refine (?_:tO (.lst ((row w' i).map λp=>aB (aI (row w' i) p))) (.lst (cutD ((row w' i).map aB) (some 1) none++cutD ((row w' i).map aB) none (some 1))) _);rw [Ag,←Xk (g.nod i),show (row w' i).map (λp=>aB (aI (row w' i) p))=((row w' i).map (aI (row w' i))).map aB by rw [cK];rfl]
  refine (?_:tO (aF ((row w' i).map (aI (row w' i)))) (aF ((row w' i).map (aI (row w' i)))) _);refine Ai ⟨_,rfl,lj (by simp) ?_⟩
  have tb:fP (row w') (i+1)=fP (row w') i++((row w' i).filter λb=>decide (i<b)).map λb=>(i,b):=by
   unfold fP;rw [List.range_succ,List.flatMap_append];simp
  refine hA _ ⟨ts++(m.filter λb=>decide (i<b)).map λb=>(i,b),some (aB i),some (aF (row w' i)),?_,?_,?_,?_,?_⟩
  ·rw [dP,←ez];rfl
  ·rw [tb];exact pm.append ((Xa.filter _).map _)
  ·refine BO.mpr ⟨st,iH.mpr ((stm.filter _).imp λh=>Or.inr ⟨rfl,h⟩),λa ha b hb=>Or.inl ?_⟩
   obtain ⟨c,_,rfl⟩:=bz.mp hb;exact lt a ha
  ·intro t ht
   rcases cw.mp ht with ht|ht
   ·have:=lt t ht;omega
   ·obtain ⟨c,_,rfl⟩:=bz.mp ht
    exact Nat.lt_succ_self i
  ·rw [dS,aN,Nat.succ_mul];omega
 ·rintro _ ⟨ts,o3,o4,rfl,pm,st,lt,tl⟩
  rw [gU,lw] at pm;refine ⟨_,rfl,w',rfl,w',rfl,g,bS,λzN p2 s2=>⟨_,rfl,Ca ⟨true,congrArg D.bl (decide_eq_true (List.Perm.eq_of_pairwise (λ_ _ _ _=>nG) s2 st (p2.trans pm.symm))),f7 ?_⟩⟩⟩;refine ⟨_,rfl,?_⟩;dsimp only [su];refine hL _ ?_;refine ⟨_,rfl,lc_all (ρ:= [none]) aF aF w' _ (λr hr Y hY=>⟨_,rfl,hY⟩) rfl (small (by omega)) λaD=>?_⟩
  refine ⟨w',rfl,g,h1,bS,?_⟩;dsimp only [su];refine hL _ ?_;exact Hy (by rw [decide_eq_true rfl];exact q)
theorem KU{t u:dH}{E:gw}{aD:DN}(ρ:DN)(e:aD=ρ)(h:dSeq t u E ρ):dSeq t u E aD:=by rw [e];exact h
theorem Aj{i j:Str}{P:D→Prop}(h:P (.bl (!decide (i=j)))):tO (.str i) (.str j) P:=⟨.str i, .str j,rfl,rfl,by simp [PyData.depth],by
 have:PyData.eqv (.str i) (.str j)=decide (i=j):=by
  by_cases e:i=j
  ·subst e;simp [PyData.eqv]
  ·simp [PyData.eqv,e]
 rw [if_pos rfl,this];exact h⟩
theorem LH{n p:Nat}(h:p<n):iw n (p:Int)=some p:=by
 unfold iw;rw [if_pos (by omega),if_pos (by omega)]
 exact congrArg some (by omega)
theorem Jl{n:Nat}(h:0<n):iw n (-1)=some (n-1):=by
 unfold iw;rw [if_neg (by omega),if_pos (by omega)]
 exact congrArg some (by omega)
theorem Ak{v w:W}{P:D→Prop}(h:P (.bl (!decide (v=w)))):tO (aT v) (aT w) P:=by
 refine ⟨_,_,ua v,ua w,by have:=sD v;omega,?_⟩
 have:PyData.eqv (mU v) (mU w)=decide (v=w):=by
  by_cases e:v=w
  ·rw [decide_eq_true e];exact (nr v w).mpr e
  ·rw [decide_eq_false e]
   apply tG.mpr;exact λz=>e ((nr v w).mp z)
 rw [if_pos rfl,this];exact h
theorem GQ:Good [[1],[0]]:=by
 have tb:∀p q,q∈row [[1],[0]] p→(p=0∧q=1)∨(p=1∧q=0):=λp q h=>by
  match p,h with
  |0,h=>exact .inl ⟨rfl,eE.mp h⟩
  |1,h=>exact .inr ⟨rfl,eE.mp h⟩
  |p+2,h=>exact absurd h (by show ¬q∈([]:List Nat);simp)
 refine ⟨λp q h=>?_,λp h=>?_,λp=>?_,λp q h=>?_,λp hp=>?_⟩
 ·rcases tb p q h with ⟨_,rfl⟩ | ⟨_,rfl⟩<;>decide
 ·rcases tb p p h with ⟨a,b⟩ | ⟨a,b⟩<;>omega
 ·match p with
  |0=>show ([1]:List Nat).Nodup;simp
  |1=>show ([0]:List Nat).Nodup;simp
  |p+2=>show ([]:List Nat).Nodup;simp
 ·rcases tb p q h with ⟨rfl,rfl⟩ | ⟨rfl,rfl⟩
  ·exact eE.mpr rfl
  ·exact eE.mpr rfl
 ·have hp:p<2:=hp
  have:p=0∨p=1:=by omega
  rcases this with rfl|rfl
  ·exact .refl _
  ·exact .step (.refl _) (eE.mpr rfl)
def pQ(b:Nat)(eL:List D):Prop:=0<eL.length∧eL.length≤400∧∀d∈eL,∃l:List D,d= .lst l∧l.length≤b
theorem pQ.at_{b:Nat}{eL:List D}(h:pQ b eL){j:Nat}(hj:j<eL.length):∃l:List D,eL[j]? =some (.lst l)∧l.length≤b:=by
 obtain ⟨l,e,hl⟩:=h.2.2 eL[j] (oK hj);exact ⟨l,by rw [dh hj,e],hl⟩
theorem pQ.set{b c:Nat}{eL:List D}(h:pQ b eL)(bc:b≤c){j:Nat}{l:List D}(hl:l.length≤c):pQ c (eL.set j (.lst l)):=by
 refine ⟨by rw [gm];exact h.1,by rw [gm];exact h.2.1,λd hd=>?_⟩
 rcases D9 hd with hd|rfl
 ·obtain ⟨l,e,hl⟩:=h.2.2 d hd
  exact ⟨l,e,ku hl bc⟩
 ·exact ⟨l,rfl,hl⟩
theorem B0{L:List (List Nat)}(h0:0<L.length)(h1:L.length≤300)(h2:∀r∈L,r.length≤300):pQ 300 (L.map aF):=by
 refine ⟨by rw [aN];exact h0,by rw [aN];omega,λd hd=>?_⟩
 obtain ⟨r,hr,rfl⟩:=bz.mp hd;exact ⟨_,rfl,by rw [aN];exact h2 r hr⟩
theorem Ru{E:gw}{u:dH}{a b c d e f g h:Option D}{fs:List D}(A:pQ 300 fs)(hE:∀Py,u E [a,b,c,d,some (.lst Py),e,f,g,h]):
  dSeq (Hu [0,0,0,0,2,0,0,0,0] false 4 (dC (.int 0)) (dC (.int 0))) (dSeq (HF 4 (NI (dC (.int 1)))) u) E [a,b,c,d,some (.lst fs),e,f,g,h]:=by
 obtain ⟨x0,h0,l0⟩:=A.at_ A.1;refine ⟨fs,rfl,_,0,x0,rfl,LH (p:=0) A.1,h0,trivial,bF (by omega),?_⟩
 have A1:pQ 301 (fs.set 0 (.lst (x0++ [.int 0]))):=A.set (by omega) (by rw [dS];show x0.length+1≤301;omega)
 refine JH [a,b,c,d,some (.lst (fs.set 0 (.lst (x0++ [.int 0])))),e,f,g,h] rfl ?_;generalize fs.set 0 (.lst (x0++ [.int 0]))=f1 at A1;obtain ⟨x1,h1,l1⟩:=A1.at_ (j:=f1.length-1) (by have:=A1.1;omega)
 refine ⟨f1,rfl,_,f1.length-1,x1,rfl,Jl A1.1,h1,?_⟩;refine JH [a,b,c,d,some (.lst (f1.set (f1.length-1) (.lst x1.reverse))),e,f,g,h] rfl ?_;exact hE _
theorem GP:("a b; b a":Str)=Tx.lH (bM [[1],[0]]):=by decide+kernel
theorem L7:FnOk P w Z.K mg base cq 7 T.d_law.f T.d_law.fd ["_law_script"] (aW Z EW):=by
 have nd:=EV.nd;refine bR T.d_law.F EV [0,0,0,0,2,0,0,0,0] (by decide) (λds R h=>by obtain ⟨_,rfl,_⟩:=h;rfl) (λbu A outer s H E ds R hr h=>?_)
 have hu:=hr.units
 refine ⟨_,(aw (dY false 1 nd (aZ T.d__law_web (zt T) hr (af (U 0) (af bO (af (yI (zo hu) (oQ ED (aZ T.d__law_cell (xa T) hr (af (U 0) (af bO au))) bO) bO (br _)) au)))))
   (aw (dY false 2 nd (aZ T.d__law_text (xc T) hr (af (U 1) au)))
   (aw (HV rfl PassesOwn.never (Cd rfl T.B.range (af bO au)) (bf 3 nd) (aw (uI 4 (NC:= ["_law_turn"]) (src:= [none]) rfl nd (lT (ao zF)) trivial (bw (U 1)) (λ_ _ _=>(bb 0 (show (["_law_turn"]:List Str).Nodup from by decide+kernel))) (λ_ _ _=>(Aq rfl rfl T.B.list jY (U 0))))
   (aw (Cg 5 nd T.mkW (JP T) (hr.mono (by decide)) rfl T.mC T.m___init__b (af (U 4) au))
   (aw (HU false 4 bO bO)
   (aw (HX 4 (Lc bO))
   (aw (dY false 6 nd (aZ T.d_show_web (qr T) hr (af (U 5) au)))
   (aw (cT (DW.dt (rz (jB (kE (Fq (U 6) rfl T.B.isinstance rfl T.x_str))) (t5 (bQ (kQ hu) (U 6) (U 2) (br _))))) (ax (bq lU)) bB)
   (aw (dY false 7 nd (aZ T.d_read_web (qq T) hr (af (U 2) au)))
   (aw (dY false 8 nd (aZ T.d_read_web (qq T) hr (af fg au)))
   (aw (cT (DW.dt (rz (jB (kE (Fs T.W T.iW (U 7) rfl T.B.isinstance rfl T.mC))) (rz (bQ (kQ hu) (fZ T.W (U 7) T.m_turns.m (jO T) (hr.mono (by decide)) T.m_turns.b) (U 1) (br _)) (t5 (bQ (kQ hu) (fZ T.W (U 8) T.m_turns.m (jO T) (hr.mono (by decide)) T.m_turns.b) (pV (af (pV (af bO au)) (af (pV (af bO au)) au))) (br _)))))) (ax (bq lU)) bB)
   (ax (cT (DW.dt (rz (bQ (kQ hu) (aZ T.d_show_web (qr T) hr (af (U 7) au)) (U 2) (br _)) (rz (bQ (kQ hu) (fZ T.W (U 7) T.m_many.m (qp T) (hr.mono (by decide)) T.m_many.b) (dJ kB rfl T.B.len jz (af (U 1) au)) (br _)) (t5 (jB (kE (aZ T.d__law_same (xb T) hr (af (U 7) (af (U 1) au))))))))) (ax (bq lU)) bB))))))))))))
   (ax (bq lU))))),?_⟩
 obtain ⟨ns,rfl,yZ,q⟩:=h;refine ⟨_,rfl,_,rfl,ns,5,rfl,by omega,λv=>⟨(by show (0:Int)<2;decide),T3 ?_⟩⟩
 refine ⟨ns,14,_,rfl,by omega,by omega,λw' g l1 y8 _=>⟨trivial,?_⟩⟩
 have lw:(w'.map aF).length=w'.length:=aN _;refine ⟨_,rfl,w',rfl,g,y8,trivial,?_⟩;refine ⟨⟨by decide,by decide⟩,?_⟩
 refine (?_:j3 _ _ _ (dG 0 2) _);refine FE (λj ρ=>∃o3 o4 o5 o6 o7 o8,ρ= [some (.km ns),some (aT w'),some (.str (Tx.lH (bM w'))),o3,o4,o5,o6,o7,o8]) ⟨_,_,_,_,_,_,rfl⟩ ?_ ?_
 ·rintro j _ hj ⟨o3,o4,o5,o6,o7,o8,rfl⟩ A hA
  refine ⟨_,rfl,rG w' none [] _ (by rw [tJ,ng];exact small (by omega)) ?_⟩
  rw [tI];refine ⟨_,rfl,w',rfl,g,l1,y8,?_⟩
  have wA:pQ 300 (w'.map aF):=B0 (by omega) (by omega) λr hr=>by
   obtain ⟨p,hp,e⟩:=List.mem_iff_getElem.mp hr
   have:=bU g p
   unfold row at this;rw [eS,dh hp] at this;have this:r.length≤w'.length:=by rw [←e];exact this
   omega
  dsimp only;refine KU [some (.km ns),some (aT w'),some (.str (Tx.lH (bM w'))),some (aB j),some (.lst (w'.map aF)),some (.eV w'),o6,o7,o8] rfl ?_;refine Ru wA λh4=>?_;refine ⟨_,rfl,w',rfl,g,y8,trivial,?_⟩;refine ⟨_,rfl,_,rfl,rfl,lj rfl ?_⟩;refine ⟨_,rfl,_,rfl,Aj ⟨_,rfl,lj (by simp) ?_⟩⟩
  refine ⟨_,rfl,w',rfl,g,l1,y8,trivial,?_⟩;refine ⟨[[1],[0]],congrArg (λz=> [D.str z]) GP,GQ,by decide,by decide,trivial,?_⟩
  refine ⟨_,rfl,w',rfl,rfl,lj rfl ⟨_,rfl,w',rfl,w',rfl,y8,_,rfl,Ak ⟨_,rfl,lj (by simp) ?_⟩⟩⟩
  refine ⟨_,rfl,[[1],[0]],rfl,[[1],[0]],rfl,by decide,by show 1≤sizeLine;decide,by show 1≤sizeLine;decide,by show 2≤sizeLine;decide,?_⟩
  refine (?_:tO (aT [[1],[0]]) (aT [[1],[0]]) _);refine Ak ⟨_,rfl,lj (by simp) ?_⟩
  refine ⟨_,rfl,w',rfl,g,y8,_,rfl,Aj ⟨_,rfl,lj (by simp) ?_⟩⟩
  refine ⟨_,rfl,w',rfl,w',rfl,_,rfl,?_⟩;dsimp only [su,Hh,aT];refine Ah ⟨_,rfl,lj (by rw [lw];simp) ?_⟩
  refine ⟨_,rfl,_,rfl,w',rfl,g,l1,y8,rfl,lj rfl (hA _ ⟨_,_,_,_,_,_,rfl⟩)⟩
 ·rintro _ ⟨o3,o4,o5,o6,o7,o8,rfl⟩
  exact q
theorem all_mk{l:PySem.W.OpenLaw}{w:World}{K:PySem.W.Frag}{h:Heap}{mg:Str→Option Value}{fa C:Addr}{X9:Tok}(X:K.In h)(G:h.Ns mainGlobals mg)(hfa:mg "law"=some (.ref fa)){Ya:Tok}{Yb:Tok}
  {d0:Addr} {od0 YH:Option Addr} {sl0:Array (Option Value)} {oc0 kV0 Zq pm0 Sk Zb:Value}
  {d1:Addr} {od1 YI:Option Addr} {sl1:Array (Option Value)} {oc1 kV1 Zr J4 Sl Zc:Value}
  {d2:Addr} {od2 YJ:Option Addr} {vL:Array (Option Value)} {oc2 kV2 Zs Gw Sm Zd:Value}
  {d3:Addr} {od3 YK:Option Addr} {sl3:Array (Option Value)} {oc3 kV3 Zt Df Sn Ze:Value}
  {d4:Addr} {od4 YL:Option Addr} {sl4:Array (Option Value)} {oc4 kV4 Zu pm4 So Zf:Value}
  {d5:Addr} {od5 YM:Option Addr} {sl5:Array (Option Value)} {oc5 kV5 Zv Mo Sq Zg:Value}
  {d6:Addr} {od6 YN:Option Addr} {sl6:Array (Option Value)} {oc6 kV6 Zw pm6 Sr Zh:Value}
  {d7:Addr} {od7 YO:Option Addr} {sl7:Array (Option Value)} {oc7 kV7 Zx pm7 Ss Zi:Value}
  {d8:Addr} {od8 YQ:Option Addr} {sl8:Array (Option Value)} {oc8 kV8 Zy pm8 Su Zj:Value}
  {d9:Addr} {od9 YR:Option Addr} {sl9:Array (Option Value)} {oc9 kV9 Zz pm9 Sv Zk:Value}
  {OS:Addr} {Ww RT:Option Addr} {Xs:Array (Option Value)} {We Vu Th WT Nd SA:Value}
  {OT:Addr} {Wx RU:Option Addr} {Xt:Array (Option Value)} {Wf Vv Tj WU Nf SD:Value}
  {OU:Addr} {Wy RV:Option Addr} {Xu:Array (Option Value)} {Wg Vw Tn WV Ng SE:Value}
  {OV:Addr} {Wz RW:Option Addr} {Xv:Array (Option Value)} {Wh Vx To WW Nh SF:Value}
  {OW:Addr} {WA RX:Option Addr} {Xw:Array (Option Value)} {Wi Vy Tp WX Ni SG:Value}
  {OX:Addr} {WB RY:Option Addr} {Xx:Array (Option Value)} {Wj Vz Tq WY Nj SH:Value}
  {OY:Addr} {WC RZ:Option Addr} {Xy:Array (Option Value)} {Wl VA Ts WZ Nk SJ:Value}
  {OZ:Addr} {WD R0:Option Addr} {Xz:Array (Option Value)} {Wm VB Tt W0 Nl SK:Value}
  {O0:Addr} {WE Sa:Option Addr} {XA:Array (Option Value)} {Wn VC Tu W2 Np SM:Value}
  {O1:Addr} {WG Sb:Option Addr} {XB:Array (Option Value)} {Wo VD Tv W3 Nq SN:Value}
  {O2:Addr} {WH Sd:Option Addr} {XE:Array (Option Value)} {Wq VE Tw W4 Nr SO:Value}
  {O3:Addr} {WI Se:Option Addr} {XF:Array (Option Value)} {Wr VF Tz W5 Nt SQ:Value}
  {O4:Addr} {WJ Sf:Option Addr} {XG:Array (Option Value)} {Ws VG TB W6 Nu SR:Value}
  {O5:Addr} {WK Sg:Option Addr} {XH:Array (Option Value)} {Wt VH TC W7 Nv SS:Value}
  {O6:Addr} {WL Sh:Option Addr} {XI:Array (Option Value)} {Wu VI TF W8 Nw SU:Value}
  {O7:Addr} {WM Si:Option Addr} {XJ:Array (Option Value)} {Wv VJ TH W9 Ny SV:Value}
  {i0:Addr} {jd0 jn0:Option Addr} {js0:Array (Option Value)} {jc0 jk0 jo0 jp0 Vo jt0:Value}
  {i1:Addr} {jd1 jn1:Option Addr} {js1:Array (Option Value)} {jc1 jk1 jo1 jp1 Vp jt1:Value}
  {i2:Addr} {jd2 jn2:Option Addr} {js2:Array (Option Value)} {jc2 jk2 jo2 jp2 Vq jt2:Value}
  {i3:Addr} {jd3 jn3:Option Addr} {js3:Array (Option Value)} {jc3 jk3 jo3 jp3 Vr jt3:Value}
  {i4:Addr} {jd4 jn4:Option Addr} {js4:Array (Option Value)} {jc4 jk4 jo4 jp4 Vs jt4:Value}
  {i5:Addr} {jd5 jn5:Option Addr} {js5:Array (Option Value)} {jc5 jk5 jo5 jp5 Vt jt5:Value}
  (gC:PySem.W.nsIn K mainGlobals "Web"=some (some (.ref C)))
  (a0:gQ K "is_among" d0)
  (l0:fb K "is_among" "is_among" mJ d0 od0 YH sl0 oc0 kV0 Zq pm0 Sk Zb)
  (c0:PySem.W.codeIn K Sk "is_among"=true)
  (k0:PySem.W.keepIn K (.ref d0)=true)
  (a1:gQ K "alien_fault" d1)
  (l1:fb K "alien_fault" "alien_fault" jo d1 od1 YI sl1 oc1 kV1 Zr J4 Sl Zc)
  (c1:PySem.W.codeIn K Sl "alien_fault"=true)
  (k1:PySem.W.keepIn K (.ref d1)=true)
  (a2:gQ K "self_fault" d2)
  (l2:fb K "self_fault" "self_fault" jT d2 od2 YJ vL oc2 kV2 Zs Gw Sm Zd)
  (c2:PySem.W.codeIn K Sm "self_fault"=true)
  (k2:PySem.W.keepIn K (.ref d2)=true)
  (a3:gQ K "twice_fault" d3)
  (l3:fb K "twice_fault" "twice_fault" js d3 od3 YK sl3 oc3 kV3 Zt Df Sn Ze)
  (c3:PySem.W.codeIn K Sn "twice_fault"=true)
  (k3:PySem.W.keepIn K (.ref d3)=true)
  (a4:gQ K "lone_fault" d4)
  (l4:fb K "lone_fault" "lone_fault" jR d4 od4 YL sl4 oc4 kV4 Zu pm4 So Zf)
  (c4:PySem.W.codeIn K So "lone_fault"=true)
  (k4:PySem.W.keepIn K (.ref d4)=true)
  (a5:gQ K "reached_from_first" d5)
  (l5:fb K "reached_from_first" "reached_from_first" cR d5 od5 YM sl5 oc5 kV5 Zv Mo Sq Zg)
  (c5:PySem.W.codeIn K Sq "reached_from_first"=true)
  (k5:PySem.W.keepIn K (.ref d5)=true)
  (a6:gQ K "apart_fault" d6)
  (l6:fb K "apart_fault" "apart_fault" jq d6 od6 YN sl6 oc6 kV6 Zw pm6 Sr Zh)
  (c6:PySem.W.codeIn K Sr "apart_fault"=true)
  (k6:PySem.W.keepIn K (.ref d6)=true)
  (a7:gQ K "first_fault" d7)
  (l7:fb K "first_fault" "first_fault" jr d7 od7 YO sl7 oc7 kV7 Zx pm7 Ss Zi)
  (c7:PySem.W.codeIn K Ss "first_fault"=true)
  (k7:PySem.W.keepIn K (.ref d7)=true)
  (a8:gQ K "show_web" d8)
  (l8:fb K "show_web" "show_web" ig d8 od8 YQ sl8 oc8 kV8 Zy pm8 Su Zj)
  (c8:PySem.W.codeIn K Su "show_web"=true)
  (k8:PySem.W.keepIn K (.ref d8)=true)
  (a9:gQ K "point_of" d9)
  (l9:fb K "point_of" "point_of" mL d9 od9 YR sl9 oc9 kV9 Zz pm9 Sv Zk)
  (c9:PySem.W.codeIn K Sv "point_of"=true)
  (k9:PySem.W.keepIn K (.ref d9)=true)
  (Ys:gQ K "read_web" OS)
  (l10:fb K "read_web" "read_web" gb OS Ww RT Xs We Vu Th WT Nd SA)
  (YT:PySem.W.codeIn K Nd "read_web"=true)
  (k10:PySem.W.keepIn K (.ref OS)=true)
  (Yt:gQ K "round_from" OT)
  (l11:fb K "round_from" "round_from" jS OT Wx RU Xt Wf Vv Tj WU Nf SD)
  (YU:PySem.W.codeIn K Nf "round_from"=true)
  (k11:PySem.W.keepIn K (.ref OT)=true)
  (Yu:gQ K "lands" OU)
  (l12:fb K "lands" "lands" mK OU Wy RV Xu Wg Vw Tn WV Ng SE)
  (YV:PySem.W.codeIn K Ng "lands"=true)
  (k12:PySem.W.keepIn K (.ref OU)=true)
  (Yv:gQ K "_law_cell" OV)
  (l13:fb K "_law_cell" "_law_cell" qx OV Wz RW Xv Wh Vx To WW Nh SF)
  (YW:PySem.W.codeIn K Nh "_law_cell"=true)
  (k13:PySem.W.keepIn K (.ref OV)=true)
  (Yw:gQ K "_law_mixed" OW)
  (y8:fb K "_law_mixed" "_law_mixed" ot OW WA RX Xw Wi Vy Tp WX Ni SG)
  (YX:PySem.W.codeIn K Ni "_law_mixed"=true)
  (k14:PySem.W.keepIn K (.ref OW)=true)
  (Yx:gQ K "_law_digits" OX)
  (l15:fb K "_law_digits" "_law_digits" mI OX WB RY Xx Wj Vz Tq WY Nj SH)
  (YY:PySem.W.codeIn K Nj "_law_digits"=true)
  (k15:PySem.W.keepIn K (.ref OX)=true)
  (Yy:gQ K "_law_take" OY)
  (l16:fb K "_law_take" "_law_take" qz OY WC RZ Xy Wl VA Ts WZ Nk SJ)
  (YZ:PySem.W.codeIn K Nk "_law_take"=true)
  (k16:PySem.W.keepIn K (.ref OY)=true)
  (Yz:gQ K "_law_tree" OZ)
  (l17:fb K "_law_tree" "_law_tree" qA OZ WD R0 Xz Wm VB Tt W0 Nl SK)
  (Y0:PySem.W.codeIn K Nl "_law_tree"=true)
  (k17:PySem.W.keepIn K (.ref OZ)=true)
  (YA:gQ K "_law_next" O0)
  (l18:fb K "_law_next" "_law_next" qy O0 WE Sa XA Wn VC Tu W2 Np SM)
  (Y1:PySem.W.codeIn K Np "_law_next"=true)
  (k18:PySem.W.keepIn K (.ref O0)=true)
  (YB:gQ K "_law_round" O1)
  (l19:fb K "_law_round" "_law_round" ou O1 WG Sb XB Wo VD Tv W3 Nq SN)
  (Y2:PySem.W.codeIn K Nq "_law_round"=true)
  (k19:PySem.W.keepIn K (.ref O1)=true)
  (YC:gQ K "_law_tie" O2)
  (l20:fb K "_law_tie" "_law_tie" sU O2 WH Sd XE Wq VE Tw W4 Nr SO)
  (Y3:PySem.W.codeIn K Nr "_law_tie"=true)
  (k20:PySem.W.keepIn K (.ref O2)=true)
  (YD:gQ K "_law_renamed" O3)
  (l21:fb K "_law_renamed" "_law_renamed" lB O3 WI Se XF Wr VF Tz W5 Nt SQ)
  (Y4:PySem.W.codeIn K Nt "_law_renamed"=true)
  (k21:PySem.W.keepIn K (.ref O3)=true)
  (YE:gQ K "_law_web" O4)
  (l22:fb K "_law_web" "_law_web" sV O4 WJ Sf XG Ws VG TB W6 Nu SR)
  (Y5:PySem.W.codeIn K Nu "_law_web"=true)
  (k22:PySem.W.keepIn K (.ref O4)=true)
  (YF:gQ K "_law_text" O5)
  (l23:fb K "_law_text" "_law_text" iS O5 WK Sg XH Wt VH TC W7 Nv SS)
  (Y6:PySem.W.codeIn K Nv "_law_text"=true)
  (k23:PySem.W.keepIn K (.ref O5)=true)
  (YG:gQ K "_law_same" O6)
  (l24:fb K "_law_same" "_law_same" fq O6 WL Sh XI Wu VI TF W8 Nw SU)
  (Y7:PySem.W.codeIn K Nw "_law_same"=true)
  (k24:PySem.W.keepIn K (.ref O6)=true)
  (RQ:gQ K "law" O7)
  (l25:fb K "law" "law" zF O7 WM Si XJ Wv VJ TH W9 Ny SV)
  (Y8:PySem.W.codeIn K Ny "law"=true)
  (k25:PySem.W.keepIn K (.ref O7)=true)
  (m0:PySem.W.findIn K (.ref C) "__init__"=some (some (.ref i0)))
  (f0:PySem.W.isFn K (.ref i0)=true)
  (ml0:fb K "__init__" "Web.__init__" cV i0 jd0 jn0 js0 jc0 jk0 jo0 jp0 Vo jt0)
  (mc0:PySem.W.codeIn K Vo "Web.__init__"=true)
  (mk0:PySem.W.keepIn K (.ref i0)=true)
  (m1:PySem.W.findIn K (.ref C) "many"=some (some (.ref i1)))
  (f1:PySem.W.isFn K (.ref i1)=true)
  (ml1:fb K "many" "Web.many" mH i1 jd1 jn1 js1 jc1 jk1 jo1 jp1 Vp jt1)
  (mc1:PySem.W.codeIn K Vp "Web.many"=true)
  (mk1:PySem.W.keepIn K (.ref i1)=true)
  (m2:PySem.W.findIn K (.ref C) "turns"=some (some (.ref i2)))
  (f2:PySem.W.isFn K (.ref i2)=true)
  (ml2:fb K "turns" "Web.turns" iR i2 jd2 jn2 js2 jc2 jk2 jo2 jp2 Vq jt2)
  (mc2:PySem.W.codeIn K Vq "Web.turns"=true)
  (mk2:PySem.W.keepIn K (.ref i2)=true)
  (m3:PySem.W.findIn K (.ref C) "ties"=some (some (.ref i3)))
  (f3:PySem.W.isFn K (.ref i3)=true)
  (ml3:fb K "ties" "Web.ties" jG i3 jd3 jn3 js3 jc3 jk3 jo3 jp3 Vr jt3)
  (mc3:PySem.W.codeIn K Vr "Web.ties"=true)
  (mk3:PySem.W.keepIn K (.ref i3)=true)
  (m4:PySem.W.findIn K (.ref C) "tied"=some (some (.ref i4)))
  (f4:PySem.W.isFn K (.ref i4)=true)
  (ml4:fb K "tied" "Web.tied" sT i4 jd4 jn4 js4 jc4 jk4 jo4 jp4 Vs jt4)
  (mc4:PySem.W.codeIn K Vs "Web.tied"=true)
  (mk4:PySem.W.keepIn K (.ref i4)=true)
  (m5:PySem.W.findIn K (.ref C) "behind"=some (some (.ref i5)))
  (f5:PySem.W.isFn K (.ref i5)=true)
  (ml5:fb K "behind" "Web.behind" jQ i5 jd5 jn5 js5 jc5 jk5 jo5 jp5 Vt jt5)
  (mc5:PySem.W.codeIn K Vt "Web.behind"=true)
  (mk5:PySem.W.keepIn K (.ref i5)=true)
  (pgC:PySem.W.plainGet K C Str.empty=true)
  (Lq:PySem.W.hasDictIn K C=true)
  (poC:PySem.W.plainOver K C=true)
  (saC:PySem.W.findIn K (.ref C) "__setattr__"=some (some (.builtin "object.__setattr__")))
  (mkC:PySem.W.makesIn K C=true)
  (kpC:PySem.W.keepIn K (.ref C)=true)
  (nR:PySem.W.findIn K (.ref C) "rows"=some none)
  (w0:PySem.W.findIn K (.ref C) "__class__"=some (some (.builtin "object.__class__")))
  (w1:PySem.W.specialIn K (.builtin "object.__class__") "__get__"=some (some (.builtin "getset_descriptor.__get__")))
  (w2:PySem.W.takesIn K (.builtin "object.__class__")=some true)
  (w3:PySem.W.mroIn K C (.type "object")=some true)
  (Sy:PySem.W.nsIn K mainGlobals "__name__"=some (some (.str "law_mapdye_k16_written_and_read" Ya)))
  (Sz:PySem.W.nsIn K mainGlobals "LETTERS"=some (some (.str "abcdefghijklmnopqrstuvwxyz" Yb)))
  (Y9:PySem.W.nsIn K mainGlobals "MOST_POINTS"=some (some (.int 14 X9)))
  (Yi:PySem.W.nsIn K mainGlobals "len"=some none)
  (M4:PySem.W.nsIn K mainGlobals "range"=some none)
  (Yj:PySem.W.nsIn K mainGlobals "max"=some none)
  (Yk:PySem.W.nsIn K mainGlobals "min"=some none)
  (BG:PySem.W.nsIn K mainGlobals "enumerate"=some none)
  (Yo:PySem.W.nsIn K mainGlobals "zip"=some none)
  (KJ:PySem.W.nsIn K mainGlobals "sorted"=some none)
  (Yg:PySem.W.nsIn K mainGlobals "all"=some none)
  (zW:PySem.W.nsIn K mainGlobals "isinstance"=some none)
  (Yh:PySem.W.nsIn K mainGlobals "int"=some none)
  (RA:PySem.W.nsIn K mainGlobals "bool"=some none)
  (RB:PySem.W.nsIn K mainGlobals "list"=some none)
  (M5:PySem.W.nsIn K mainGlobals "tuple"=some none)
  (Yn:PySem.W.nsIn K mainGlobals "sum"=some none)
  (Ea:PySem.W.nsIn K mainGlobals "reversed"=some none)
  (Yl:PySem.W.nsIn K mainGlobals "set"=some none)
  (Ym:PySem.W.nsIn K mainGlobals "str"=some none)
  :∃fd:FuncData,(∀(s:Shared)(v:Value),BindsTo s fd ⟨[v],[]⟩ [("_law_script",v)])∧∀base:Heap,K.In base→base.Ns mainGlobals mg→FnOk l.prog w K mg base cq 40 fa fd ["_law_script"] (L2.qK K):=by
 have e:=hfa.symm.trans (PySem.W.mg_of X G RQ);cases e;have E0:=qa (st:=cV) ml0 mc0 mk0;have e0:=E0.binds (ps:= ["self","turns"]) (λ_ _ _ _ _ _ _ hl=>by obtain ⟨_,_,rfl⟩:=L2.lq hl;rfl)
 let Z:DC:=⟨K,C⟩
 let T:Txt Z mg:=⟨⟨PySem.W.mg_none_of X G Yi,PySem.W.mg_none_of X G M4,PySem.W.mg_none_of X G Yj,PySem.W.mg_none_of X G Yk,PySem.W.mg_none_of X G BG,PySem.W.mg_none_of X G Yo,PySem.W.mg_none_of X G KJ,PySem.W.mg_none_of X G Yg,PySem.W.mg_none_of X G zW,PySem.W.mg_none_of X G Yh,PySem.W.mg_none_of X G RA,PySem.W.mg_none_of X G RB,PySem.W.mg_none_of X G M5,PySem.W.mg_none_of X G Yn,PySem.W.mg_none_of X G Ea⟩,PySem.W.mg_none_of X G Yl,PySem.W.mg_none_of X G Ym, .of X G a0 l0 c0 k0 (λ_ _ _ _ _ _ _ hl=>by obtain ⟨_,_,rfl⟩:=L2.lq hl;rfl), .of X G a1 l1 c1 k1 (λ_ _ _ _ _ _ _ hl=>by obtain ⟨_,rfl⟩:=L2.h8 hl;rfl), .of X G a2 l2 c2 k2 (λ_ _ _ _ _ _ _ hl=>by obtain ⟨_,rfl⟩:=L2.h8 hl;rfl), .of X G a3 l3 c3 k3 (λ_ _ _ _ _ _ _ hl=>by obtain ⟨_,rfl⟩:=L2.h8 hl;rfl), .of X G a4 l4 c4 k4 (λ_ _ _ _ _ _ _ hl=>by obtain ⟨_,rfl⟩:=L2.h8 hl;rfl), .of X G a5 l5 c5 k5 (λ_ _ _ _ _ _ _ hl=>by obtain ⟨_,rfl⟩:=L2.h8 hl;rfl), .of X G a6 l6 c6 k6 (λ_ _ _ _ _ _ _ hl=>by obtain ⟨_,rfl⟩:=L2.h8 hl;rfl), .of X G a7 l7 c7 k7 (λ_ _ _ _ _ _ _ hl=>by obtain ⟨_,rfl⟩:=L2.h8 hl;rfl), .of X G a8 l8 c8 k8 (λ_ _ _ _ _ _ _ hl=>by obtain ⟨_,rfl⟩:=L2.h8 hl;rfl), .of X G a9 l9 c9 k9 (λ_ _ _ _ _ _ _ hl=>by obtain ⟨_,rfl⟩:=L2.h8 hl;rfl), .of X G Ys l10 YT k10 (λ_ _ _ _ _ _ _ hl=>by obtain ⟨_,rfl⟩:=L2.h8 hl;rfl), .of X G Yt l11 YU k11 (λ_ _ _ _ _ _ _ hl=>by obtain ⟨_,_,rfl⟩:=L2.lq hl;rfl), .of X G Yu l12 YV k12 (λ_ _ _ _ _ _ _ hl=>by obtain ⟨_,rfl⟩:=L2.h8 hl;rfl), .of X G Yv l13 YW k13 (λ_ _ _ _ _ _ _ hl=>by obtain ⟨_,_,rfl⟩:=L2.lq hl;rfl), .of X G Yw y8 YX k14 (λ_ _ _ _ _ _ _ hl=>by obtain ⟨_,_,rfl⟩:=L2.lq hl;rfl), .of X G Yx l15 YY k15 (λ_ _ _ _ _ _ _ hl=>by obtain ⟨_,_,rfl⟩:=L2.lq hl;rfl), .of X G Yy l16 YZ k16 (λ_ _ _ _ _ _ _ hl=>by obtain ⟨_,_,rfl⟩:=L2.lq hl;rfl), .of X G Yz l17 Y0 k17 (λ_ _ _ _ _ _ _ hl=>by obtain ⟨_,_,rfl⟩:=L2.lq hl;rfl), .of X G YA l18 Y1 k18 (λ_ _ _ _ _ _ _ hl=>by obtain ⟨_,_,rfl⟩:=L2.lq hl;rfl), .of X G YB l19 Y2 k19 (λ_ _ _ _ _ _ _ hl=>by obtain ⟨_,_,rfl⟩:=L2.lq hl;rfl), .of X G YC l20 Y3 k20 (λ_ _ _ _ _ _ _ hl=>by obtain ⟨_,_,_,rfl⟩:=L2.AS hl;rfl), .of X G YD l21 Y4 k21 (λ_ _ _ _ _ _ _ hl=>by obtain ⟨_,_,_,rfl⟩:=L2.AS hl;rfl), .of X G YE l22 Y5 k22 (λ_ _ _ _ _ _ _ hl=>by obtain ⟨_,_,_,rfl⟩:=L2.AS hl;rfl), .of X G YF l23 Y6 k23 (λ_ _ _ _ _ _ _ hl=>by obtain ⟨_,rfl⟩:=L2.h8 hl;rfl), .of X G YG l24 Y7 k24 (λ_ _ _ _ _ _ _ hl=>by obtain ⟨_,_,rfl⟩:=L2.lq hl;rfl), .of X G RQ l25 Y8 k25 (λ_ _ _ _ _ _ _ hl=>by obtain ⟨_,rfl⟩:=L2.h8 hl;rfl),⟨⟨pgC,Lq,poC,saC⟩,nR⟩,PySem.W.mg_of X G gC,i0,_,E0,⟨mkC,m0,f0,kpC⟩,e0, .of m1 f1 ml1 mc1 mk1 (λ_ _ _ _ _ _ _ hl=>by obtain ⟨_,rfl⟩:=L2.h8 hl;rfl), .of m2 f2 ml2 mc2 mk2 (λ_ _ _ _ _ _ _ hl=>by obtain ⟨_,rfl⟩:=L2.h8 hl;rfl), .of m3 f3 ml3 mc3 mk3 (λ_ _ _ _ _ _ _ hl=>by obtain ⟨_,rfl⟩:=L2.h8 hl;rfl), .of m4 f4 ml4 mc4 mk4 (λ_ _ _ _ _ _ _ hl=>by obtain ⟨_,_,_,rfl⟩:=L2.AS hl;rfl), .of m5 f5 ml5 mc5 mk5 (λ_ _ _ _ _ _ _ hl=>by obtain ⟨_,_,_,rfl⟩:=L2.AS hl;rfl),⟨w0,w1,w2,w3,by unfold PySem.W.kitOne;exact if_pos (beq_self_eq_true _)⟩,⟨Ya,PySem.W.mg_of X G Sy⟩,⟨Yb,PySem.W.mg_of X G Sz⟩,⟨X9,PySem.W.mg_of X G Y9⟩⟩
 exact ⟨_,λs v=> .of_eq rfl,λbase _ _=>(((L7 (P:=l.prog) (w:=w) (base:=base) T).mono (by decide)).imp (L2.LR (Z:=Z)))⟩
theorem walk{l:PySem.W.OpenLaw}{q:Program}{loose:List Str}{XP:(Str→Option Value)→Heap→Prop}{YP:World→Heap→Prop}{d:DefRec}{K:Params→PySem.W.Frag}(hn:l.most=some 63)(Cw:d.params.defaults= [])
  (hY:∀(w:World)(h:Heap),YP w h→(K w.params).In h)
  (F:∀(w:World)(mg:Str→Option Value)(fa:Addr)(h:Heap),(K w.params).In h→h.Ns mainGlobals mg→mg d.name=some (.ref fa)→
   ∃fd:FuncData,(∀(s:Shared)(u:Value),BindsTo s fd ⟨[u],[]⟩ [("_law_script",u)])∧∀base:Heap,(K w.params).In base→base.Ns mainGlobals mg→FnOk l.prog w (K w.params) mg base cq 40 fa fd ["_law_script"] (qK (K w.params))):
  PySem.W.WalkO q loose XP YP l.row.toRowW d [] (λf vs=>PySem.call f vs):=L2.Rx 40 (by decide) hn Cw hY F
end BS
def PySem.W.Fast.tw3843251778669851456:Nat:=0
def PySem.W.Fast.tw15826240890736561063:Nat:=0
def PySem.W.Fast.tw487211599074376478:Nat:=0
def PySem.W.Fast.tw14220073269038898476:Nat:=0
def PySem.W.Fast.tw7459562335859771820:Nat:=0
def PySem.W.Fast.tw14923678188111791932:Nat:=0
def PySem.W.Fast.tw2653419008086161170:Nat:=0
def PySem.W.Fast.tw6066957564737077270:Nat:=0
def PySem.W.Fast.tw37433660378916190:Nat:=0
def PySem.W.Fast.tw9611043860330103587:Nat:=0
def PySem.W.Fast.tw17731715077342289683:Nat:=0
def PySem.W.Fast.tw17051683738464794035:Nat:=0
def PySem.W.Fast.tw11430879572139279183:Nat:=0
def PySem.W.Fast.tw10554575918659488459:Nat:=0
def PySem.W.Fast.tw7676827869510025469:Nat:=0
def PySem.W.Fast.tw17140083510326819776:Nat:=0
def PySem.W.Fast.tw13215256070489568319:Nat:=0
def PySem.W.Fast.tw4785221080292110696:Nat:=0
def PySem.W.Fast.tw9275778839297115872:Nat:=0
def PySem.W.Fast.tw15327131511198397374:Nat:=0
def PySem.W.Fast.tw2089572915301006131:Nat:=0
def PySem.W.Fast.tw1260329158458130047:Nat:=0
def PySem.W.Fast.tw7949635222884425862:Nat:=0
def PySem.W.Fast.tw6108938048322070601:Nat:=0
def PySem.W.Fast.tw14357128781082957218:Nat:=0
def PySem.W.Fast.tw10198951235709718475:Nat:=0
def PySem.W.Fast.tw14696366035971880793:Nat:=0
def PySem.W.Fast.tw187950824470171269:Nat:=0
def PySem.W.Fast.tw6010904619466082579:Nat:=0
def PySem.W.Fast.tw3665828635519781068:Nat:=0
def PySem.W.Fast.tw15375884661132204422:Nat:=0
def PySem.W.Fast.tw3097197980495358011:Nat:=0
def PySem.W.Fast.tw4648088117758828027:Nat:=0
def PySem.W.Fast.tw378767925256426980:Nat:=0
def PySem.W.Fast.tw6947124716560857163:Nat:=0
def PySem.W.Fast.tw12681728995543219445:Nat:=0
def PySem.W.Fast.tw15294937155483821552:Nat:=0
def PySem.W.Fast.tw5379092358735759455:Nat:=0
def PySem.W.Fast.tw15728997789493519664:Nat:=0
def PySem.W.Fast.tw12016133569468081536:Nat:=0
def PySem.W.Fast.tw9293842695561625695:Nat:=0
def PySem.W.Fast.tw2944458215041030309:Nat:=0
def PySem.W.Fast.tw1662553765782593156:Nat:=0
def PySem.W.Fast.tw11221420449392514506:Nat:=0
def PySem.W.Fast.tw1968272587342264292:Nat:=0
def PySem.W.Fast.tw10472206569227548568:Nat:=0
def PySem.W.Fast.tw7166422550864701797:Nat:=0
def PySem.W.Fast.tw14106606343005082822:Nat:=0
def PySem.W.Fast.tw4735953615175306490:Nat:=0
def PySem.W.Fast.tw2727311795922147072:Nat:=0
def PySem.W.Fast.tw10851213084847339864:Nat:=0
def PySem.W.Fast.tw18283266775100088031:Nat:=0
def PySem.W.Fast.tw11525388937201145253:Nat:=0
def PySem.W.Fast.tw11865641490349916936:Nat:=0
def PySem.W.Fast.tw3833517543067076633:Nat:=0
def PySem.W.Fast.tw6298721044800164005:Nat:=0
def PySem.W.Fast.tw6092343946471975777:Nat:=0
def PySem.W.Fast.tw11024456149066401215:Nat:=0
def PySem.W.Fast.tw17859671399926021835:Nat:=0
def PySem.W.Fast.tw11283945717871005543:Nat:=0
def PySem.W.Fast.tw7883016626264152146:Nat:=0
def PySem.W.Fast.tw17064567800056245860:Nat:=0
def PySem.W.Fast.tw12122844145224596080:Nat:=0
def PySem.W.Fast.tw1688591365701988294:Nat:=0
def PySem.W.Fast.tw6399066479105133759:Nat:=0
def PySem.W.Fast.tw12605800702913228602:Nat:=0
def PySem.W.Fast.tw11356226806220577016:Nat:=0
def PySem.W.Fast.tw7005844756001125487:Nat:=0
def PySem.W.Fast.tw17664341115366823315:Nat:=0
def PySem.W.Fast.tw8496526518655253525:Nat:=0
def PySem.W.Fast.tw2178138587635131977:Nat:=0
def PySem.W.Fast.tw1640233642493292648:Nat:=0
def PySem.W.Fast.tw6131357697722030443:Nat:=0
def PySem.W.Fast.tw9704454049196227303:Nat:=0
def PySem.W.Fast.tw1769964915998386832:Nat:=0
def PySem.W.Fast.tw11285984989771552865:Nat:=0
def PySem.W.Fast.tw4259167126141473370:Nat:=0
def PySem.W.Fast.tw12520032125437345401:Nat:=0
def PySem.W.Fast.tw10112405875842697700:Nat:=0
def PySem.W.Fast.tw2302250901146557863:Nat:=0
def PySem.W.Fast.tw3519088184320387426:Nat:=0
def PySem.W.Fast.tw7753878967645560816:Nat:=0
def PySem.W.Fast.tw18085527474880663743:Nat:=0
def PySem.W.Fast.tw10151025859490134122:Nat:=0
def PySem.W.Fast.tw12771601365589059988:Nat:=0
def PySem.W.Fast.tw16961747755635973014:Nat:=0
def PySem.W.Fast.tw15261508431994250153:Nat:=0
def PySem.W.Fast.tw206447814308875777:Nat:=0
def PySem.W.Fast.tw15165405326897865464:Nat:=0
def PySem.W.Fast.tw11974997056428075586:Nat:=0
def PySem.W.Fast.tw2635656297224767160:Nat:=0
def PySem.W.Fast.tw701347589061067616:Nat:=0
def PySem.W.Fast.tw4302324543867921241:Nat:=0
def PySem.W.Fast.tw18088942027085917945:Nat:=0
def PySem.W.Fast.tw13466709963399887866:Nat:=0
def PySem.W.Fast.tw15706359184144809182:Nat:=0
def PySem.W.Fast.tw7611154722471486503:Nat:=0
def PySem.W.Fast.tw6801068991595819605:Nat:=0
def PySem.W.Fast.tw217615338438047160:Nat:=0
def PySem.W.Fast.tw11051953522846142717:Nat:=0
def PySem.W.Fast.tw9734840087221605996:Nat:=0
def PySem.W.Fast.tw1883883992592635334:Nat:=0
def PySem.W.Fast.tw2761485559698230692:Nat:=0
def PySem.W.Fast.tw10717989041716839487:Nat:=0
def PySem.W.Fast.tw15420688773956401137:Nat:=0
def PySem.W.Fast.tw3518592857834461712:Nat:=0
def PySem.W.Fast.tw7925067196721771920:Nat:=0
def PySem.W.Fast.tw8191250184896699519:Nat:=0
def PySem.W.Fast.tw6400708955636401412:Nat:=0
def PySem.W.Fast.tw2192550095631022867:Nat:=0
def PySem.W.Fast.tw10948290922983417137:Nat:=0
def PySem.W.Fast.tw15041909721770135060:Nat:=0
def PySem.W.Fast.tw3512244953690397590:Nat:=0
def PySem.W.Fast.tw8262714659738544670:Nat:=0
def PySem.W.Fast.tw16848764594276268409:Nat:=0
def PySem.W.Fast.tw3566182757106514395:Nat:=0
def PySem.W.Fast.tw2593620064530738178:Nat:=0
def PySem.W.Fast.tw17003049763308755184:Nat:=0
def PySem.W.Fast.tw13602397411227008730:Nat:=0
def PySem.W.Fast.tw16375264290278735424:Nat:=0
def PySem.W.Fast.tw11871053760730992604:Nat:=0
def PySem.W.Fast.tw11592261464671998906:Nat:=0
def PySem.W.Fast.tw545718815707550566:Nat:=0
def PySem.W.Fast.tw6244504097322926233:Nat:=0
def PySem.W.Fast.tw5836127826971233243:Nat:=0
def PySem.W.Fast.tw8937359768093617654:Nat:=0
def PySem.W.Fast.tw18318442320005865003:Nat:=0
def PySem.W.Fast.tw2055692366331540959:Nat:=0
def PySem.W.Fast.tw2488161484883541595:Nat:=0
def PySem.W.Fast.tw9152342177478323192:Nat:=0
def PySem.W.Fast.tw6670775824620257947:Nat:=0
def PySem.W.Fast.tw14104114976758946181:Nat:=0
def PySem.W.Fast.tw11552180286118246803:Nat:=0
def PySem.W.Fast.tw9309005456034681224:Nat:=0
def PySem.W.Fast.tw3966322744811363879:Nat:=0
def PySem.W.Fast.tw167344086849127299:Nat:=0
def PySem.W.Fast.tw1148754401983444111:Nat:=0
def PySem.W.Fast.tw13404432858465962560:Nat:=0
def PySem.W.Fast.tw11573941182944624929:Nat:=0
def PySem.W.Fast.tw13508583171802150971:Nat:=0
def PySem.W.Fast.tw13133930280487112395:Nat:=0
def PySem.W.Fast.tw10211498406135546337:Nat:=0
def PySem.W.Fast.tw7524092434338485567:Nat:=0
def PySem.W.Fast.tw9373225923084643639:Nat:=0
def PySem.W.Fast.tw18241926003409947902:Nat:=0
def PySem.W.Fast.tw7512046311713438118:Nat:=0
def PySem.W.Fast.tw7074833209545573305:Nat:=0
def PySem.W.Fast.tw16067279927308347989:Nat:=0
def PySem.W.Fast.tw11558781515231165078:Nat:=0
def PySem.W.Fast.tw5175158888534171448:Nat:=0
def PySem.W.Fast.tw15913177870041851265:Nat:=0
def PySem.W.Fast.tw8722286959899490143:Nat:=0
def PySem.W.Fast.tw16607201381119030492:Nat:=0
def PySem.W.Fast.tw12105179774072549251:Nat:=0
def PySem.W.Fast.tw5248740256903518483:Nat:=0
def PySem.W.Fast.tw9096042301684285757:Nat:=0
def PySem.W.Fast.tw5859736886389951535:Nat:=0
def PySem.W.Fast.tw11421900075980104654:Nat:=0
def PySem.W.Fast.tw1339658949075506347:Nat:=0
def PySem.W.Fast.tw2455759071409889102:Nat:=0
def PySem.W.Fast.tw9478137617106334618:Nat:=0
def PySem.W.Fast.tw11843635007150069999:Nat:=0
def PySem.W.Fast.tw11043502501111086530:Nat:=0
def PySem.W.Fast.tw8754928222227582176:Nat:=0
def PySem.W.Fast.tw4047474930762725075:Nat:=0
def PySem.W.Fast.tw14562810933798934433:Nat:=0
def PySem.W.Fast.tw13113408467660473587:Nat:=0
def PySem.W.Fast.tw10671444910360066943:Nat:=0
def PySem.W.Fast.tw12158638878076564396:Nat:=0
def PySem.W.Fast.tw11503683826625630877:Nat:=0
def PySem.W.Fast.tw5658860972508654263:Nat:=0
def PySem.W.Fast.tw12423643133887505826:Nat:=0
open PySem PySem.W PyProof.Rows
set_option maxRecDepth 100000 in
set_option maxHeartbeats 0 in
theorem PySem.Challenge.cw_mapdye_k16_written_and_read_holds : PySem.Challenge.rw_mapdye_k16_written_and_read.Holds := by
 w_on;o_law;k_head;(case hw=>w_witness2)
 k_fill
 refine BS.walk (l:=PySem.Challenge.rw_mapdye_k16_written_and_read) rfl rfl (λw h Y=>PySem.W.kIn_of Y) ?F
 case F=>
  intro w mg fa h KX G uR
  refine' BS.all_mk KX G uR ?_ ?_ ?_ ?_ ?_ ?_ ?_ ?_ ?_ ?_ ?_ ?_ ?_ ?_ ?_ ?_ ?_ ?_ ?_ ?_ ?_ ?_ ?_ ?_ ?_ ?_ ?_ ?_ ?_ ?_ ?_ ?_ ?_ ?_ ?_ ?_ ?_ ?_ ?_ ?_ ?_ ?_ ?_ ?_ ?_ ?_ ?_ ?_ ?_ ?_ ?_ ?_ ?_ ?_ ?_ ?_ ?_ ?_ ?_ ?_ ?_ ?_ ?_ ?_ ?_ ?_ ?_ ?_ ?_ ?_ ?_ ?_ ?_ ?_ ?_ ?_ ?_ ?_ ?_ ?_ ?_ ?_ ?_ ?_ ?_ ?_ ?_ ?_ ?_ ?_ ?_ ?_ ?_ ?_ ?_ ?_ ?_ ?_ ?_ ?_ ?_ ?_ ?_ ?_ ?_ ?_ ?_ ?_ ?_ ?_ ?_ ?_ ?_ ?_ ?_ ?_ ?_ ?_ ?_ ?_ ?_ ?_ ?_ ?_ ?_ ?_ ?_ ?_ ?_ ?_ ?_ ?_ ?_ ?_ ?_ ?_ ?_ ?_ ?_ ?_ ?_ ?_ ?_ ?_ ?_ ?_ ?_ ?_ ?_ ?_ ?_ ?_ ?_ ?_ ?_ ?_ ?_ ?_ ?_ ?_ ?_ ?_ ?_ ?_ ?_ ?_
  all_goals (try (show _=_;k_is))
