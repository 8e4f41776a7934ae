import PyProof.Rows.All
import Wide.All
import OpenK.AllK
import Wide.FinOn
import Lean
import PyProof.EqAt
import PyProof.EqKinds
import PyProof.TupleCall
import KE.KSortTup
import PyProof.NeKinds
import PyProof.SetKind
import PyProof.SetRoads
import PyProof.SetNew
import PyProof.WalksS
import PyProof.CollectWalk
import PyProof.TupleKey
import PyProof.IsRules
import PyProof.InstEq
import KE.KRevIter
import PyProof.FitsBits
import PyProof.P3Eq
import PyProof.ListRange
import PyProof.MeetsSeq
import PyProof.DictRoadsH
import PyProof.DictTruth
import PyProof.MinMaxWalk
import PySem.Challenge.RW_mapdye_k13_whole_lands_walked
set_option Elab.async false
set_option linter.all false
set_option maxRecDepth 100000
abbrev aM:= @List.length_map
abbrev bV:= @List.getElem?_eq_some_iff
abbrev cN:= @List.getElem?_eq_getElem
abbrev cm:= @List.mem_cons_of_mem
abbrev b7:= @List.mem_cons_self
abbrev aT:= @Nat.le_refl
abbrev cT:= @List.mem_of_getElem?
abbrev fW:= @List.getD_eq_getElem?_getD
abbrev dE:= @List.length_append
abbrev dr:= @List.size_toArray
abbrev bH:= @List.getElem?_map
abbrev bW:= @Array.length_toList
abbrev cB:= @Bool.false_ne_true
abbrev dX:= @List.mem_append_right
abbrev cx:= @List.length_cons
abbrev eG:= @Array.getElem?_toList
abbrev bI:= @Nat.ne_of_lt
abbrev cM:= @List.mem_append
abbrev eH:= @Bool.false_eq_true
abbrev bX:= @List.mem_map
abbrev cy:= @List.mem_cons
abbrev dY:= @List.map_append
abbrev fZ:= @List.getElem?_of_mem
abbrev f6:= @Nat.lt_of_lt_of_le
abbrev fe:= @List.length_set
abbrev iO:= @List.getElem?_eq_none
abbrev cW:= @Nat.zero_le
abbrev g7:= @Array.toList_append
abbrev kH:= @List.getElem?_append_left
abbrev dZ:= @List.map_map
abbrev mm:= @List.getElem?_append_right
abbrev fE:= @List.mem_range
abbrev fF:= @List.map_cons
abbrev je:= @List.mem_singleton
abbrev mn:= @List.getElem?_set_self
abbrev jf:= @List.nodup_append
abbrev iP:= @List.nodup_cons
abbrev jg:= @List.length_take
abbrev jM:= @List.pairwise_map
abbrev nG:= @List.take_of_length_le
abbrev jh:= @List.append_nil
abbrev nH:= @List.take_append_drop
abbrev jN:= @List.getElem_mem
abbrev qf:= @Int.eq_ofNat_of_zero_le
abbrev kI:= @Int.toNat_natCast
abbrev rZ:= @List.drop_eq_getElem_cons
abbrev mq:= @Nat.lt_of_le_of_lt
abbrev kJ:= @Nat.le_of_not_lt
abbrev r6:= @List.getElem?_cons_succ
abbrev jO:= @List.nodup_nil
abbrev r8:= @List.length_pos_of_mem
abbrev vj:= @List.pairwise_iff_getElem
abbrev nI:= @List.append_assoc
abbrev r9:= @List.length_replicate
abbrev vk:= @List.idxOf_lt_length_iff
abbrev se:= @List.mem_append_left
abbrev sg:= @List.getElem?_set_ne
abbrev jP:= @Nat.le_trans
abbrev vm:= @List.drop_of_length_le
abbrev qg:= @List.getElem?_set
abbrev qh:= @List.length_range
abbrev qi:= @Bool.eq_false_iff
abbrev xg:= @Array.getElem?_eq_getElem
abbrev qj:= @List.lookup_cons
abbrev qk:= @List.length_nil
abbrev AG:= @Array.getD_eq_getD_getElem?
abbrev vn:= @List.reverse_append
abbrev vo:= @List.getElem?_range
abbrev vp:= @List.length_pos_iff
abbrev vq:= @List.flatten_append
abbrev xh:= @List.drop_eq_nil_of_le
abbrev nJ:= @Nat.lt_irrefl
abbrev AH:= @Array.getElem?_eq_some_iff
abbrev AI:= @List.nodup_iff_pairwise_ne
abbrev sh:= @List.mem_reverse
abbrev mr:= @Nat.le_succ
abbrev AJ:= @List.set_eq_of_length_le
abbrev AK:= @List.getElem?_replicate
abbrev vt:= @List.length_drop
abbrev ql:= @Nat.zero_add
abbrev qm:= @Nat.sub_self
abbrev xk:= @Array.size_extract
abbrev D7:= @List.perm_ext_iff_of_nodup
abbrev D8:= @Array.perm_iff_toList_perm
abbrev xl:= @List.flatMap_cons
abbrev xm:= @Array.toList_push
abbrev xn:= @List.ext_getElem?
abbrev xo:= @Nat.lt_succ_of_lt
abbrev AL:= @Array.toList_reverse
abbrev xp:= @Bool.and_eq_true
abbrev D9:= @List.getElem?_take_of_lt
abbrev xq:= @List.mem_flatten
abbrev Js:= @List.take_succ_eq_append_getElem
abbrev qo:= @Nat.mod_lt
abbrev xr:= @List.nil_append
abbrev AM:= @List.getElem_idxOf
abbrev AN:= @List.getElem?_drop
abbrev AO:= @List.flatten_cons
abbrev xt:= @List.take_zero
abbrev xu:= @Nat.mul_le_mul
abbrev ve:= @Nat.mod_eq_of_lt
abbrev vf:= @Int.natCast_emod
abbrev vg:= @List.all_eq_true
abbrev y0:= @List.pairwise_append
abbrev vh:= @Bool.eq_iff_iff
abbrev CU:= @List.mem_or_eq_of_mem_set
abbrev vi:= @List.mem_filter
namespace L2
open PySem PySem.Spec PyProof.Rows
abbrev Key:=Sum Int Str
def HC:Key→Value→Bool
 | .inl k,v=>Value.isInt k v
 | .inr x,v=>Value.isStrOf x v
def Tu(w:World):Key→Int
 | .inl k=>hashInt k
 | .inr x=>hashStr w x
theorem ck:∀{k:Key}{v:Value},HC k v=true→(∃i t,k=Sum.inl i∧v=Value.int i t)∨(∃x t,k=Sum.inr x∧v=Value.str x t)
 | .inl i,v,h=>by
  obtain ⟨t,e⟩:=Value.isInt_shape (k:=i) (v:=v) h;exact .inl ⟨i,t,rfl,e⟩
 | .inr x,v,h=>by
  obtain ⟨t,e⟩:=Value.isStrOf_shape (x:=x) (v:=v) h;exact .inr ⟨x,t,rfl,e⟩
theorem Kj(a b:Int):decide ((Sum.inl a:Key)=Sum.inl b)=(a==b):=by
 by_cases e:a=b
 ·subst e;simp
 ·have h:¬(Sum.inl a:Key)=Sum.inl b:=λq=>e (Sum.inl.inj q)
  rw [decide_eq_false h];exact (beq_eq_false_iff_ne.mpr e).symm
theorem Kn(a b:Str):decide ((Sum.inr a:Key)=Sum.inr b)=decide (a=b):=by
 by_cases e:a=b
 ·subst e;simp
 ·have h:¬(Sum.inr a:Key)=Sum.inr b:=λq=>e (Sum.inr.inj q)
  rw [decide_eq_false h,decide_eq_false e]
theorem Kk(a:Int)(b:Str):decide ((Sum.inl a:Key)=Sum.inr b)=false:=decide_eq_false (λq=>nomatch q)
theorem Km(a:Str)(b:Int):decide ((Sum.inr a:Key)=Sum.inl b)=false:=decide_eq_false (λq=>nomatch q)
def ur(prog:Program)(w:World):PySem.KeyKind prog w Key where
 is:=HC
 hash:=Tu w
 inj:=λv a b ha hb=>by
  rcases ck ha with ⟨i,t,rfl,rfl⟩ | ⟨x,t,rfl,rfl⟩
  ·rcases ck hb with ⟨j,u,rfl,e⟩ | ⟨y,u,rfl,e⟩
   ·injection e with e1 _;rw [e1]
   ·exact nomatch e
  ·rcases ck hb with ⟨j,u,rfl,e⟩ | ⟨y,u,rfl,e⟩
   ·exact nomatch e
   ·injection e with e1 _;rw [e1]
 byValue:=λk v h=>by
  rcases ck h with ⟨i,t,rfl,rfl⟩ | ⟨x,t,rfl,rfl⟩<;>rfl
 pyHash:=λhv h=>by
  rcases ck hv with ⟨i,t,rfl,rfl⟩ | ⟨x,t,rfl,rfl⟩
  ·exact wpAny_pyHash_int h
  ·exact wpAny_pyHash_str h
 eqBool:=λhu hv h=>by
  rcases ck hu with ⟨i,t,rfl,rfl⟩ | ⟨x,t,rfl,rfl⟩
  ·rcases ck hv with ⟨j,u,rfl,rfl⟩ | ⟨y,u,rfl,rfl⟩
   ·rw [Kj] at h;exact wpAny_eqBool_int h
   ·rw [Kk] at h;exact SeqAt.EqAt.int_str i t y u _ _ _ _ h
  ·rcases ck hv with ⟨j,u,rfl,rfl⟩ | ⟨y,u,rfl,rfl⟩
   ·rw [Km] at h;exact SeqAt.EqAt.str_int x t j u _ _ _ _ h
   ·rw [Kn] at h;exact wpAny_eqBool_str h
 «strs»:=λk x t v h=>by
  rcases ck h with ⟨i,u,rfl,e⟩ | ⟨y,u,rfl,e⟩
  ·exact nomatch e
  ·injection e with e1 _
   subst e1;cases v<;>rfl
inductive V where
 |aI|bl (b:Bool) |int (i:Int) |str (x:Str) |sj (b:Array UInt8) |Bm (b:UInt64) |ref (a:Addr) |ty (n:String)
 deriving DecidableEq
def RelV:V→Value→Prop
 | .aI,u=>u=Value.none
 | .bl b,u=>u=Value.bool b
 | .int i,u=>∃t,u=Value.int i t
 | .str x,u=>∃t,u=Value.str x t
 | .sj b,u=>∃t,u=Value.bytes b t
 | .Bm b,u=>∃t,u=Value.float b t
 | .ref a,u=>u=Value.ref a
 | .ty n,u=>u=Value.type n
abbrev Vals:List V→List Value→Prop:=Paired RelV
theorem Vals.length{xs:List V}{us:List Value}(r:Vals xs us):xs.length=us.length:=Paired.length r
theorem Vals.get:∀{xs:List V}{us:List Value}{i:Nat}{x:V},Vals xs us→xs[i]? =some x→∃u,us[i]? =some u∧RelV x u
 |_,_,_,_, .nil,e=>by simp at e
 |_,_,0,_, .cons r _,e=>by simp at e;subst e;exact ⟨_,rfl,r⟩
 |_,_,i+1,x, .cons _ t,e=>by
  obtain ⟨u,h1,h2⟩:=Vals.get (i:=i) (x:=x) t (by simpa using e)
  exact ⟨u,by simpa using h1,h2⟩
theorem Vals.set{x:V}{u:Value}(r:RelV x u):∀{xs:List V}{us:List Value}(i:Nat),Vals xs us→Vals (xs.set i x) (us.set i u)
 |_,_,_, .nil=> .nil
 |_,_,0, .cons _ t=> .cons r t
 |_,_,i+1, .cons q t=> .cons q (Vals.set r i t)
theorem Vals.append:∀{xs ys:List V}{us ws:List Value},Vals xs us→Vals ys ws→Vals (xs++ys) (us++ws)
 |_,_,_,_, .nil,s=>s
 |_,_,_,_, .cons r t,s=> .cons r (Vals.append t s)
theorem Vals.take:∀{xs:List V}{us:List Value}(n:Nat),Vals xs us→Vals (xs.take n) (us.take n)
 |_,_,0,_=> .nil
 |_,_,_+1, .nil=> .nil
 |_,_,n+1, .cons r t=> .cons r (Vals.take n t)
theorem Vals.drop:∀{xs:List V}{us:List Value}(n:Nat),Vals xs us→Vals (xs.drop n) (us.drop n)
 |_,_,0,r=>r
 |_,_,_+1, .nil=> .nil
 |_,_,n+1, .cons _ t=>Vals.drop n t
def m7:Option V→Option Value→Prop
 |some v,some u=>RelV v u
 |none,none=>True
 |_,_=>False
def KV{κ:Type}:List (κ×V)→List (κ×Value)→Prop:=Paired λ(p:κ×V)(q:κ×Value)=>p.1=q.1∧RelV p.2 q.2
def kV:Key→V
 | .inl i=> .int i
 | .inr x=> .str x
inductive HO where
 |lst (xs:List V)
 |tup (xs:List V)
 |dK (dM:List (Key×V)) |dT (dM:List (List Key×V))
 |set (S:Int→Bool) (n:Nat)
 |ins (C dx:Addr) (fs:List (Str×V))
 |own (x:Addr)
 |xd (fs:List (Str×V))
 |met (f x:Addr)
 |rng (lo hi:Int)
 |ph (o:Obj) (u:HO)
 |CG (ps:Array Value)
 |ext (φ:Heap→Prop)
abbrev Hp:=Addr→Option HO
def upd(H:Hp)(a:Addr)(o:HO):Hp:=λb=>if b=a then some o else H b
theorem aa{H:Hp}{a:Addr}{o:HO}:upd H a o a=some o:=by unfold upd;rw [if_pos rfl]
theorem ab{H:Hp}{a b:Addr}{o:HO}(h:b≠a):upd H a o b=H b:=by unfold upd;rw [if_neg h]
theorem qc{H:Hp}{a:Addr}{o u:HO}:upd (upd H a o) a u=upd H a u:=by
 funext b;unfold upd;split<;>rfl
theorem ah{H:Hp}{a b:Addr}{o:HO}(h:H a=some o)(h':H b=none):a≠b:=by
 intro e;subst e;rw [h] at h';cases h'
section
variable (P:Program) (w:World)
def cC(H:Hp)(h:Heap)(a:Addr):HO→Prop
 | .lst xs=>xs.length≤sizeLine∧∃(its:List Value)(n:Nat),Vals xs its∧h.get? a=some {cls:= .type "list",data:= .seq its.toArray n}
 | .tup xs=>xs.length≤sizeLine∧∃its:List Value,Vals xs its∧IsTup h a its.toArray
 | .dK dM=>dM.length≤sizeLine∧(a==sysModules)=false∧∃vs,KV dM vs∧h.DictOf (ur P w) a vs
 | .dT dM=>dM.length≤sizeLine∧(a==sysModules)=false∧∃xs:List (List Key×Addr×Value),
   Paired (λ(p:List Key×V)(q:List Key×Addr×Value)=>p.1=q.1∧H q.2.1=some (.tup (p.1.map kV))∧RelV p.2 q.2.2) dM xs∧
   ∃o es ep,h.get? a=some o∧o.ExactDict∧o.data= .dict es ep∧es.toList=xs.map (entryOfKey (tupleKind (ur P w)))∧(xs.map (·.1)).Nodup
 | .set S n=>h.SetOf (intKind P w) a S n
 | .ins C dx fs=>H dx=some (.own a)∧fs.length≤1000∧dx≠a∧h.get? a=some (PySem.W.instObj C dx)∧
   ∃mA,h.Ns1 dx mA∧(∀f,m7 (fs.lookup f) (mA f))∧PySem.Within mA (fs.map (·.1))
 | .own _=>∃o,h.get? a=some o
 | .xd fs=>∃mA,h.Ns1 a mA∧∀f,m7 (fs.lookup f) (mA f)
 | .rng lo hi=>∃t u v,h.get? a=some {cls:= .type "range",data:= .fields #[.int lo t, .int hi u, .int 1 v]}
 | .ph o u=>h.get? a=some o∧cC H h a u
 | .CG ps=>h.get? a=some {cls:= .none,data:= .fields ps}
 | .met f x=>h.get? a=some (PySem.W.methodObj (.ref f) (.ref x))
 | .ext φ=>φ h∧(∃o,h.get? a=some o)∧∀h1 h2:Heap,φ h1→(∀o,h1.get? a=some o→h2.get? a=some o)→φ h2
def hU(H:Hp)(h:Heap):Prop:=∀a o,H a=some o→cC P w H h a o
end
section
variable {P:Program} {w:World} {H H':Hp} {h h':Heap} {a:Addr} {o:HO}
theorem cC.lt(x:cC P w H h a o):a<h.objs.size:=by
 cases o with
 |lst xs=>obtain ⟨_,_,_,_,e⟩:=x;exact Heap.lt_size e
 |tup xs=>obtain ⟨_,_,_,p⟩:=x;exact p.lt
 |dK dM=>obtain ⟨_,_,_,_,o,_,_,e,_⟩:=x;exact Heap.lt_size e
 |dT dM=>obtain ⟨_,_,_,_,o,_,_,e,_⟩:=x;exact Heap.lt_size e
 |set S n=>obtain ⟨o,_,_,_,e,_⟩:=x;exact Heap.lt_size e
 |ins C dx fs=>obtain ⟨_,_,_,e,_⟩:=x;exact Heap.lt_size e
 |own y=>obtain ⟨_,e⟩:=x;exact Heap.lt_size e
 |xd fs=>obtain ⟨_,⟨_,_,_,e,_⟩,_⟩:=x;exact Heap.lt_size e
 |rng lo hi=>obtain ⟨_,_,_,e⟩:=x;exact Heap.lt_size e
 |ph ob u=>obtain ⟨e,_⟩:=x;exact Heap.lt_size e
 |CG ps=>exact Heap.lt_size (show h.get? a=some _ from x)
 |met f y=>exact Heap.lt_size (show h.get? a=some _ from x)
 |ext φ=>obtain ⟨_,⟨_,e⟩,_⟩:=x;exact Heap.lt_size e
theorem Paired.Mv{α β:Type}{F G:α→β→Prop}:∀{l₁:List α}{l₂:List β},Paired F l₁ l₂→(∀a b,F a b→G a b)→Paired G l₁ l₂
 |_,_, .nil,_=> .nil
 |_,_, .cons r t,f=> .cons (f _ _ r) (Paired.Mv t f)
theorem cC.rV(x:cC P w H h a o)(k:∀b u,(b=a∨H b=some (.own a))→h.get? b=some u→h'.get? b=some u)
  (ho:∀b,H b=some (.own a)→H' b=some (.own a)) (ht:∀b xs,H b=some (.tup xs)→H' b=some (.tup xs)):cC P w H' h' a o:=by
 induction o with
 |lst xs=>obtain ⟨z,its,n,r,e⟩:=x;exact ⟨z,its,n,r,k _ _ (.inl rfl) e⟩
 |tup xs=>obtain ⟨z,its,r,ob,e,c⟩:=x;exact ⟨z,its,r,ob,k _ _ (.inl rfl) e,c⟩
 |dK dM=>obtain ⟨z,y,vs,r,ob,es,ep,e,c⟩:=x;exact ⟨z,y,vs,r,ob,es,ep,k _ _ (.inl rfl) e,c⟩
 |dT dM=>
  obtain ⟨z,y,xs,r,ob,es,ep,e,c⟩:=x;exact ⟨z,y,xs,Paired.Mv r λp q z=>⟨z.1,ht _ _ z.2.1,z.2.2⟩,ob,es,ep,k _ _ (.inl rfl) e,c⟩
 |set S n=>obtain ⟨ob,es,ep,t,e,c⟩:=x;exact ⟨ob,es,ep,t,k _ _ (.inl rfl) e,c⟩
 |ins C dx fs=>
  obtain ⟨d,z,ne,e,mA,⟨od,es,ep,e2,c⟩,r⟩:=x;exact ⟨ho _ d,z,ne,k _ _ (.inl rfl) e,mA,⟨od,es,ep,k _ _ (.inr d) e2,c⟩,r⟩
 |own y=>obtain ⟨ob,e⟩:=x;exact ⟨ob,k _ _ (.inl rfl) e⟩
 |xd fs=>obtain ⟨mA,⟨od,es,ep,e,c⟩,r⟩:=x;exact ⟨mA,⟨od,es,ep,k _ _ (.inl rfl) e,c⟩,r⟩
 |rng lo hi=>obtain ⟨t,u,v,e⟩:=x;exact ⟨t,u,v,k _ _ (.inl rfl) e⟩
 |ph ob u ih=>obtain ⟨e,q⟩:=x;exact ⟨k _ _ (.inl rfl) e,ih q⟩
 |CG ps=>
  have e:h.get? a=some {cls:= .none,data:= .fields ps}:=x;show h'.get? a=some {cls:= .none,data:= .fields ps};exact k a _ (.inl rfl) e
 |met f y=>
  have e:h.get? a=some (PySem.W.methodObj (.ref f) (.ref y)):=x;show h'.get? a=some (PySem.W.methodObj (.ref f) (.ref y));exact k a _ (.inl rfl) e
 |ext φ=>obtain ⟨p,⟨o,e⟩,st⟩:=x;exact ⟨st _ _ p λo q=>k _ _ (.inl rfl) q,⟨o,k _ _ (.inl rfl) e⟩,st⟩
theorem hU.lt(x:hU P w H h)(e:H a=some o):a<h.objs.size:=(x a o e).lt
theorem hU.fresh(x:hU P w H h)(e:h.objs.size≤a):H a=none:=by
 cases q:H a with
 |none=>rfl
 |some u=>exact absurd (f6 (x.lt q) e) (nJ _)
theorem hU.kept(x:hU P w H h)(k:∀b u,h.get? b=some u→h'.get? b=some u):hU P w H h':=λa o e=>
 (x a o e).rV (λb u _ q=>k b u q) (λ_ q=>q) λ_ _ q=>q
theorem hU.laid(x:hU P w H h)(k:∀b u,h.get? b=some u→h'.get? b=some u)(hp:h.objs.size≤a)(new:cC P w (upd H a o) h' a o):hU P w (upd H a o) h':=λb u e=>by
 have hn:=x.fresh hp
 by_cases hb:b=a
 ·subst hb;rw [aa] at e;cases e;exact new
 ·rw [ab hb] at e
  exact (x b u e).rV (λc v _ q=>k c v q) (λc q=>by rw [ab (ah q hn)];exact q) λc xs q=>by rw [ab (ah q hn)];exact q
end
def Rd(H:Hp)(a:Addr)(u:HO):Prop:=H a=some u∨∃o,H a=some (.ph o u)
theorem Rd.ok{P:Program}{w:World}{H:Hp}{h:Heap}{a:Addr}{u:HO}(r:Rd H a u)(x:hU P w H h):cC P w H h a u:=by
 rcases r with r| ⟨o,r⟩
 ·exact x a u r
 ·obtain ⟨_,q⟩:=x a _ r
  exact q
def Jy:Option HO→Prop
 |some (.lst _)=>True
 |some (.dK _)=>True
 |some (.dT _)=>True
 |some (.set _ _)=>True
 |some (.ins _ _ _)=>True
 |some (.ext _)=>True
 |_=>False
section
variable {P:Program} {w:World} {H:Hp} {h h':Heap} {x e:Addr} {o':HO}
theorem hU.write(ok:hU P w H h)(mu:Jy (H x))(he:e=x∨H e=some (.own x))(k:∀b u,b≠e→h.get? b=some u→h'.get? b=some u)(EO:∃u,h'.get? e=some u)
  (new:cC P w (upd H x o') h' x o'):hU P w (upd H x o') h':=λb u q=>by
 have ME:∀c y,H c=some (.own y)→c≠x:=λc y r z=>by subst z;rw [r] at mu;exact mu
 have T7:∀c xs,H c=some (.tup xs)→c≠x:=λc xs r z=>by subst z;rw [r] at mu;exact mu
 by_cases hb:b=x
 ·subst hb;rw [aa] at q;cases q;exact new
 ·rw [ab hb] at q
  by_cases Bv:b=e
  ·have q':H b=some (.own x):=by
    rcases he with z|z
    ·exact absurd (Bv.trans z) hb
    ·rw [Bv];exact z
   rw [q] at q';cases q';obtain ⟨v,hv⟩:=EO;exact ⟨v,by rw [Bv];exact hv⟩
  ·refine (ok b u q).rV (λc v hc r=>k c v ?_ r) (λc r=>by rw [ab (ME c b r)];exact r) λc xs r=>by rw [ab (T7 c xs r)];exact r
   rcases hc with rfl|hc
   ·exact Bv
   ·rintro rfl
    rcases he with z|z
    ·exact ME c b hc z
    ·rw [hc] at z;cases z;exact hb rfl
end
structure Un (fs ex:List Addr) (H H':Hp) (h h':Heap):Prop where
 keep:∀b o,h.get? b=some o→H b=none→b∉fs→b∉ex→h'.get? b=some o
 slot:∀b o,h.get? b=some o→H b=none→b∈fs→b∉ex→∃sl,h'.get? b=some {o with slots:=sl}
 free:∀b o,h.get? b=some o→H b=none→b∉ex→H' b=none
 there:∀b o,h.get? b=some o→b∉ex→∃o',h'.get? b=some o'
 tups:∀b xs,H b=some (.tup xs)→H' b=some (.tup xs)
 frzs:∀b o u,H b=some (.ph o u)→H' b=some (.ph o u)
 tbls:∀b ps,H b=some (.CG ps)→∃more,H' b=some (.CG (ps++more))
section
variable {fs Bp ex m6:List Addr} {H H1 H2:Hp} {h h1 h2 h':Heap} {a x e:Addr} {o:HO}
theorem Un.any(u:Un fs ex H H1 h h1){b:Addr}{ob:Obj}(q:h.get? b=some ob)(n:H b=none)(hx:b∉ex):∃sl,h1.get? b=some {ob with slots:=sl}:=by
 by_cases hb:b∈fs
 ·exact u.slot b ob q n hb hx
 ·exact ⟨ob.slots,u.keep b ob q n hb hx⟩
theorem Un.kept(k:∀b u,h.get? b=some u→h'.get? b=some u):Un fs ex H H h h':=
 ⟨λb ob q _ _ _=>k b ob q,λb ob q _ _ _=>⟨ob.slots,k b ob q⟩,λ_ _ _ n _=>n,λb ob q _=>⟨ob,k b ob q⟩,λ_ _ q=>q,λ_ _ _ q=>q,λ_ ps q=>⟨#[],by rw [q];simp⟩⟩
theorem Un.refl:Un fs ex H H h h:=Un.kept λ_ _ q=>q
theorem Un.laid(k:∀b u,h.get? b=some u→h'.get? b=some u)(hp:h.objs.size≤a)(hn:H a=none):Un fs ex H (upd H a o) h h' where
 keep:=λb u q _ _ _=>k b u q
 slot:=λb u q _ _ _=>⟨u.slots,k b u q⟩
 free:=λb u q n _=>by rw [ab (bI (f6 (Heap.lt_size q) hp))];exact n
 there:=λb u q _=>⟨u,k b u q⟩
 tups:=λb xs q=>by rw [ab (ah q hn)];exact q
 frzs:=λb u xs q=>by rw [ab (ah q hn)];exact q
 tbls:=λb ps q=>⟨#[],by rw [ab (ah q hn),q];simp⟩
theorem Un.write(mu:Jy (H x))(he:e=x∨H e=some (.own x))(k:∀b u,b≠e→h.get? b=some u→h'.get? b=some u)(EO:∃u,h'.get? e=some u):Un fs ex H (upd H x o) h h':=by
 have hx:∀b,H b=none→b≠x:=λb n z=>by subst z;rw [n] at mu;exact mu
 have hb:∀b,H b=none→b≠e:=λb n z=>by
  subst z
  rcases he with r|r
  ·exact hx b n r
  ·rw [n] at r;cases r
 have hm:∀b u,H b=some u→¬Jy (some u)→b≠x:=λb u q nm z=>by subst z;rw [q] at mu;exact nm mu
 refine ⟨λb u q n _ _=>k b u (hb b n) q,λb u q n _ _=>⟨u.slots,k b u (hb b n) q⟩,λb u q n _=>by rw [ab (hx b n)];exact n,λb u q _=>?_,
  λb xs q=>by rw [ab (hm b _ q λz=>z)];exact q,λb u xs q=>by rw [ab (hm b _ q λz=>z)];exact q,λb ps q=>⟨#[],by rw [ab (hm b _ q λz=>z),q];simp⟩⟩
 by_cases Bv:b=e
 ·subst Bv;exact EO
 ·exact ⟨u,k b u Bv q⟩
end
def LB(h:Heap)(H:Hp):List Addr:=(List.range h.objs.size).filter λa=>(H a).isSome
def pz(h:Heap)(H:Hp):Heap:=PySem.W.hideAll h (LB h H)
theorem Bz(h:Heap)(H:Hp):(pz h H).objs.size=h.objs.size:=PySem.W.hideAll_size _ _
theorem ER{h:Heap}{H:Hp}{b:Addr}{o:Obj}(e:h.get? b=some o)(n:H b=none):(pz h H).get? b=some o:=
 PySem.W.hideAll_get _ e λhm=>by
  have q:(H b).isSome=true:=(vi.mp hm).2;rw [n] at q;simp at q
theorem HZ{h:Heap}{H:Hp}{b:Addr}{o:Obj}(e:(pz h H).get? b=some o):h.get? b=some o∧H b=none:=by
 have e':h.get? b=some o:=PySem.W.of_hideAll (LB h H) e;refine ⟨e',?_⟩;cases q:H b with
 |none=>rfl
 |some x=>
  have hm:b∈LB h H:=vi.mpr ⟨fE.mpr (Heap.lt_size e'),by simp [q]⟩
  have z:(pz h H).get? b=none:=PySem.W.hideAll_none (LB h H) hm;rw [z] at e;cases e
structure Mod (K:PySem.W.Frag) (mg:Str→Option Value) (base:Heap):Prop where
 kin:K.In base
 glob:base.Ns mainGlobals mg
 blt:∃mb,base.Ns builtinsNs mb∧∀x:Str,x≠"__name__"→mb x=bootBuiltins x
 nolimit:base.NoLimit
structure Cx where
 prog:Program
 w:World
 K:PySem.W.Frag
 mg:Str→Option Value
 base:Heap
 A:Around
 N:List Str
 s₀:Shared
 H₀:Hp
 env:Env
 outer:List Env
 stack:List Env
 ex:List Addr
 fn:Str→Bool
 calm:Bool
 pn:List (Addr×Obj)
 xe:Value→Shared→Prop
def tW(l:List Env):List Addr:=l.filterMap (·.frame)
abbrev Cx.fs(X:Cx):List Addr:=tW X.outer
def qs(sc:Scope)(x:Str):Prop:=sc.names.lookup x=some .local∨sc.names.lookup x=some .cell∨sc.names.lookup x=some .free
def Loc(sc:Scope)(x:Str):Prop:=sc.names.lookup x=some .local∨sc.names.lookup x=some .cell
def Look(env:Env)(h:Heap)(m:Str→Option Value)(x:Str)(u:Value):Prop:=
 (env.kindOf x=some .local∧m x=some u)∨((env.kindOf x=some .cell∨env.kindOf x=some .free)∧∃c,env.cells.lookup x=some c∧h.IsCell c (some u))
structure Cx.Ok (X:Cx):Prop where
 mod:Mod X.K X.mg X.base
 kind:X.env.scope.kind= .function
 glob:X.env.globals=mainGlobals
 blt:X.env.builtins=builtinsNs
 above:X.s₀.heap.objs.size≤X.env.locals
 inj:∀x y c,X.env.cells.lookup x=some c→X.env.cells.lookup y=some c→x=y
 has:∀x,(X.env.kindOf x=some .cell∨X.env.kindOf x=some .free)→∃c,X.env.cells.lookup x=some c
 cab:∀x c,X.fn x=true→X.env.cells.lookup x=some c→X.s₀.heap.objs.size≤c
 hd:X.calm=true→X.A.handled=none
 frames:X.A.frames=some X.stack
 stk:X.stack=X.outer∨(X.stack=X.env::X.outer∧X.env.frame=some X.env.locals)
 exf:∀b∈X.ex,b≠X.env.locals∧∀x c,X.env.cells.lookup x=some c→c≠b
 bs:∀b o,X.base.get? b=some o→X.s₀.heap.get? b=some o∧X.H₀ b=none
 bsz:X.base.objs.size≤X.s₀.heap.objs.size
 noex:∀b o,X.base.get? b=some o→b∉X.ex
 exfs:∀b∈X.ex,b∉X.fs
 funs:X.s₀.heap.FunFrames X.base X.outer
 frf:∀b∈X.fs,X.H₀ b=none
structure Inv (X:Cx) (pins:List (Addr×Obj)) (σ:List (Option V)) (H:Hp) (s:Shared):Prop where
 ok:X.Ok
 os:s.os=X.s₀.os
 bare:AllBare s.gens
 base:Un X.fs X.ex X.H₀ H X.s₀.heap s.heap
 loc:∃m,s.heap.Ns X.env.locals m∧∀(i:Nat)(x:Str)(v:V),X.N[i]? =some x→σ[i]? =some (some v)→qs X.env.scope x→∃u,RelV v u∧Look X.env s.heap m x u
 cell:∀x c,X.env.cells.lookup x=some c→∃v,s.heap.IsCell c v
 free:H X.env.locals=none
 freeC:∀x c,X.env.cells.lookup x=some c→H c=none
 pin:∀p∈X.pn++pins,s.heap.get? p.1=some p.2∧H p.1=none∧p.1≠X.env.locals∧p.1∉X.fs∧∀v,p.2.data≠ .cell v
 hok:hU X.prog X.w H s.heap
 len:σ.length=X.N.length
section
variable {X:Cx} {pins:List (Addr×Obj)} {σ:List (Option V)} {H H':Hp} {s:Shared} {h':Heap}
theorem Cx.Ok.T4(ok:X.Ok){b:Addr}{o:Obj}(e:X.base.get? b=some o):b∉X.fs:=λhb=>by
 have:=(ok.funs.mem hb).1
 rw [e] at this;cases this
theorem Inv.bs(I:Inv X pins σ H s):∀b o,X.base.get? b=some o→s.heap.get? b=some o∧H b=none:=λb o e=>
 ⟨I.base.keep b o (I.ok.bs b o e).1 (I.ok.bs b o e).2 (I.ok.T4 e) (I.ok.noex b o e),I.base.free b o (I.ok.bs b o e).1 (I.ok.bs b o e).2 (I.ok.noex b o e)⟩
theorem Inv.bk(I:Inv X pins σ H s):∀b o,X.base.get? b=some o→s.heap.get? b=some o:=λb o e=>(I.bs b o e).1
theorem Inv.mod(I:Inv X pins σ H s):Mod X.K X.mg X.base:=I.ok.mod
theorem Inv.gQ(I:Inv X pins σ H s):X.K.In s.heap:=I.ok.mod.kin.keeps I.bk
theorem Inv.lt(I:Inv X pins σ H s):X.env.locals<s.heap.objs.size:=let ⟨_,hn,_⟩:=I.loc;hn.lt
theorem Inv.sz(I:Inv X pins σ H s):X.s₀.heap.objs.size≤s.heap.objs.size:=jP I.ok.above (Nat.le_of_lt I.lt)
theorem Inv.MD(I:Inv X pins σ H s){a:Addr}(h:s.heap.objs.size≤a):a∉X.fs:=λhb=>by
 obtain ⟨_,o,ho,_⟩:=I.ok.funs.mem hb;exact absurd (f6 (Heap.lt_size ho) (jP I.sz h)) (nJ _)
theorem Inv.A9(I:Inv X pins σ H s):∀x c,X.env.cells.lookup x=some c→c≠X.env.locals:=λx c e z=>by
 obtain ⟨v,o,ho,hd⟩:=I.cell x c e;obtain ⟨m,⟨o',es,ep,jl,iT,_⟩,_⟩:=I.loc;rw [z,jl] at ho;cases ho;rw [iT] at hd;cases hd
theorem Inv.funs(I:Inv X pins σ H s):s.heap.FunFrames X.base X.outer:=by
 have all:∀(l:List Env),(∀b∈tW l,b∈X.fs)→X.s₀.heap.FunFrames X.base l→s.heap.FunFrames X.base l:=by
  intro l
  induction l with
  |nil=>intro _ _;trivial
  |cons env r ih=>
   intro hs hl;obtain ⟨hk,⟨L,o,hf,hn,ho,hd⟩,hr⟩:=hl;have hL:L∈X.fs:=hs L (by unfold tW;rw [List.filterMap_cons,hf];exact b7)
   obtain ⟨sl,e⟩:=I.base.slot L o ho (I.ok.frf L hL) hL λz=>I.ok.exfs L z hL;exact ⟨hk,⟨L,_,hf,hn,e,hd⟩,ih (λb hb=>hs b (by unfold tW;rw [List.filterMap_cons,hf];exact cm _ hb)) hr⟩
 exact all X.outer (λ_ hb=>hb) I.ok.funs
theorem Inv.stack(I:Inv X pins σ H s):s.heap.FunFrames X.base X.stack:=by
 rcases I.ok.stk with e| ⟨e,hf⟩
 ·rw [e];exact I.funs
 ·rw [e]
  obtain ⟨m,hn,_⟩:=I.loc;refine .cons (by rw [I.ok.kind];decide) hf hn ?_ I.funs
  exact Heap.get?_none_of_le (jP I.ok.bsz I.ok.above)
theorem Inv.yP(I:Inv X pins σ H s):∀b∈tW X.stack,b∈X.env.locals::X.fs:=λb hb=>by
 rcases I.ok.stk with e| ⟨e,hf⟩
 ·rw [e] at hb;exact cm _ hb
 ·rw [e] at hb
  unfold tW at hb;rw [List.filterMap_cons,hf] at hb;exact hb
theorem Inv.As(I:Inv X pins σ H s):∀b∈tW X.stack,H b=none:=λb hb=>by
 rcases cy.mp (I.yP b hb) with e|hb
 ·rw [e];exact I.free
 ·obtain ⟨_,o,ho,_⟩:=I.ok.funs.mem hb
  exact I.base.free b o ho (I.ok.frf b hb) λz=>I.ok.exfs b z hb
theorem Inv.step{g':Array GenState}{t':Nat}{d':Drawn}{ch:List Addr}(I:Inv X pins σ H s)
  (vD:∀b∈ch,(b∈X.ex∨X.s₀.heap.objs.size≤b)∧b≠X.env.locals∧(∀x c,X.env.cells.lookup x=some c→c≠b)∧∀p∈X.pn++pins,p.1≠b)
  (keep:∀b o,b≠X.env.locals→b∉X.fs→b∉ch→s.heap.get? b=some o→H b=none→h'.get? b=some o)
  (slot:∀b o,b≠X.env.locals→b∈X.fs→b∉ch→s.heap.get? b=some o→H b=none→∃sl,h'.get? b=some {o with slots:=sl}) (free:∀b o,b∉ch→s.heap.get? b=some o→H b=none→H' b=none)
  (there:∀b o,b∉ch→s.heap.get? b=some o→∃o',h'.get? b=some o')
  (tups:∀b xs,H b=some (.tup xs)→H' b=some (.tup xs)) (frzs:∀b o u,H b=some (.ph o u)→H' b=some (.ph o u)) (tbls:∀b ps,H b=some (.CG ps)→∃more,H' b=some (.CG (ps++more)))
  (ns:∀m,s.heap.Ns X.env.locals m→h'.Ns X.env.locals m) (hok:hU X.prog X.w H' h') (hg:AllBare g'):
  Inv X pins σ H' {s with heap:=h',gens:=g',drawn:=d',toks:=t'}:=by
 have TU:∀b o,X.s₀.heap.get? b=some o→b≠X.env.locals:=λb o e=>bI (f6 (Heap.lt_size e) I.ok.above)
 have KA:∀b o,X.s₀.heap.get? b=some o→b∉X.ex→b∉ch:=λb o e hx hb=>by
  rcases (vD b hb).1 with z|z
  ·exact hx z
  ·exact absurd (f6 (Heap.lt_size e) z) (nJ _)
 have cellK:∀x c,X.env.cells.lookup x=some c→∀v,s.heap.IsCell c v→h'.IsCell c v:=λx c e v ⟨o,ho,hd⟩=>by
  have HQ:c∉ch:=λz=>(vD c z).2.2.1 x c e rfl
  by_cases hc:c∈X.fs
  ·obtain ⟨sl,q⟩:=slot c o (I.A9 x c e) hc HQ ho (I.freeC x c e)
   exact ⟨_,q,hd⟩
  ·exact ⟨o,keep c o (I.A9 x c e) hc HQ ho (I.freeC x c e),hd⟩
 refine ⟨I.ok,I.os,hg,⟨λb o e n hb hx=>?_,λb o e n hb hx=>?_,λb o e n hx=>?_,λb o e hx=>?_,λb xs e=>tups b xs (I.base.tups b xs e),λb o xs e=>frzs b o xs (I.base.frzs b o xs e),λb ps e=>?_⟩,?_,λx c e=>?_,?_,λx c e=>?_,λp hp=>?_,hok,I.len⟩
 ·exact keep b o (TU b o e) hb (KA b o e hx) (I.base.keep b o e n hb hx) (I.base.free b o e n hx)
 ·obtain ⟨sl,e1⟩:=I.base.slot b o e n hb hx
  obtain ⟨sl',e2⟩:=slot b _ (TU b o e) hb (KA b o e hx) e1 (I.base.free b o e n hx);exact ⟨sl',e2⟩
 ·obtain ⟨o',e1⟩:=I.base.there b o e hx
  exact free b o' (KA b o e hx) e1 (I.base.free b o e n hx)
 ·obtain ⟨o',e1⟩:=I.base.there b o e hx
  exact there b o' (KA b o e hx) e1
 ·obtain ⟨m1,e1⟩:=I.base.tbls b ps e
  obtain ⟨m2,e2⟩:=tbls b _ e1;exact ⟨m1++m2,by rw [e2,Array.append_assoc]⟩
 ·obtain ⟨m,hn,hl⟩:=I.loc
  refine ⟨m,ns m hn,λi x v e1 e2 e3=>?_⟩;obtain ⟨u,r,l⟩:=hl i x v e1 e2 e3;refine ⟨u,r,?_⟩
  rcases l with l| ⟨k,c,e,z⟩
  ·exact .inl l
  ·exact .inr ⟨k,c,e,cellK x c e _ z⟩
 ·obtain ⟨v,z⟩:=I.cell x c e
  exact ⟨v,cellK x c e v z⟩
 ·obtain ⟨m,⟨o,_,_,ho,_⟩,_⟩:=I.loc
  exact free _ o (λz=>(vD _ z).2.1 rfl) ho I.free
 ·obtain ⟨v,o,ho,hd⟩:=I.cell x c e
  exact free c o (λz=>(vD c z).2.2.1 x c e rfl) ho (I.freeC x c e)
 ·obtain ⟨e,n,ne,nf,d⟩:=I.pin p hp
  have HQ:p.1∉ch:=λz=>(vD p.1 z).2.2.2 p hp rfl;exact ⟨keep p.1 p.2 ne nf HQ e n,free p.1 p.2 HQ e n,ne,nf,d⟩
theorem Inv.un{t':Nat}(I:Inv X pins σ H s)(u:Un X.fs [] H H' s.heap h')(hok:hU X.prog X.w H' h'):Inv X pins σ H' {s with heap:=h',toks:=t'}:=by
 obtain ⟨m,⟨o,es,ep,ho,r⟩,_⟩:=id I.loc;obtain ⟨sl,hL⟩:=u.any ho I.free (by simp)
 exact I.step (g':=s.gens) (d':=s.drawn) (ch:= []) (λ_ z=>nomatch z) (λb o _ hb _ e n=>u.keep b o e n hb (by simp)) (λb o _ hb _ e n=>u.slot b o e n hb (by simp)) (λb o _ e n=>u.free b o e n (by simp)) (λb o _ e=>u.there b o e (by simp)) u.tups u.frzs u.tbls (λm' hm=>by
  obtain ⟨o',jW,xO,jl,r'⟩:=hm;rw [ho] at jl;cases jl;exact ⟨_,jW,xO,hL,r'⟩) hok I.bare
theorem Inv.call{g':Array GenState}{t':Nat}{d':Drawn}{ch:List Addr}(I:Inv X pins σ H s)(u:Un (tW X.stack) ch H H' s.heap h')(hok:hU X.prog X.w H' h')(hg:AllBare g')
  (vD:∀b∈ch,(b∈X.ex∨X.s₀.heap.objs.size≤b)∧b≠X.env.locals∧(∀x c,X.env.cells.lookup x=some c→c≠b)∧∀p∈X.pn++pins,p.1≠b):
  Inv X pins σ H' {s with heap:=h',gens:=g',drawn:=d',toks:=t'}:=by
 obtain ⟨m,⟨o,es,ep,ho,r⟩,_⟩:=id I.loc;obtain ⟨sl,hL⟩:=u.any ho I.free λz=>(vD _ z).2.1 rfl
 exact I.step (ch:=ch) vD (λb o hL hb hc e n=>u.keep b o e n (λz=>(cy.mp (I.yP b z)).elim hL hb) hc) (λb o _ _ hc e n=>u.any e n hc) (λb o hc e n=>u.free b o e n hc) (λb o hc e=>u.there b o e hc) u.tups u.frzs u.tbls (λm' hm=>by
  obtain ⟨o',jW,xO,jl,r'⟩:=hm;rw [ho] at jl;cases jl;exact ⟨_,jW,xO,hL,r'⟩) hok hg
theorem Inv.turned{t':Nat}{it:Addr}(I:Inv X pins σ H s)(k:∀b o,b≠it→s.heap.get? b=some o→h'.get? b=some o)(hn:H it=none)(hL:it≠X.env.locals)
  (h1:it∈X.ex∨X.s₀.heap.objs.size≤it) (h2:∀x c,X.env.cells.lookup x=some c→c≠it) (h3:∀p∈X.pn++pins,p.1≠it):Inv X pins σ H {s with heap:=h',toks:=t'}:=by
 have TX:∀b u,H b=some u→b≠it:=λb u e z=>by rw [z,hn] at e;cases e
 refine I.step (g':=s.gens) (d':=s.drawn) (ch:= [it]) (λb hb=>?_) (λb o _ _ hc e _=>k b o (λz=>hc (by simp [z])) e) (λb o _ _ hc e _=>⟨o.slots,k b o (λz=>hc (by simp [z])) e⟩) (λ_ _ _ _ n=>n)
  (λb o hc e=>⟨o,k b o (λz=>hc (by simp [z])) e⟩) (λ_ _ e=>e) (λ_ _ _ e=>e) (λb ps e=>⟨#[],by rw [e];simp⟩) (λm hm=>?_) (λb u e=>?_) I.bare
 ·have e:b=it:=by simpa using hb
  subst e;exact ⟨h1,hL,h2,h3⟩
 ·obtain ⟨o,es,ep,ho,r⟩:=hm
  exact ⟨o,es,ep,k _ o (Ne.symm hL) ho,r⟩
 ·refine (I.hok b u e).rV (λc v hc q=>k c v ?_ q) (λ_ q=>q) λ_ _ q=>q
  rcases hc with z|z
  ·rw [z];exact TX b u e
  ·exact TX c _ z
theorem Inv.tok(I:Inv X pins σ H s)(t:Nat):Inv X pins σ H {s with toks:=t}:=I.un (h':=s.heap) (t':=t) Un.refl I.hok
theorem Inv.kept{t':Nat}(I:Inv X pins σ H s)(k:∀b u,s.heap.get? b=some u→h'.get? b=some u):Inv X pins σ H {s with heap:=h',toks:=t'}:=I.un (Un.kept k) (I.hok.kept k)
theorem Inv.laid{a:Addr}{o:HO}{t':Nat}(I:Inv X pins σ H s)(k:∀b u,s.heap.get? b=some u→h'.get? b=some u)(hp:s.heap.objs.size≤a)(new:cC X.prog X.w (upd H a o) h' a o):
  Inv X pins σ (upd H a o) {s with heap:=h',toks:=t'}:=I.un (Un.laid k hp (I.hok.fresh hp)) (I.hok.laid k hp new)
theorem Inv.write{x e:Addr}{o:HO}{t':Nat}(I:Inv X pins σ H s)(mu:Jy (H x))(he:e=x∨H e=some (.own x))(k:∀b u,b≠e→s.heap.get? b=some u→h'.get? b=some u)(EO:∃u,h'.get? e=some u)
  (new:cC X.prog X.w (upd H x o) h' x o):Inv X pins σ (upd H x o) {s with heap:=h',toks:=t'}:=I.un (Un.write mu he k EO) (I.hok.write mu he k EO new)
theorem Inv.pU{yG:List (Addr×Obj)}(I:Inv X pins σ H s)(h:∀p∈yG,s.heap.get? p.1=some p.2∧H p.1=none∧p.1≠X.env.locals∧p.1∉X.fs∧∀v,p.2.data≠ .cell v):Inv X yG σ H s:=
 ⟨I.ok,I.os,I.bare,I.base,I.loc,I.cell,I.free,I.freeC,λp hp=>(cM.mp hp).elim (λz=>I.pin p (se _ z)) (h p),I.hok,I.len⟩
theorem wQ{N:List Str}(hN:N.Nodup){i j:Nat}{x:Str}(a:N[i]? =some x)(b:N[j]? =some x):i=j:=by
 obtain ⟨h1,e1⟩:=bV.mp a;obtain ⟨h2,e2⟩:=bV.mp b;exact (List.getElem_inj hN).mp (e1.trans e2.symm)
theorem store_ok2{M:Model}{A:Around}{E:Value→Shared→Prop}{i:Nat}{x:Str}{v:V}{u:Value}{Q:Unit→Shared→Prop}(I:Inv X pins σ H s)(hN:X.N.Nodup)(hi:X.N[i]? =some x)(hx:Loc X.env.scope x)(r:RelV v u)
  (h:∀s',Inv X pins (σ.set i (some v)) H s'→(∃a,Heap.SameBut a s.heap s'.heap∧(a=X.env.locals∨X.env.cells.lookup x=some a))→Q () s') (hf:X.fn x=true∨X.env.scope.names.lookup x=some .local:=by first|exact .inl rfl|exact .inr rfl|assumption):wpAny M A (storeName X.env x u) Q E s:=by
 obtain ⟨m,hn,hl⟩:=id I.loc;have RO:(X.env.scope.kind== .class|| (X.env.scope.kind== .module&&X.env.locals !=X.env.globals))=false:=by rw [I.ok.kind];rfl
 have Ml:i<σ.length:=by rw [I.len];exact (bV.mp hi).1
 have A9:=I.A9
 have tracked:∀{a:Addr}{h':Heap},(∃o,s.heap.get? a=some o∧H a=none)→Heap.SameBut a s.heap h'→hU X.prog X.w H h':=λ {a h'} ha hs b ob e=>by
  obtain ⟨_,_,xS⟩:=ha;refine (I.hok b ob e).rV (λc w' hc q=>(hs.2 c ?_).trans q) (λ_ q=>q) λ_ _ q=>q;rintro rfl
  rcases hc with rfl|hc
  ·rw [xS] at e;cases e
  ·rw [xS] at hc;cases hc
 rcases hx with hk|hk
 ·refine wpAny_storeName_local hk hn (λh' Ys hs=>?_) RO
  obtain ⟨oL,_,_,J8,_⟩:=id hn;refine h _ ⟨I.ok,I.os,I.bare,⟨λb o e n hb hx=>?_,λb o e n hb hx=>?_,I.base.free,λb o e hx=>?_,I.base.tups,I.base.frzs,I.base.tbls⟩,⟨_,Ys,λj y v' e1 e2 e3=>?_⟩,λy c e=>?_,I.free,I.freeC,λp hp=>?_,tracked ⟨oL,J8,I.free⟩ hs,by simpa using I.len⟩ ⟨_,hs, .inl rfl⟩
  ·exact (hs.2 b (bI (f6 (Heap.lt_size e) I.ok.above))).trans (I.base.keep b o e n hb hx)
  ·obtain ⟨sl,e1⟩:=I.base.slot b o e n hb hx
   exact ⟨sl,(hs.2 b (bI (f6 (Heap.lt_size e) I.ok.above))).trans e1⟩
  ·obtain ⟨o',e1⟩:=I.base.there b o e hx
   exact ⟨o',(hs.2 b (bI (f6 (Heap.lt_size e) I.ok.above))).trans e1⟩
  ·by_cases hj:j=i
   ·subst hj
    rw [hi] at e1;cases e1;rw [mn Ml] at e2;cases e2;exact ⟨u,r, .inl ⟨hk,by simp⟩⟩
   ·rw [sg (Ne.symm hj)] at e2
    obtain ⟨u',r',q⟩:=hl j y v' e1 e2 e3;refine ⟨u',r',?_⟩
    rcases q with ⟨k,e⟩ | ⟨k,c,e,z⟩
    ·refine .inl ⟨k,?_⟩
     have:y≠x:=λe=>hj (wQ hN e1 (e▸hi))
     simp [this,e]
    ·exact .inr ⟨k,c,e,z.sameBut hs (A9 y c e)⟩
  ·obtain ⟨w',z⟩:=I.cell y c e
   exact ⟨w',z.sameBut hs (A9 y c e)⟩
  ·obtain ⟨e,n,ne,nf,d⟩:=I.pin p hp
   exact ⟨(hs.2 p.1 ne).trans e,n,ne,nf,d⟩
 ·have N6:X.fn x=true:=by
   rcases hf with z|z
   ·exact z
   ·rw [z] at hk;cases hk
  obtain ⟨c,hc⟩:=I.ok.has x (.inl hk);obtain ⟨w',z⟩:=I.cell x c hc;refine wpAny_storeName_cell I.ok.kind hk hc z (λh' pk hs=>?_);obtain ⟨oc,Ss,Su⟩:=id z;refine h {s with heap:=h'} ⟨I.ok,I.os,I.bare,⟨λb o e n hb hx=>?_,λb o e n hb hx=>?_,I.base.free,λb o e hx=>?_,I.base.tups,I.base.frzs,I.base.tbls⟩,⟨m,hn.sameBut hs (Ne.symm (A9 x c hc)),λj y v' e1 e2 e3=>?_⟩,λy c' e=>?_,I.free,I.freeC,λp hp=>?_,tracked ⟨oc,Ss,I.freeC x c hc⟩ hs,by simpa using I.len⟩ ⟨c,hs, .inr hc⟩
  ·exact (hs.2 b (bI (f6 (Heap.lt_size e) (I.ok.cab x c N6 hc)))).trans (I.base.keep b o e n hb hx)
  ·obtain ⟨sl,e1⟩:=I.base.slot b o e n hb hx
   exact ⟨sl,(hs.2 b (bI (f6 (Heap.lt_size e) (I.ok.cab x c N6 hc)))).trans e1⟩
  ·obtain ⟨o',e1⟩:=I.base.there b o e hx
   exact ⟨o',(hs.2 b (bI (f6 (Heap.lt_size e) (I.ok.cab x c N6 hc)))).trans e1⟩
  ·by_cases hj:j=i
   ·subst hj
    rw [hi] at e1;cases e1;rw [mn Ml] at e2;cases e2;exact ⟨u,r, .inr ⟨.inl hk,c,hc,pk⟩⟩
   ·rw [sg (Ne.symm hj)] at e2
    obtain ⟨u',r',q⟩:=hl j y v' e1 e2 e3;refine ⟨u',r',?_⟩
    rcases q with q| ⟨k,c',e,z'⟩
    ·exact .inl q
    ·refine .inr ⟨k,c',e,z'.sameBut hs ?_⟩
     rintro rfl;exact hj (wQ hN e1 (I.ok.inj _ _ _ e hc▸hi))
  ·by_cases RN:c'=c
   ·subst RN;exact ⟨_,pk⟩
   ·obtain ⟨w2,z2⟩:=I.cell y c' e
    exact ⟨w2,z2.sameBut hs RN⟩
  ·obtain ⟨e,n,ne,nf,d⟩:=I.pin p hp
   refine ⟨(hs.2 p.1 ?_).trans e,n,ne,nf,d⟩;intro q;rw [q,Ss] at e;have q':oc=p.2:=Option.some.inj e;exact d w' (by rw [←q'];exact Su)
theorem jK{M:Model}{A:Around}{E:Value→Shared→Prop}{i:Nat}{x:Str}{v:V}{u:Value}{Q:Unit→Shared→Prop}(I:Inv X pins σ H s)(hN:X.N.Nodup)(hi:X.N[i]? =some x)(hx:Loc X.env.scope x)(r:RelV v u)
  (h:∀s',Inv X pins (σ.set i (some v)) H s'→Q () s') (hf:X.fn x=true∨X.env.scope.names.lookup x=some .local:=by first|exact .inl rfl|exact .inr rfl|assumption):wpAny M A (storeName X.env x u) Q E s:=
 store_ok2 I hN hi hx r (λs' I' _=>h s' I') hf
theorem Inv.M5{s':Shared}{ch:List Addr}(I:Inv X pins σ H s)(ho:s'.os=s.os)(u:Un (tW X.stack) ch H H' s.heap s'.heap)(hok:hU X.prog X.w H' s'.heap)(hg:AllBare s'.gens)
  (vD:∀b∈ch,(b∈X.ex∨X.s₀.heap.objs.size≤b)∧b≠X.env.locals∧(∀x c,X.env.cells.lookup x=some c→c≠b)∧∀p∈X.pn++pins,p.1≠b):Inv X pins σ H' s':=by
 obtain ⟨h',g',d',t',o'⟩:=s';have e:o'=s.os:=ho;subst e;exact I.call (g':=g') (t':=t') (d':=d') u hok hg vD
end
abbrev XK:=Value→Option Addr→Hp→Prop
abbrev St:=List (Option V)
abbrev VK:=V→Hp→Prop
abbrev TE:=St→Hp→VK→Prop
abbrev TT:=St→Hp→(Bool→Hp→Prop)→Prop
abbrev TA:=St→Hp→(List V→Hp→Prop)→Prop
structure Ends where
 nx:St→Hp→Prop
 rt:VK
 bk:St→Hp→Prop:=λ_ _=>False
 ct:St→Hp→Prop:=λ_ _=>False
abbrev TS:=Ends→St→Hp→Prop
def EP(X:Cx)(pins:List (Addr×Obj))(σ:St)(Q:VK)(u:Value)(s':Shared):Prop:=∃v H',Inv X pins σ H' s'∧RelV v u∧Q v H'
def TP(X:Cx)(pins:List (Addr×Obj))(σ:St)(Q:Bool→Hp→Prop)(b:Bool)(s':Shared):Prop:=∃H',Inv X pins σ H' s'∧Q b H'
def AP(X:Cx)(pins:List (Addr×Obj))(σ:St)(Q:List V→Hp→Prop)(us:List Value)(s':Shared):Prop:=∃vs H',Inv X pins σ H' s'∧Vals vs us∧Q vs H'
def SP(X:Cx)(pins:List (Addr×Obj))(D:Ends)(f:Flow)(s':Shared):Prop:=
 match f with
 | .next=>∃ay H',Inv X pins ay H' s'∧D.nx ay H'
 | .brk=>∃ay H',Inv X pins ay H' s'∧D.bk ay H'
 | .cont=>∃ay H',Inv X pins ay H' s'∧D.ct ay H'
 | .ret u=>∃v ay H',Inv X pins ay H' s'∧RelV v u∧D.rt v H'
def PE(X:Cx)(e:Expr)(t:TE):Prop:=
 ∀(pins:List (Addr×Obj))(s:Shared)(σ:St)(H:Hp)(Q:VK),Inv X pins σ H s→t σ H Q→wpAny (model X.prog X.w) X.A (eval e X.env) (EP X pins σ Q) X.xe s
def PT(X:Cx)(e:Expr)(t:TT):Prop:=
 ∀(pins:List (Addr×Obj))(s:Shared)(σ:St)(H:Hp)(Q:Bool→Hp→Prop),Inv X pins σ H s→t σ H Q→wpAny (model X.prog X.w) X.A (isTrue e X.env (eval e X.env)) (TP X pins σ Q) X.xe s
def PW(X:Cx)(e:Expr)(t:TT):Prop:=
 ∀(whole:Sem Value)(pins:List (Addr×Obj))(s:Shared)(σ:St)(H:Hp)(Q:Bool→Hp→Prop),Inv X pins σ H s→t σ H Q→wpAny (model X.prog X.w) X.A (isTrue e X.env whole) (TP X pins σ Q) X.xe s
theorem PW.pt{X:Cx}{e:Expr}{t:TT}(h:PW X e t):PT X e t:=h _
def PA(X:Cx)(es:List Expr)(t:TA):Prop:=
 ∀(pos:Pos)(pins:List (Addr×Obj))(s:Shared)(σ:St)(H:Hp)(Q:List V→Hp→Prop),Inv X pins σ H s→t σ H Q→wpAny (model X.prog X.w) X.A (spliced (backTo pos (starEach es X.env))) (AP X pins σ Q) X.xe s
def PS(X:Cx)(st:Stmt)(t:TS):Prop:=
 ∀(pins:List (Addr×Obj))(s:Shared)(σ:St)(H:Hp)(D:Ends),Inv X pins σ H s→t D σ H→wpAny (model X.prog X.w) X.A (exec st X.env) (SP X pins D) X.xe s
def kK(X:Cx)(st:List Stmt)(t:TS):Prop:=
 ∀(pins:List (Addr×Obj))(s:Shared)(σ:St)(H:Hp)(D:Ends),Inv X pins σ H s→t D σ H→wpAny (model X.prog X.w) X.A (execs st X.env) (SP X pins D) X.xe s
theorem thn{α:Type}{t:Sem α}{Q Q':α→Shared→Prop}{M:Model}{A:Around}{E:Value→Shared→Prop}{s:Shared}(h:wpAny M A t Q E s)(hQ:∀a s,Q a s→Q' a s):wpAny M A t Q' E s:=wpAny_mono h hQ λ_ _ x=>x
section
variable {X:Cx}
def rW(i:Nat):TE:=λσ H Q=>∃v,σ[i]? =some (some v)∧Q v H
def tC(v:V):TE:=λ_ H Q=>Q v H
theorem DH{i:Nat}{x:Str}{pos:Pos}(hN:X.N[i]? =some x)(hv:qs X.env.scope x)(hd:(x==("__debug__":Str))=false:=by decide)(fj:(x==("__classdict__":Str))=false:=by decide):PE X (.Name x pos) (rW i):=by
 intro pins s σ H Q I h;obtain ⟨v,e,h⟩:=h;obtain ⟨m,hn,hl⟩:=I.loc;obtain ⟨u,r,l⟩:=hl i x v hN e hv;have fin:EP X pins σ Q u s:=⟨v,H,I,r,h⟩
 rcases l with ⟨hk,hm⟩ | ⟨hk,c,hc,Ha⟩
 ·exact wpAny_Name (wpAny_loadName_local I.ok.kind hk hn hm fin) hd
 ·rcases hk with hk|hk
  ·exact wpAny_Name (wpAny_loadName_cell I.ok.kind hk hc Ha fin) hd
  ·exact wpAny_Name (wpAny_loadName_free I.ok.kind hk hc Ha fin fj) hd
theorem aJ{i j pos}:PE X (.Constant (.int i) j pos) (tC (.int i)):=λ_ _ _ H _ I h=>wpAny_Constant_int ⟨.int i,H,I.tok _,⟨_,rfl⟩,h⟩
theorem O5{b j pos}:PE X (.Constant (.bool b) j pos) (tC (.bl b)):=λ_ _ _ H _ I h=>Constant_bool ⟨.bl b,H,I,rfl,h⟩
theorem K0{j pos}:PE X (.Constant .none j pos) (tC .aI):=λ_ _ _ H _ I h=>Constant_none ⟨.aI,H,I,rfl,h⟩
theorem K3{x j pos}:PE X (.Constant (.str x) j pos) (tC (.str x)):=λ_ _ _ H _ I h=>Calls.Constant_str ⟨.str x,H,I.tok _,⟨_,rfl⟩,h⟩
def Gl(X:Cx)(x:Str):Prop:=X.env.kindOf x=some .globalImplicit
theorem uh{E:Value→Shared→Prop}{pins:List (Addr×Obj)}{s:Shared}{σ:St}{H:Hp}{x:Str}{u:Value}{pos:Pos}{Q:Value→Shared→Prop}(I:Inv X pins σ H s)(hg:Gl X x)(hm:X.mg x=some u)(h:Q u s)
  (hd:(x==("__debug__":Str))=false:=by decide):wpAny (model X.prog X.w) X.A (eval (.Name x pos) X.env) Q E s:=
 Calls.Name_function_global I.ok.kind hg (Calls.loadGlobal_global (by rw [I.ok.glob];exact I.mod.glob.keeps I.bk) hm h) hd
theorem j0{E:Value→Shared→Prop}{pins:List (Addr×Obj)}{s:Shared}{σ:St}{H:Hp}{x:Str}{u:Value}{pos:Pos}{Q:Value→Shared→Prop}(I:Inv X pins σ H s)(hg:Gl X x)(hm:X.mg x=none)(hv:bootBuiltins x=some u)(h:Q u s)
  (hn:x≠"__name__":=by decide) (hd:(x==("__debug__":Str))=false:=by decide):wpAny (model X.prog X.w) X.A (eval (.Name x pos) X.env) Q E s:=by
 obtain ⟨mb,h1,h2⟩:=I.mod.blt;exact Calls.Name_function_global I.ok.kind hg (Calls.loadGlobal_builtin (by rw [I.ok.glob];exact I.mod.glob.keeps I.bk) hm (by rw [I.ok.blt];exact h1.keeps I.bk) ((h2 x hn).trans hv) h) hd
theorem Iv{x:Str}{v:V}{u:Value}{pos:Pos}(hg:Gl X x)(hm:X.mg x=some u)(r:RelV v u)(hd:(x==("__debug__":Str))=false:=by decide):PE X (.Name x pos) (tC v):=
 λ_ _ _ H _ I h=>uh I hg hm ⟨v,H,I,r,h⟩ hd
theorem Ir{x:Str}{v:V}{u:Value}{pos:Pos}(hg:Gl X x)(hm:X.mg x=none)(hv:bootBuiltins x=some u)(r:RelV v u)(hn:x≠"__name__":=by decide)(hd:(x==("__debug__":Str))=false:=by decide):PE X (.Name x pos) (tC v):=
 λ_ _ _ H _ I h=>j0 I hg hm hv ⟨v,H,I,r,h⟩ hn hd
variable {a b:Expr} {ta tb:TE} {pos:Pos}
def tB(t:TE):TT:=λσ H Q=>t σ H λx H1=>∃c,x= .bl c∧Q c H1
theorem K8{e:Expr}{t:TE}(h:PE X e t)(he:∀whole,isTrue e X.env whole=(do let v ←whole;standAt e.pos;holding [v] (truthy v)):=by intro _;rfl):PT X e (tB t):=by
 intro pins s σ H Q I hw;refine isTrue_plain (thn (h pins s σ H _ I hw) λv s1 ⟨x,H1,I1,r1,q1⟩=>?_) (he _);obtain ⟨d,rfl,q⟩:=q1;cases r1;exact wpAny_truthy_bool ⟨H1,I1,q⟩
variable {tA CC:TT} {rest:List Expr}
def VA(t u:TT):TT:=λσ H Q=>t σ H λc H1=>if c=true then u σ H1 Q else Q false H1
def tOr(t u:TT):TT:=λσ H Q=>t σ H λc H1=>if c=true then Q true H1 else u σ H1 Q
def VI(t:TT):TT:=λσ H Q=>t σ H λc H1=>Q (!c) H1
theorem Af(ha:PT X a tA):PW X (.BoolOp .And [a] pos) tA:=by
 intro wh pins s σ H Q I h;refine isTrue_and (thn (ha pins s σ H Q I h) λc s1 e=>?_);cases c with
 |true=>exact isTrue_and_nil e
 |false=>exact e
theorem K9(ha:PT X a tA):PW X (.BoolOp .Or [a] pos) tA:=by
 intro wh pins s σ H Q I h;refine isTrue_or (thn (ha pins s σ H Q I h) λc s1 e=>?_);cases c with
 |false=>exact isTrue_or_nil e
 |true=>exact e
theorem DL(ha:PT X a tA)(hb:PW X (.BoolOp .And (b::rest) pos) CC):PW X (.BoolOp .And (a::b::rest) pos) (VA tA CC):=by
 intro wh pins s σ H Q I h;refine isTrue_and (thn (ha pins s σ H _ I h) λc s1 ⟨H1,I1,q1⟩=>?_);cases c with
 |true=>exact hb wh pins s1 σ H1 Q I1 q1
 |false=>exact ⟨H1,I1,q1⟩
theorem O7(ha:PT X a tA)(hb:PW X (.BoolOp .Or (b::rest) pos) CC):PW X (.BoolOp .Or (a::b::rest) pos) (tOr tA CC):=by
 intro wh pins s σ H Q I h;refine isTrue_or (thn (ha pins s σ H _ I h) λc s1 ⟨H1,I1,q1⟩=>?_);cases c with
 |true=>exact ⟨H1,I1,q1⟩
 |false=>exact hb wh pins s1 σ H1 Q I1 q1
theorem DJ(ha:PT X a tA):PT X (.UnaryOp .Not a pos) (VI tA):=by
 intro pins s σ H Q I h;exact isTrue_not (ha pins s σ H (λc H1=>Q (!c) H1) I h)
def Ph(ta tb:TE):TE:=λσ H Q=>ta σ H λx H1=>∃c,x= .bl c∧if c=true then tb σ H1 Q else Q (.bl false) H1
def Po(ta:TE):TE:=λσ H Q=>ta σ H λx H1=>∃c,x= .bl c∧Q (.bl (!c)) H1
theorem K2{op}{t:TE}(h:PE X a t):PE X (.BoolOp op [a] pos) t:=λpins s σ H Q I hw=>BoolOp_one (h pins s σ H Q I hw)
theorem KU(ha:PE X a ta)(hb:PE X (.BoolOp .And (b::rest) pos) tb):PE X (.BoolOp .And (a::b::rest) pos) (Ph ta tb):=by
 intro pins s σ H Q I h;refine BoolOp_and (thn (ha pins s σ H _ I h) λv s1 ⟨x,H1,I1,r1,q1⟩=>?_);obtain ⟨c,rfl,q1⟩:=q1;cases r1;refine wpAny_truthy_bool ?_;cases c with
 |true=>exact hb pins s1 σ H1 Q I1 q1
 |false=>exact ⟨.bl false,H1,I1,rfl,q1⟩
theorem K1(ha:PE X a ta):PE X (.UnaryOp .Not a pos) (Po ta):=by
 intro pins s σ H Q I h;refine UnaryOp_ (thn (ha pins s σ H _ I h) λv s1 ⟨x,H1,I1,r1,q1⟩=>?_);obtain ⟨c,rfl,q1⟩:=q1;cases r1;exact not_of (wpAny_truthy_bool ⟨.bl (!c),H1,I1,rfl,q1⟩)
end
def aD(K:PySem.W.Frag)(H:Hp)(a:Addr)(xs:List V):Prop:=
 Rd H a (.lst xs)∨
  ∃(o:Obj)(its:Array Value)(n:Nat),K.lookup a=some o∧o.cls= .type "list"∧o.dict=none∧o.data= .seq its n∧its.size≤sizeLine∧Vals xs its.toList
def cZ(K:PySem.W.Frag)(H:Hp)(a:Addr)(xs:List V):Prop:=
 Rd H a (.tup xs)∨
  ∃(o:Obj)(its:Array Value)(n:Nat),K.lookup a=some o∧o.cls= .type "tuple"∧o.data= .seq its n∧its.size≤sizeLine∧Vals xs its.toList
def PV:Value→Option V
 | .none=>some .aI
 | .bool b=>some (.bl b)
 | .int i _=>some (.int i)
 | .str x _=>some (.str x)
 | .bytes b _=>some (.sj b)
 | .float b _=>some (.Bm b)
 | .ref a=>some (.ref a)
 | .type n=>some (.ty n)
 |_=>none
theorem RelV.abs{x:V}{u:Value}(r:RelV x u):PV u=some x:=by
 cases x with
 |aI=>cases r;rfl
 |bl _=>cases r;rfl
 |int _=>obtain ⟨t,rfl⟩:=r;rfl
 |str _=>obtain ⟨t,rfl⟩:=r;rfl
 |sj _=>obtain ⟨t,rfl⟩:=r;rfl
 |Bm _=>obtain ⟨t,rfl⟩:=r;rfl
 |ref _=>cases r;rfl
 |ty _=>cases r;rfl
theorem RelV.inj{x y:V}{u:Value}(r:RelV x u)(q:RelV y u):x=y:=Option.some.inj (r.abs.symm.trans q.abs)
theorem Vals.inj:∀{xs ys:List V}{us:List Value},Vals xs us→Vals ys us→xs=ys
 |_,_,_, .nil, .nil=>rfl
 |_,_,_, .cons r t, .cons r' t'=>by rw [r.inj r',Vals.inj t t']
section
variable {X:Cx} {pins:List (Addr×Obj)} {σ:St} {H:Hp} {s:Shared} {a:Addr} {xs ys:List V}
theorem aD.of{K:PySem.W.Frag}(h:H a=some (.lst xs)):aD K H a xs:= .inl (.inl h)
theorem cZ.of{K:PySem.W.Frag}(h:H a=some (.tup xs)):cZ K H a xs:= .inl (.inl h)
theorem Inv.list(I:Inv X pins σ H s)(h:aD X.K H a xs):∃its:List Value,Vals xs its∧PlainL s.heap a its.toArray∧xs.length≤sizeLine:=by
 rcases h with h| ⟨o,its,n,hk,hc,hd,hs,hz,r⟩
 ·obtain ⟨z,its,n,r,e⟩:=h.ok I.hok
  exact ⟨its,r,⟨_,n,e,rfl,rfl,rfl⟩,z⟩
 ·refine ⟨its.toList,r,⟨o,n,I.gQ a o hk,hc,hd,by simpa using hs⟩,?_⟩
  have e:=r.length;simp only [bW] at e;omega
theorem Inv.tuple(I:Inv X pins σ H s)(h:cZ X.K H a xs):∃its:List Value,Vals xs its∧IsTup s.heap a its.toArray∧xs.length≤sizeLine:=by
 rcases h with h| ⟨o,its,n,hk,hc,hs,hz,r⟩
 ·obtain ⟨z,its,r,p⟩:=h.ok I.hok
  exact ⟨its,r,p,z⟩
 ·refine ⟨its.toList,r,⟨o,I.gQ a o hk,hc,n,by simpa using hs⟩,?_⟩
  have e:=r.length;simp only [bW] at e;omega
theorem Inv.wN(I:Inv X pins σ H s)(h:aD X.K H a xs)(h':aD X.K H a ys):xs=ys:=by
 obtain ⟨its,r,⟨o,n,e,_,_,d⟩,_⟩:=I.list h;obtain ⟨its',r',⟨o',n',e',_,_,d'⟩,_⟩:=I.list h';rw [e] at e';cases e';rw [d] at d'
 injection d' with d1 _
 have:its=its':=by simpa using congrArg Array.toList d1
 subst this;exact r.inj r'
end
abbrev Cx.nB(X:Cx)(E:Value→Shared→Prop):Cx:={X with xe:=E}
abbrev Cx.iV(X:Cx):Cx:=X.nB λ_ _=>False
theorem Cx.Ok.nB{X:Cx}(ok:X.Ok)(E:Value→Shared→Prop):(X.nB E).Ok:=
 ⟨ok.mod,ok.kind,ok.glob,ok.blt,ok.above,ok.inj,ok.has,ok.cab,ok.hd,ok.frames,ok.stk,ok.exf,ok.bs,ok.bsz,ok.noex,ok.exfs,ok.funs,ok.frf⟩
theorem Cx.Ok.jc{X:Cx}{E:Value→Shared→Prop}(ok:(X.nB E).Ok):X.Ok:=
 ⟨ok.mod,ok.kind,ok.glob,ok.blt,ok.above,ok.inj,ok.has,ok.cab,ok.hd,ok.frames,ok.stk,ok.exf,ok.bs,ok.bsz,ok.noex,ok.exfs,ok.funs,ok.frf⟩
section
variable {X:Cx} {pins:List (Addr×Obj)} {σ:St} {H:Hp} {s:Shared} {E:Value→Shared→Prop}
theorem Inv.nB(I:Inv X pins σ H s)(E:Value→Shared→Prop):Inv (X.nB E) pins σ H s:=⟨I.ok.nB E,I.os,I.bare,I.base,I.loc,I.cell,I.free,I.freeC,I.pin,I.hok,I.len⟩
theorem Inv.jc(I:Inv (X.nB E) pins σ H s):Inv X pins σ H s:=⟨I.ok.jc,I.os,I.bare,I.base,I.loc,I.cell,I.free,I.freeC,I.pin,I.hok,I.len⟩
theorem SP.jc{D:Ends}{f:Flow}{s':Shared}(h:SP (X.nB E) pins D f s'):SP X pins D f s':=by
 cases f with
 |next=>obtain ⟨ay,H',I,q⟩:=h;exact ⟨ay,H',I.jc,q⟩
 |brk=>obtain ⟨ay,H',I,q⟩:=h;exact ⟨ay,H',I.jc,q⟩
 |cont=>obtain ⟨ay,H',I,q⟩:=h;exact ⟨ay,H',I.jc,q⟩
 |ret u=>obtain ⟨v,ay,H',I,r,q⟩:=h;exact ⟨v,ay,H',I.jc,r,q⟩
theorem kK.iV{st:List Stmt}{t:TS}(h:kK X.iV st t):kK X st t:=λpins s σ H D I hw=>
 wpAny_mono (h pins s σ H D (I.nB _) hw) (λ_ _ q=>q.jc) λ_ _ z=>False.elim z
end
section
variable {X:Cx} {st:Stmt} {rest:List Stmt} {t u:TS} {e:Expr} {te:TE} {pos:Pos}
def Pn:TS:=λD σ H=>D.nx σ H
def Jm(t u:TS):TS:=λD σ H=>t {D with nx:=u D} σ H
theorem lH:kK X [] Pn:=λ_ _ σ H _ I h=>wpAny_execs_nil ⟨σ,H,I,h⟩
theorem aC(h1:PS X st t)(h2:kK X rest u):kK X (st::rest) (Jm t u):=by
 intro pins s σ H D I h;refine wpAny_execs_cons (thn (h1 pins s σ H {D with nx:=u D} I h) λf s1 q=>?_)
 cases f with
 |next=>
  obtain ⟨ay,H',I',q⟩:=q;exact h2 pins s1 ay H' D I' q
 |ret v=>exact q
 |brk=>exact q
 |cont=>exact q
theorem bb(h1:PS X st t):kK X [st] t:=by
 intro pins s σ H D I h;refine wpAny_execs_cons (thn (h1 pins s σ H D I h) λf s1 q=>?_);cases f with
 |next=>exact wpAny_execs_nil q
 |ret v=>exact q
 |brk=>exact q
 |cont=>exact q
theorem Inv.quiet{pins:List (Addr×Obj)}{σ:St}{H:Hp}{s:Shared}(I:Inv X pins σ H s):interactive X.env=false:=by simp [interactive,I.ok.kind]
def Pl(te:TE):TS:=λD σ H=>te σ H λ_ H1=>D.nx σ H1
theorem cL(he:PE X e te)(hs:swapsWith e none pos.line X.env=pure false:=by rfl):PS X (.Expr e pos) (Pl te):=by
 intro pins s σ H D I h;exact wpAny_Expr_any (thn (he pins s σ H _ I h) λv s1 ⟨x,H1,I1,r1,q1⟩=>⟨σ,H1,I1,q1⟩) I.quiet hs
def MU(te:TE):TS:=λD σ H=>te σ H D.rt
theorem eV(he:PE X e te):PS X (.Return (some e) pos) (MU te):=by
 intro pins s σ H D I h;exact wpAny_Return_some (thn (he pins s σ H _ I h) λv s1 ⟨x,H1,I1,r1,q1⟩=>⟨x,σ,H1,I1,r1,q1⟩)
def VG(c:TT)(t u:TS):TS:=λD σ H=>c σ H λb H1=>if b=true then t D σ H1 else u D σ H1
theorem uE{c:Expr}{a b:List Stmt}{tc:TT}(hc:PT X c tc)(ha:kK X a t)(hb:kK X b u):PS X (.If c a b pos) (VG tc t u):=by
 intro pins s σ H D I h;refine wpAny_If (thn (hc pins s σ H _ I h) λd s1 ⟨H1,I1,q1⟩=>?_);cases d with
 |true=>exact ha pins s1 σ H1 D I1 q1
 |false=>exact hb pins s1 σ H1 D I1 q1
def LA:TS:=λ_ _ _=>False
theorem Fo:PS X st LA:=λ_ _ _ _ _ _ h=>h.elim
end
abbrev TG:=V→St→Hp→(St→Hp→Prop)→Prop
abbrev vy:=List V→St→Hp→(St→Hp→Prop)→Prop
def PG(X:Cx)(target:Expr)(t:TG):Prop:=
 ∀(pins:List (Addr×Obj))(s:Shared)(σ:St)(H:Hp)(v:V)(u:Value)(Q:St→Hp→Prop),Inv X pins σ H s→RelV v u→t v σ H Q→
  wpAny (model X.prog X.w) X.A (assign target X.env u) (λ_ s'=>∃ay H',Inv X pins ay H' s'∧Q ay H') X.xe s
def xC(X:Cx)(ts:List Expr)(t:vy):Prop:=
 ∀(pins:List (Addr×Obj))(s:Shared)(σ:St)(H:Hp)(vs:List V)(us:List Value)(Q:St→Hp→Prop),Inv X pins σ H s→Vals vs us→t vs σ H Q→
  wpAny (model X.prog X.w) X.A (assignInOrder ((assignEach ts X.env).map (·.2)) us) (λ_ s'=>∃ay H',Inv X pins ay H' s'∧Q ay H') X.xe s
abbrev FO:=V→V→V→Hp→(Hp→Prop)→Prop
def LM(X:Cx)(t:FO):Prop:=
 ∀(pins:List (Addr×Obj))(s:Shared)(σ:St)(H:Hp)(o i v:V)(ov iv u:Value)(Q:Hp→Prop),Inv X pins σ H s→RelV o ov→RelV i iv→RelV v u→t o i v H Q→
  wpAny (model X.prog X.w) X.A (setItem ov iv u) (λ_ s'=>∃H',Inv X pins σ H' s'∧Q H') X.xe s
section
variable {X:Cx} {pos:Pos}
def tX(i:Nat):TG:=λv σ H Q=>Q (σ.set i (some v)) H
theorem bG{i:Nat}{x:Str}(hN:X.N.Nodup)(hi:X.N[i]? =some x)(hx:Loc X.env.scope x)(hf:X.fn x=true∨X.env.scope.names.lookup x=some .local:=by first|exact .inl rfl|exact .inr rfl|assumption):PG X (.Name x pos) (tX i):=by
 intro pins s σ H v u Q I r h;exact wpAny_assign_Name (jK I hN hi hx r (λs' I'=>⟨_,H,I',h⟩) hf)
def Rv:vy:=λvs σ H Q=>vs= []∧Q σ H
def NP(t:TG)(u:vy):vy:=λvs σ H Q=>∃v r,vs=v::r∧t v σ H λay H'=>u r ay H' Q
theorem jF:xC X [] Rv:=by
 intro pins s σ H vs us Q I r h;obtain ⟨e,h⟩:=h;subst e;cases r;exact assignInOrder_nil ⟨σ,H,I,h⟩
theorem dO{e:Expr}{es:List Expr}{t:TG}{u:vy}(h1:PG X e t)(h2:xC X es u)
  (hs:(assignEach (e::es) X.env).map (·.2)=assign e X.env::(assignEach es X.env).map (·.2):=by rfl):xC X (e::es) (NP t u):=by
 intro pins s σ H vs us Q I r h;obtain ⟨v,vr,e1,h⟩:=h;subst e1;cases r with
 |cons r rr=>
  rw [hs];refine assignInOrder_cons (thn (h1 pins s σ H _ _ _ I r h) λ_ s1 ⟨CW,H1,I1,q1⟩=>?_);exact h2 pins s1 CW H1 _ _ Q I1 rr q1
def Rw(K:PySem.W.Frag)(n:Nat)(t:vy):TG:=λv σ H Q=>∃a xs,v= .ref a∧cZ K H a xs∧xs.length=n∧t xs σ H Q
theorem mP{es:List Expr}{k:Nat}{t:vy}{n:Nat}(hc:X.calm=true)(h:xC X es t)
  (hn:(assignEach es X.env).length=n:=by rfl) (yd:(assignEach es X.env).findIdx? (·.1)=none:=by rfl):PG X (.Tuple es k pos) (Rw X.K n t):=by
 intro pins s σ H v u Q I r hw;obtain ⟨a,xs,e1,hq,hl,hw⟩:=hw;subst e1;cases r;obtain ⟨its,rv,ht,hz⟩:=I.tuple hq;refine assign_Tuple_tuple (I.ok.hd hc) ht (by simp [hn,←hl,rv.length]) yd λh' hx=>?_
 have I1:Inv X pins σ H {s with heap:=h'}:=I.kept (t':=s.toks) λb o e=>hx b o (bI (Heap.lt_size e)) e
 exact h pins _ σ H xs _ Q I1 (by simpa using rv) hw
def Mh(to ti:TE)(t:FO):TG:=λv σ H Q=>to σ H λo H1=>ti σ H1 λi H2=>t o i v H2 λH3=>Q σ H3
theorem yF{o i:Expr}{to ti:TE}{t:FO}(ho:PE X o to)(hi:PE X i ti)(hs:LM X t)
  (ha:∀v,assign (.Subscript o i pos) X.env v=(do
   let ov ←holding [v] (eval o X.env)
   let iv ←holding [v,ov] (eval i X.env)
   standAt pos
   holding [v,ov,iv] (setItem ov iv v)
   release [v,ov,iv] []):=by intro _;rfl):PG X (.Subscript o i pos) (Mh to ti t):=by
 intro pins s σ H v u Q I r h;rw [ha];refine wpAny_bind (wpAny_holding (thn (ho pins s σ H _ I h) λov s1 ⟨x,H1,I1,r1,q1⟩=>?_));refine wpAny_bind (wpAny_holding (thn (hi pins s1 σ H1 _ I1 q1) λiv s2 ⟨y,H2,I2,r2,q2⟩=>?_));refine wpAny_bind (wpAny_standAt (wpAny_bind (wpAny_holding (thn (hs pins s2 σ H2 x y v ov iv u _ I2 r1 r2 r q2) λ_ s3 ⟨H3,I3,q3⟩=>?_))));exact wpAny_release ⟨σ,H3,I3,q3⟩
def D3(te:TE)(g:TG):TS:=λD σ H=>te σ H λx H1=>g x σ H1 D.nx
theorem mQ{tg e:Expr}{te:TE}{g:TG}(he:PE X e te)(hg:PG X tg g)(hs:swapsWithSole [tg] e pos.line X.env=pure false:=by rfl)(hw:swappedStores [tg] e X.env=pure none:=by rfl)
  (h1:(assignEach [tg] X.env).map (·.2)= [assign tg X.env]:=by rfl):PS X (.Assign [tg] e pos) (D3 te g):=by
 intro pins s σ H D I h;refine wpAny_Assign_stores (thn (he pins s σ H _ I h) λv s1 ⟨x,H1,I1,r1,q1⟩=>?_) hs hw;rw [h1];exact thn (hg pins s1 σ H1 x v _ I1 r1 q1) λ_ s2 q=>q
theorem bA{i:Nat}{x:Str}{e:Expr}{te:TE}{pos':Pos}(hN:X.N.Nodup)(hi:X.N[i]? =some x)(hx:Loc X.env.scope x)(he:PE X e te)(hs:swapsWith e (some (.Name x pos')) pos.line X.env=pure false:=by rfl)(hf:X.fn x=true∨X.env.scope.names.lookup x=some .local:=by first|exact .inl rfl|exact .inr rfl|assumption):
  PS X (.Assign [.Name x pos'] e pos) (D3 te (tX i)):=by
 intro pins s σ H D I h;refine wpAny_Assign_Name (thn (he pins s σ H _ I h) λv s1 ⟨y,H1,I1,r1,q1⟩=>?_) hs;exact jK I1 hN hi hx r1 (λs2 I2=>⟨_,H1,I2,q1⟩) hf
def VL(i j:Nat)(ta:TA):TS:=λD σ H=>ta σ H λvs H1=>∃v w,vs= [v,w]∧D.nx ((σ.set i (some v)).set j (some w)) H1
theorem K7{i j:Nat}{x y:Str}{a b:Expr}{ta:TA}{px py pt:Pos}{kt k2 Cj}(hc:X.calm=true)(hN:X.N.Nodup)(hi:X.N[i]? =some x)(hj:X.N[j]? =some y)(cR:i≠j)
  (hx:X.env.scope.names.lookup x=some .local) (hy:X.env.scope.names.lookup y=some .local) (ha:PA X [a,b] ta)
  (hw:swappedStores [.Tuple [.Name x px, .Name y py] kt pt] (.Tuple [a,b] k2 Cj) X.env=pure (some [x,y]))
  (hs:swapsWithSole [.Tuple [.Name x px, .Name y py] kt pt] (.Tuple [a,b] k2 Cj) pos.line X.env=pure false:=by rfl):
  PS X (.Assign [.Tuple [.Name x px, .Name y py] kt pt] (.Tuple [a,b] k2 Cj) pos) (VL i j ta):=by
 intro pins s σ H D I h;rw [exec_Assign_arm];refine wpAny_bind (wpAny_standAt ?_);rw [hs];refine wpAny_bind (wpAny_pure ?_);rw [if_neg (by decide)]
 refine wpAny_bind (Tuple_ (thn (ha _ pins s σ H _ I h) λus s1 ⟨vs,H1,I1,r1,q1⟩=>?_));obtain ⟨v,w,e1,q1⟩:=q1;subst e1
 obtain ⟨u1,u2,rfl,rv,oI⟩:∃u1 u2,us= [u1,u2]∧RelV v u1∧RelV w u2:=by
  cases r1 with
  |cons p q=>
   cases q with
   |cons p' q'=>
    cases q';exact ⟨_,_,rfl,p,p'⟩
 refine wpAny_newObj_type ?_ (by show 2≤sizeLine;decide)
 have I2:Inv X pins σ H1 {s1 with heap:=s1.heap.push {cls:= .type "tuple",data:= .seq [u1,u2].toArray}}:=I1.kept (t':=s1.toks) λb o e=>Heap.get?_push_of_some _ e
 rw [hw];refine wpAny_bind (wpAny_pure ?_);show wpAny (model X.prog X.w) X.A (do rule "assign.swapped-stores";let items ←unpackItems (.ref s1.heap.objs.size) 2 none;assignInOrder [λv=>bindName X.env y v,λv=>bindName X.env x v] items.reverse;pure Flow.next) _ _ _
 refine wpAny_bind (wpAny_rule (wpAny_bind (unpackItems_tuple (items:= #[u1,u2]) (I.ok.hd hc) (IsTup.new s1.heap _) λh' vK=>?_)));have I3:=I2.kept (h':=h') (t':=s1.toks) λb o e=>vK b o (bI (Heap.lt_size e)) e;show wpAny _ _ (assignInOrder [λv=>bindName X.env y v,λv=>bindName X.env x v] [u2,u1]>>=λ_=>pure Flow.next) _ _ _;refine wpAny_bind (assignInOrder_cons (wpAny_bindName (jK I3 hN hj (.inl hy) oI (λs2 I4=>?_) (.inr hy))));refine assignInOrder_cons (wpAny_bindName (jK I4 hN hi (.inl hx) rv (λs3 I5=>assignInOrder_nil (wpAny_pure ?_)) (.inr hx)));rw [List.set_comm _ _ (Ne.symm cR)] at I5;exact ⟨_,H1,I5,q1⟩
end
section
variable {X:Cx} {pos:Pos}
def D4(c:TT)(tb:TS):TS:=λD σ H=>∃W:Nat→St→Hp→Prop,(∃m,W m σ H)∧∀m σ H,W m σ H→
 c σ H λb H1=>if b=true then ∃N:St→Hp→Prop,(∀ay H',N ay H'→∃m',m'<m∧W m' ay H')∧tb {D with nx:=N,ct:=N,bk:=D.nx} σ H1 else D.nx σ H1
theorem wW{c:Expr}{body:List Stmt}{tc:TT}{tb:TS}(hp:PassesOwn (model X.prog X.w) X.A X.env X.xe)(hc:PT X c tc)(hb:kK X body tb):PS X (.While c body [] pos) (D4 tc tb):=by
 intro pins s σ H D I h;obtain ⟨W,⟨m0,w0⟩,turn⟩:=h;refine wpAny_While (codeAny_whileLoop (λn s'=>∃ay H',Inv X pins ay H' s'∧W n ay H') ?_ m0 ⟨σ,H,I,w0⟩);rintro n s1 ⟨CW,H1,I1,w1⟩;refine wpAny_passesOwn hp (thn (hc pins s1 CW H1 _ I1 (turn n CW H1 w1)) λb s2 ⟨H2,I2,q2⟩=>?_);cases b with
 |true=>
  obtain ⟨N,hN,q2⟩:=q2;rw [if_pos rfl];refine wpAny_passesOwn hp (thn (hb pins s2 CW H2 _ I2 q2) λf s3 q3=>?_);cases f with
  |next=>
   obtain ⟨sN,H3,I3,n3⟩:=q3;obtain ⟨m',hm,w3⟩:=hN sN H3 n3;exact ⟨m',hm,sN,H3,I3,w3⟩
  |cont=>
   obtain ⟨sN,H3,I3,n3⟩:=q3;obtain ⟨m',hm,w3⟩:=hN sN H3 n3;exact ⟨m',hm,sN,H3,I3,w3⟩
  |brk=>exact q3
  |ret v=>exact q3
 |false=>
  rw [if_neg cB];exact wpAny_execs_nil ⟨CW,H2,I2,q2⟩
end
structure It where
 go:Nat→Hp→Prop
 yld:Nat→Hp→V→Hp→Prop
 stop:Nat→Hp→Prop
def fz(X:Cx)(pins:List (Addr×Obj))(H:Hp)(b:Addr):Prop:=
 H b=none∧b≠X.env.locals∧b∉X.fs∧(b∈X.ex∨X.s₀.heap.objs.size≤b)∧(∀x c,X.env.cells.lookup x=some c→c≠b)∧∀p∈X.pn++pins,p.1≠b
theorem Inv.GL{X:Cx}{pins:List (Addr×Obj)}{σ:St}{H H':Hp}{s:Shared}{b:Addr}(I:Inv X pins σ H s)(hb:s.heap.objs.size≤b)(hn:H' b=none):fz X pins H' b:=by
 refine ⟨hn,Nat.ne_of_gt (f6 I.lt hb),I.MD hb, .inr (jP I.sz hb),λx c e z=>?_,λp hp z=>?_⟩
 ·obtain ⟨v,q⟩:=I.cell x c e
  exact absurd (f6 q.lt (by rw [z];exact hb)) (nJ _)
 ·exact absurd (f6 (Heap.lt_size (I.pin p hp).1) (by rw [z];exact hb)) (nJ _)
structure Turn (P:Program) (w:World) (K:PySem.W.Frag) (tg:Expr) (J:It) (fp:List Addr) (it:Addr) (tn:Nat→Heap→Prop):Prop where
 mem:it∈fp
 obj:∀i h,tn i h→∀b∈fp,∃o,h.get? b=some o∧∀v,o.data≠ .cell v
 keep:∀i h h',tn i h→(∀b∈fp,∀o,h.get? b=some o→h'.get? b=some o)→tn i h'
 item:∀(X:Cx),X.prog=P→X.w=w→X.K=K→X.calm=true→∀(i:Nat)(pins:List (Addr×Obj))(s:Shared)(σ:St)(H:Hp)(E:Value→Shared→Prop),Inv X pins σ H s→(∀b∈fp,fz X pins H b)→tn i s.heap→J.go i H→
  wpAny (model P w) X.A (pyNext (.ref it)) (λr s1=>∃u,r=some u∧
   wpAny (model P w) X.A (letOwnedTupleGo tg (.ref it) u) (λ_ s2=>∃x H',Inv X pins σ H' s2∧RelV x u∧J.yld i H x H'∧tn (i+1) s2.heap∧∀b∈fp,H' b=none) E s1) E s
 done:∀(X:Cx),X.prog=P→X.w=w→X.K=K→X.calm=true→∀(i:Nat)(pins:List (Addr×Obj))(s:Shared)(σ:St)(H:Hp)(E:Value→Shared→Prop),Inv X pins σ H s→(∀b∈fp,fz X pins H b)→tn i s.heap→J.stop i H→
  wpAny (model P w) X.A (pyNext (.ref it)) (λr s1=>r=none∧Inv X pins σ H s1) E s
 self:∀(A:Around)(i:Nat)(s:Shared)(Q:Value→Shared→Prop)(E:Value→Shared→Prop),tn i s.heap→Q (.ref it) s→wpAny (model P w) A (pyIter (.ref it)) Q E s
abbrev TI:=St→Hp→(It→Hp→Prop)→Prop
def PQ(X:Cx)(pins:List (Addr×Obj))(σ:St)(tg:Expr)(R:It→Hp→Prop)(sA:Value)(s2:Shared):Prop:=
 ∃(it:Addr)(fp:List Addr)(tn:Nat→Heap→Prop)(J:It)(H':Hp),sA= .ref it∧Inv X pins σ H' s2∧Turn X.prog X.w X.K tg J fp it tn∧tn 0 s2.heap∧(∀b∈fp,fz X pins H' b)∧R J H'
def PI(X:Cx)(tg iter:Expr)(wi:TI):Prop:=
 ∀(pins:List (Addr×Obj))(s:Shared)(σ:St)(H:Hp)(R:It→Hp→Prop),Inv X pins σ H s→wi σ H R→
  wpAny (model X.prog X.w) X.A (eval iter X.env) (λv s1=>wpAny (model X.prog X.w) X.A (pyIter v) (PQ X pins σ tg R) X.xe s1) X.xe s
theorem GR{M:Model}{A:Around}{E:Value→Shared→Prop}{s:Shared}{tg:Expr}{it:Addr}{u:Value}{o:Obj}{n:String}{vs:Array Value}{Q:Unit→Shared→Prop}(ho:s.heap.get? it=some o)(hc:o.cls= .type n)(hd:o.data= .fields vs)
  (hn: ["enumerate","zip","dict_itemiterator","dict_reverseitemiterator","odict_iterator","itertools.zip_longest","itertools.pairwise"].contains n=false) (hQ:Q () s):wpAny M A (letOwnedTupleGo tg (.ref it) u) Q E s:=by
 unfold letOwnedTupleGo
 cases tg<;>first
  |exact wpAny_pure hQ
  | (cases u<;>first
    |exact wpAny_pure hQ
    | (refine wpAny_bind (wpAny_load ho ?_)
       rw [hc,hd];show wpAny M A (if (["enumerate","zip","dict_itemiterator","dict_reverseitemiterator","odict_iterator","itertools.zip_longest","itertools.pairwise"].contains n&&vs[0]? ==some (rawInt _))=true then _ else _) Q E s;rw [if_neg (by intro h;rw [hn,Bool.false_and] at h;cases h)]
       exact wpAny_pure hQ))
def Ef(K:PySem.W.Frag)(a:Addr):It:=
 ⟨λi H=>∃xs x,aD K H a xs∧xs[i]? =some x,λi H x H'=>H'=H∧∀xs,aD K H a xs→xs[i]? =some x,λi H=>∃xs,aD K H a xs∧xs.length≤i⟩
def y2(lo:Int)(n:Nat):It:=⟨λi _=>i<n,λi H x H'=>H'=H∧x= .int (lo+i),λi _=>n≤i⟩
theorem CJ{P:Program}{w:World}{K:PySem.W.Frag}{tg:Expr}(a it:Addr):Turn P w K tg (Ef K a) [it] it (λi h=>h.IsListIter it a i) where
 mem:=by simp
 obj:=λi h st b hb=>by
  have e:b=it:=by simpa using hb
  subst e;obtain ⟨o,e,c,d⟩:=st;exact ⟨o,e,λv z=>by rw [d] at z;cases z⟩
 keep:=λi h h' st k=>st.at λo e=>k it (by simp) o e
 item:=by
  intro X hP hw hK hc i pins s σ H E I hf st hg;subst hP hw hK;obtain ⟨xs,x,hq,hx⟩:=hg;obtain ⟨its,rv,p,hz⟩:=I.list hq;obtain ⟨u,hu,ru⟩:=rv.get hx;obtain ⟨f0,f1,f2,f3,f4,f5⟩:=hf it (by simp)
  refine wpAny_pyNext_list_item st p.isList (x:=u) (by simpa using hu) λh' ag sb=>?_
  have I1:Inv X pins σ H {s with heap:=h'}:=I.turned (t':=s.toks) (λb o hb e=>(sb.2 b hb).trans e) f0 f1 f3 f4 f5
  obtain ⟨o,e,c,d⟩:=id ag;exact ⟨u,rfl,GR (s:={s with heap:=h'}) e c d (by decide) ⟨x,H,I1,ru,⟨rfl,λys hy=>by rw [I.wN hy hq];exact hx⟩,ag,λb hb=>(hf b hb).1⟩⟩
 done:=by
  intro X hP hw hK hc i pins s σ H E I hf st hg;subst hP hw hK;obtain ⟨xs,hq,hx⟩:=hg;obtain ⟨its,rv,p,hz⟩:=I.list hq;obtain ⟨f0,f1,f2,f3,f4,f5⟩:=hf it (by simp)
  have hl:=rv.length;exact wpAny_pyNext_list_end (I.ok.hd hc) st p.isList (by simp;omega) λh' eb=>⟨rfl,I.turned (t':=s.toks) (λb o hb e=>eb b o hb e) f0 f1 f3 f4 f5⟩
 self:=λ_ _ _ _ _ st h=>wpAny_pyIter_listiter st h
theorem Az{P:Program}{w:World}{K:PySem.W.Frag}{tg:Expr}(it:Addr)(lo:Int)(n:Nat):Turn P w K tg (y2 lo n) [it] it (λi h=>IsRangeIter h it (lo+(i:Nat)*1) ((n:Int)-(i:Nat)) 1) where
 mem:=by simp
 obj:=λi h st b hb=>by
  have e:b=it:=by simpa using hb
  subst e
  exact ⟨_,st,λv z=>by
   have z':Data.fields _=Data.cell v:=z;cases z'⟩
 keep:=λi h h' st k=>k it (by simp) _ st
 item:=by
  intro X hP hw hK hc i pins s σ H E I hf st hg;subst hP hw hK;obtain ⟨f0,f1,f2,f3,f4,f5⟩:=hf it (by simp)
  have W:=Walks.range (prog:=X.prog) (w:=X.w) (I.ok.hd hc) it lo 1 n;refine W.item i s _ _ hg st λv h' tk hv ag kk=>?_;obtain ⟨t,rfl⟩:=hv;have I1:Inv X pins σ H {s with heap:=h',toks:=tk}:=I.turned (λb o hb e=>kk b o (by simpa using hb) e) f0 f1 f3 f4 f5
  refine ⟨_,rfl,GR (s:={s with heap:=h',toks:=tk}) (n:="range_iterator") ag rfl rfl (by decide) ⟨.int (lo+i),H,I1,⟨t,?_⟩,⟨rfl,rfl⟩,ag,λb hb=>(hf b hb).1⟩⟩
  rw [Int.mul_one]
 done:=by
  intro X hP hw hK hc i pins s σ H E I hf st hg;subst hP hw hK;obtain ⟨f0,f1,f2,f3,f4,f5⟩:=hf it (by simp)
  exact wpAny_pyNext_range_end (I.ok.hd hc) st (by have:n≤i:=hg;omega) λh' eb=>⟨rfl,I.turned (t':=s.toks) (λb o hb e=>eb b o hb e) f0 f1 f3 f4 f5⟩
 self:=λ_ _ _ _ _ st h=>wpAny_pyIter_rangeiter st h
section
variable {X:Cx} {tg:Expr}
def OG(K:PySem.W.Frag)(tl:TE):TI:=λσ H R=>tl σ H λx H1=>∃a,x= .ref a∧(∃xs,aD K H1 a xs)∧R (Ef K a) H1
theorem jG{l:Expr}{tl:TE}(hl:PE X l tl):PI X tg l (OG X.K tl):=by
 intro pins s σ H R I h;refine thn (hl pins s σ H _ I h) λv s1 ⟨x,H1,I1,r1,q1⟩=>?_;obtain ⟨a,e,⟨xs,hq⟩,q⟩:=q1;subst e;cases r1;obtain ⟨its,rv,p,hz⟩:=I1.list hq;refine wpAny_pyIter_list p.isList ?_;refine ⟨s1.heap.objs.size,[s1.heap.objs.size],_,_,H1,rfl,I1.kept (t':=s1.toks) λb o e=>Heap.get?_push_of_some _ e,CJ a _,⟨_,Heap.get?_push_size _ rfl,rfl,rfl⟩,λb hb=>?_,q⟩;have e:b=s1.heap.objs.size:=by simpa using hb
 subst e;exact I1.GL (aT _) (I1.hok.fresh (aT _))
theorem wY{pins:List (Addr×Obj)}{σ:St}{H:Hp}{s:Shared}{R:It→Hp→Prop}{E:Value→Shared→Prop}{lo hi:Int}{t u v:Tok}{tk:Nat}(I:Inv X pins σ H s)(h1: -(2^62)≤lo)(h2:lo<2^62)(h3: -(2^62)≤hi)(h4:hi<2^62)
  (q:R (y2 lo (hi-lo).toNat) H):wpAny (model X.prog X.w) X.A (pyIter (.ref s.heap.objs.size)) (PQ X pins σ tg R) E {s with heap:=s.heap.push {cls:= .type "range",data:= .fields #[.int lo t, .int hi u, .int 1 v]},toks:=tk}:=by
 refine wpAny_pyIter_range (IsRange.new ..) (small_one h1 h2 h3 h4) ?_;have I1:Inv X pins σ H {s with heap:=s.heap.push {cls:= .type "range",data:= .fields #[.int lo t, .int hi u, .int 1 v]},toks:=tk}:=I.kept λb o e=>Heap.get?_push_of_some _ e
 refine ⟨(s.heap.push {cls:= .type "range",data:= .fields #[.int lo t, .int hi u, .int 1 v]}).objs.size,[(s.heap.push {cls:= .type "range",data:= .fields #[.int lo t, .int hi u, .int 1 v]}).objs.size],_,_,H,rfl,
  I1.kept (t':=tk) λb o e=>Heap.get?_push_of_some _ e,Az _ lo (hi-lo).toNat,?_,λb hb=>?_,q⟩
 ·have e1:lo+((0:Nat):Int)*1=lo:=by simp
  have e2:(((hi-lo).toNat:Nat):Int)-((0:Nat):Int)=Builtin.Range.rangeSize lo hi 1:=by rw [rangeSize_one];split<;>omega
  show IsRangeIter _ _ (lo+((0:Nat):Int)*1) ((((hi-lo).toNat:Nat):Int)-((0:Nat):Int)) 1;rw [e1,e2];exact Heap.get?_push_size _ rfl
 ·have e:b=(s.heap.push {cls:= .type "range",data:= .fields #[.int lo t, .int hi u, .int 1 v]}).objs.size:=by simpa using hb
  subst e;exact I1.GL (aT _) (I1.hok.fresh (aT _))
def OH(ta:TA):TI:=λσ H R=>ta σ H λvs H1=>∃j:Int,vs= [.int j]∧-(2^62)≤j∧j<2^62∧R (y2 0 j.toNat) H1
def OI(ta:TA):TI:=λσ H R=>ta σ H λvs H1=>∃i j:Int,vs= [.int i, .int j]∧(-(2^62)≤i∧i<2^62∧-(2^62)≤j∧j<2^62)∧R (y2 i (j-i).toNat) H1
theorem iI{a:Expr}{ta:TA}{p pos:Pos}(hg:Gl X "range")(hm:X.mg "range"=none)(ha:PA X [a] ta)(hs:starEach [a] X.env= [(false,eval a X.env)]:=by rfl):PI X tg (.Call (.Name "range" p) [a] [] pos) (OH ta):=by
 intro pins s σ H R I h;refine Call_ (j0 I hg hm boot_range (PyProof.Rows.callWith_type1 (thn (ha pos pins s σ H _ I h) λus s1 ⟨vs,H1,I1,r1,q1⟩=>?_) hs rfl));obtain ⟨j,e,q1,q2,q⟩:=q1;subst e;cases r1 with
 |cons r rr=>
  cases rr;obtain ⟨t,rfl⟩:=r;exact call_range_1 (wY I1 (by omega) (by omega) q1 q2 (by simpa using q))
theorem Cd{a b:Expr}{ta:TA}{p pos:Pos}(hg:Gl X "range")(hm:X.mg "range"=none)(ha:PA X [a,b] ta)(hs:starEach [a,b] X.env= [(false,eval a X.env),(false,eval b X.env)]:=by rfl)(qB:starEach [b] X.env= [(false,eval b X.env)]:=by rfl):
  PI X tg (.Call (.Name "range" p) [a,b] [] pos) (OI ta):=by
 intro pins s σ H R I h;refine Call_ (j0 I hg hm boot_range (PyProof.Rows.callWith_type1 (thn (ha pos pins s σ H _ I h) λus s1 ⟨vs,H1,I1,r1,q1⟩=>?_) (by rw [hs,qB]) (by rw [qB];rfl)))
 obtain ⟨i,j,e,⟨q1,q2,q3,q4⟩,q⟩:=q1;subst e;cases r1 with
 |cons r rr=>
  cases rr with
  |cons r' rr=>
   cases rr;obtain ⟨t,rfl⟩:=r;obtain ⟨t',rfl⟩:=r';exact call_range_2 (wY I1 q1 q2 q3 q4 q)
def VF(wi:TI)(g:TG)(tb:TS):TS:=λD σ H=>wi σ H λJ H1=>∃W:Nat→Nat→St→Hp→Prop,(∃m,W 0 m σ H1)∧∀i m σ H,W i m σ H→
 (J.stop i H∧D.nx σ H)∨(J.go i H∧∃N:St→Hp→Prop,(∀ay H',N ay H'→∃m',m'<m∧W (i+1) m' ay H')∧∀x H',J.yld i H x H'→g x σ H' λcn H2=>tb {D with nx:=N,ct:=N,bk:=D.nx} cn H2)
def j7(fp:List Addr)(h:Heap):List (Addr×Obj):=fp.filterMap λb=>(h.get? b).map λo=>(b,o)
theorem dz{fp:List Addr}{h:Heap}{b:Addr}{o:Obj}(hb:b∈fp)(e:h.get? b=some o):(b,o)∈j7 fp h:=List.mem_filterMap.mpr ⟨b,hb,by rw [e];rfl⟩
theorem B4{fp:List Addr}{h:Heap}{p:Addr×Obj}(hp:p∈j7 fp h):p.1∈fp∧h.get? p.1=some p.2:=by
 obtain ⟨b,hb,e⟩:=List.mem_filterMap.mp hp;cases q:h.get? b with
 |none=>rw [q] at e;cases e
 |some o=>
  rw [q] at e;have e':(b,o)=p:=Option.some.inj e;subst e';exact ⟨hb,q⟩
theorem Inv.pinned{pins:List (Addr×Obj)}{σ:St}{H:Hp}{s:Shared}{fp:List Addr}(I:Inv X pins σ H s)(hf:∀b∈fp,fz X pins H b)(ho:∀b∈fp,∃o,s.heap.get? b=some o∧∀v,o.data≠ .cell v):Inv X (pins++j7 fp s.heap) σ H s:=
 I.pU λp hp=>(cM.mp hp).elim (λz=>I.pin p (dX _ z)) λz=>by
  obtain ⟨hb,e⟩:=B4 z;obtain ⟨f0,f1,f2,_⟩:=hf p.1 hb;obtain ⟨o,e',d⟩:=ho p.1 hb;rw [e] at e';cases e';exact ⟨e,f0,f1,f2,d⟩
theorem Inv.iy{pins pl:List (Addr×Obj)}{σ:St}{H:Hp}{s:Shared}(I:Inv X (pins++pl) σ H s):Inv X pins σ H s:=I.pU λp hp=>I.pin p (dX _ (se _ hp))
theorem ic{iter:Expr}{body:List Stmt}{wi:TI}{g:TG}{tb:TS}{pos:Pos}(hp:PassesOwn (model X.prog X.w) X.A X.env X.xe)(hc:X.calm=true)(hi:PI X tg iter wi)(hg:PG X tg g)(hb:kK X body tb)
  (hs:∀x,foldedSetIterable iter X.env x=pure x:=by intro _;rfl):PS X (.For tg iter body [] pos) (VF wi g tb):=by
 intro pins s σ H D I h;refine wpAny_For (thn (hi pins s σ H _ I h) λv s1 h1=>thn h1 λsA s2 h2=>?_) hs;obtain ⟨it,fp,tn,J,H2,e,I2,T,kg,f2,W,⟨m0,w0⟩,turn⟩:=h2;subst e;have stat:∀{H':Hp},(∀b∈fp,H' b=none)→∀b∈fp,fz X pins H' b:=λhn b hb=>⟨hn b hb,(f2 b hb).2⟩;refine codeAny_forLoop_any (λn s'=>∃i ay H',Inv X pins ay H' s'∧tn i s'.heap∧(∀b∈fp,H' b=none)∧W i n ay H') ?_ m0 ⟨0,σ,H2,I2,kg,λb hb=>(f2 b hb).1,w0⟩;rintro n s3 ⟨i,sN,H3,I3,sL,Rr,w3⟩
 rcases turn i n sN H3 w3 with ⟨stop,qn⟩ | ⟨go,N,hN,step⟩
 ·refine wpAny_passesOwn hp (thn (T.done X rfl rfl rfl hc i pins s3 sN H3 X.xe I3 (stat Rr) sL stop) λr s4 ⟨hr,I4⟩=>?_)
  subst hr;exact wpAny_execs_nil ⟨sN,H3,I4,qn⟩
 ·refine wpAny_passesOwn hp (thn (T.item X rfl rfl rfl hc i pins s3 sN H3 X.xe I3 (stat Rr) sL go) λr s4 ⟨u,hr,h4⟩=>?_)
  subst hr;refine wpAny_passesOwn hp (thn h4 λ_ s5 ⟨x,H5,I5,r5,y5,sM,nV⟩=>?_);have MX:=I5.pinned (stat nV) (T.obj _ _ sM);refine wpAny_passesOwn hp (thn (hg _ s5 sN H5 x u _ MX r5 (step x H5 y5)) λ_ s6 ⟨σ6,H6,I6,q6⟩=>?_);refine wpAny_passesOwn hp (thn (hb _ s6 σ6 H6 _ I6 q6) λf s7 q7=>?_)
  have again:∀{qp:St}{H7:Hp},Inv X (pins++j7 fp s5.heap) qp H7 s7→N qp H7→∃m,m<n∧∃i ay H',Inv X pins ay H' s7∧tn i s7.heap∧(∀b∈fp,H' b=none)∧W i m ay H':=λ {qp H7} I7 n7=>by
   obtain ⟨m',hm,w7⟩:=hN qp H7 n7;refine ⟨m',hm,i+1,qp,H7,I7.iy,T.keep _ _ _ sM λb hb o e=>(I7.pin (b,o) (dX _ (dX _ (dz hb e)))).1,λb hb=>?_,w7⟩;obtain ⟨o,e,d⟩:=T.obj _ _ sM b hb;exact (I7.pin (b,o) (dX _ (dX _ (dz hb e)))).2.1
  cases f with
  |next=>obtain ⟨qp,H7,I7,n7⟩:=q7;exact again I7 n7
  |cont=>obtain ⟨qp,H7,I7,n7⟩:=q7;exact again I7 n7
  |brk=>obtain ⟨qp,H7,I7,q7⟩:=q7;exact ⟨qp,H7,I7.iy,q7⟩
  |ret v=>obtain ⟨x7,qp,H7,I7,r7,q7⟩:=q7;exact ⟨x7,qp,H7,I7.iy,r7,q7⟩
end
theorem Ey{K:PySem.W.Frag}{a:Addr}{xs:List V}{g:TG}{tb:TS}{D:Ends}{σ:St}{H:Hp}(Pv:Nat→St→Hp→Prop)(h0:Pv 0 σ H)(hl:∀i σ H,i≤xs.length→Pv i σ H→aD K H a xs)
  (hs:∀i x σ H,xs[i]? =some x→Pv i σ H→g x σ H λcn H2=>tb {D with nx:=Pv (i+1),ct:=Pv (i+1),bk:=D.nx} cn H2) (hd:∀σ H,Pv xs.length σ H→D.nx σ H):
  ∃W:Nat→Nat→St→Hp→Prop,(∃m,W 0 m σ H)∧∀i m σ H,W i m σ H→
   ((Ef K a).stop i H∧D.nx σ H)∨((Ef K a).go i H∧∃N:St→Hp→Prop,(∀ay H',N ay H'→∃m',m'<m∧W (i+1) m' ay H')∧∀x H',(Ef K a).yld i H x H'→g x σ H' λcn H2=>tb {D with nx:=N,ct:=N,bk:=D.nx} cn H2):=by
 refine ⟨λi m σ H=>m=xs.length-i∧i≤xs.length∧Pv i σ H,⟨xs.length,by simp,cW _,h0⟩,?_⟩
 rintro i m σ H ⟨rfl,hi,p⟩;have q:=hl i σ H hi p
 by_cases bq:i<xs.length
 ·refine .inr ⟨⟨xs,xs[i],q,by simp [bq]⟩,Pv (i+1),λay H' p'=>⟨xs.length-(i+1),by omega,rfl,bq,p'⟩,λx H' y=>?_⟩
  obtain ⟨e,y⟩:=y;subst e;exact hs i x σ _ (y xs q) p
 ·have e:i=xs.length:=by omega
  subst e;exact .inl ⟨⟨xs,q,aT _⟩,hd σ H p⟩
theorem jX{lo:Int}{n:Nat}{g:TG}{tb:TS}{D:Ends}{σ:St}{H:Hp}(Pv:Nat→St→Hp→Prop)(h0:Pv 0 σ H)
  (hs:∀i σ H,i<n→Pv i σ H→g (.int (lo+i)) σ H λcn H2=>tb {D with nx:=Pv (i+1),ct:=Pv (i+1),bk:=D.nx} cn H2) (hd:∀σ H,Pv n σ H→D.nx σ H):
  ∃W:Nat→Nat→St→Hp→Prop,(∃m,W 0 m σ H)∧∀i m σ H,W i m σ H→
   ((y2 lo n).stop i H∧D.nx σ H)∨((y2 lo n).go i H∧∃N:St→Hp→Prop,(∀ay H',N ay H'→∃m',m'<m∧W (i+1) m' ay H')∧∀x H',(y2 lo n).yld i H x H'→g x σ H' λcn H2=>tb {D with nx:=N,ct:=N,bk:=D.nx} cn H2):=by
 refine ⟨λi m σ H=>m=n-i∧i≤n∧Pv i σ H,⟨n,by simp,cW _,h0⟩,?_⟩
 rintro i m σ H ⟨rfl,hi,p⟩
 by_cases bq:i<n
 ·refine .inr ⟨bq,Pv (i+1),λay H' p'=>⟨n-(i+1),by omega,rfl,bq,p'⟩,λx H' y=>?_⟩
  obtain ⟨e,y⟩:=y;subst e y;exact hs i σ _ bq p
 ·have e:i=n:=by omega
  subst e;exact .inl ⟨aT _,hd σ H p⟩
theorem FE{c:TT}{tb:TS}{D:Ends}{σ:St}{H:Hp}(Pv:St→Hp→Prop)(μ:St→Hp→Nat)(h0:Pv σ H)
  (hs:∀σ H,Pv σ H→c σ H λb H1=>if b=true then tb {D with nx:=λay H'=>Pv ay H'∧μ ay H'<μ σ H,ct:=λay H'=>Pv ay H'∧μ ay H'<μ σ H,bk:=D.nx} σ H1 else D.nx σ H1)
  (mono:∀σ H Q Q',(∀b H1,Q b H1→Q' b H1)→c σ H Q→c σ H Q'):D4 c tb D σ H:=by
 refine ⟨λm σ H=>m=μ σ H∧Pv σ H,⟨_,rfl,h0⟩,?_⟩;rintro m σ H ⟨rfl,p⟩;refine mono σ H _ _ (λb H1 q=>?_) (hs σ H p);cases b with
 |true=>exact ⟨_,λay H' ⟨p',l⟩=>⟨_,l,rfl,p'⟩,q⟩
 |false=>exact q
abbrev R2:=V→V→Hp→VK→Prop
def OpR(X:Cx)(f:Value→Value→Sem Value)(r:R2):Prop:=
 ∀(pins:List (Addr×Obj))(s:Shared)(σ:St)(H:Hp)(x y:V)(v u:Value)(Q:VK),Inv X pins σ H s→RelV x v→RelV y u→r x y H Q→
  wpAny (model X.prog X.w) X.A (f v u) (EP X pins σ Q) X.xe s
def UnR(X:Cx)(f:Value→Sem Value)(r:V→Hp→VK→Prop):Prop:=
 ∀(pins:List (Addr×Obj))(s:Shared)(σ:St)(H:Hp)(x:V)(v:Value)(Q:VK),Inv X pins σ H s→RelV x v→r x H Q→
  wpAny (model X.prog X.w) X.A (f v) (EP X pins σ Q) X.xe s
def bQ(X:Cx)(f:Value)(r:List V→Hp→VK→Prop):Prop:=
 ∀(pins:List (Addr×Obj))(s:Shared)(σ:St)(H:Hp)(xs:List V)(us:List Value)(Q:VK),Inv X pins σ H s→Vals xs us→r xs H Q→
  wpAny (model X.prog X.w) X.A (call f us) (EP X pins σ Q) X.xe s
def PR(X:Cx)(r:V→Hp→(Bool→Hp→Prop)→Prop):Prop:=
 ∀(pins:List (Addr×Obj))(s:Shared)(σ:St)(H:Hp)(x:V)(v:Value)(Q:Bool→Hp→Prop),Inv X pins σ H s→RelV x v→r x H Q→
  wpAny (model X.prog X.w) X.A (truthy v) (TP X pins σ Q) X.xe s
def yR(r:R2)(ta tb:TE):TE:=λσ H Q=>ta σ H λx H1=>tb σ H1 λy H2=>r x y H2 Q
def tUn(r:V→Hp→VK→Prop)(ta:TE):TE:=λσ H Q=>ta σ H λx H1=>r x H1 Q
def rI(C:Int→Int→Prop)(g:Int→Int→V):R2:=λx y H Q=>∃i j,x= .int i∧y= .int j∧C i j∧Q (g i j) H
def Cn(g:Int→Int→V):R2:=λx y H Q=>∃i j,x= .int i∧y= .int j∧Q (g i j) H
def rU(g:Int→V):V→Hp→VK→Prop:=λx H Q=>∃i,x= .int i∧Q (g i) H
section
variable {X:Cx} {a b c:Expr} {ta tb tc:TE} {pos:Pos}
theorem FU(ha:PE X a ta)(hb:PE X b tb){pins:List (Addr×Obj)}{s:Shared}{σ:St}{H:Hp}{R:V→V→Hp→Prop}(I:Inv X pins σ H s)
  (h:ta σ H λx H1=>tb σ H1 λy H2=>R x y H2) {Q:Value→Shared→Prop} {f:Value→Value→Sem Value}
  (hf:∀v u s2 x y H2,Inv X pins σ H2 s2→RelV x v→RelV y u→R x y H2→wpAny (model X.prog X.w) X.A (f v u) Q X.xe s2):
  wpAny (model X.prog X.w) X.A (eval a X.env) (λv s₁=>wpAny (model X.prog X.w) X.A (eval b X.env) (λu D2=>wpAny (model X.prog X.w) X.A (f v u) Q X.xe D2) X.xe s₁) X.xe s:=by
 refine thn (ha pins s σ H _ I h) λv s1 ⟨x,H1,I1,r1,q1⟩=>?_;refine thn (hb pins s1 σ H1 _ I1 q1) λu s2 ⟨y,H2,I2,r2,q2⟩=>?_;exact hf v u s2 x y H2 I2 r1 r2 q2
theorem bU{op:Operator}{r:R2}(ho:OpR X (binaryOp op) r)(ha:PE X a ta)(hb:PE X b tb):PE X (.BinOp a op b pos) (yR r ta tb):=by
 intro pins s σ H Q I h;exact wpAny_BinOp (FU ha hb I h λv u s2 x y H2 I2 rx ry q=>ho pins s2 σ H2 x y v u Q I2 rx ry q)
theorem O6{op:UnaryOp}{r:V→Hp→VK→Prop}(ho:UnR X (unaryOp op) r)(ha:PE X a ta):PE X (.UnaryOp op a pos) (tUn r ta):=by
 intro pins s σ H Q I h;exact UnaryOp_ (thn (ha pins s σ H _ I h) λv s1 ⟨x,H1,I1,r1,q1⟩=>ho pins s1 σ H1 x v Q I1 r1 q1)
theorem KO{f:Value→Value→Sem Value}{C:Int→Int→Prop}{g:Int→Int→Int}
  (rule:∀(i j:Int)(t u:Tok)(s:Shared)(Q:Value→Shared→Prop)(E:Value→Shared→Prop),C i j→Q (.int (g i j) s.toks) {s with toks:=s.toks+1}→wpAny (model X.prog X.w) X.A (f (.int i t) (.int j u)) Q E s):
  OpR X f (rI C λi j=> .int (g i j)):=by
 intro pins s σ H x y v u Q I rx ry h;obtain ⟨i,j,rfl,rfl,hc,q⟩:=h;obtain ⟨t,rfl⟩:=rx;obtain ⟨t',rfl⟩:=ry;exact rule i j t t' s _ _ hc ⟨.int (g i j),H,I.tok _,⟨_,rfl⟩,q⟩
theorem UE{f:Value→Value→Sem Value}{g:Int→Int→Int}
  (rule:∀(i j:Int)(t u:Tok)(s:Shared)(Q:Value→Shared→Prop)(E:Value→Shared→Prop),Q (.int (g i j) s.toks) {s with toks:=s.toks+1}→wpAny (model X.prog X.w) X.A (f (.int i t) (.int j u)) Q E s):
  OpR X f (Cn λi j=> .int (g i j)):=by
 intro pins s σ H x y v u Q I rx ry h;obtain ⟨i,j,rfl,rfl,q⟩:=h;obtain ⟨t,rfl⟩:=rx;obtain ⟨t',rfl⟩:=ry;exact rule i j t t' s _ _ ⟨.int (g i j),H,I.tok _,⟨_,rfl⟩,q⟩
theorem Ii{f:Value→Value→Sem Value}{g:Int→Int→Bool}
  (rule:∀(i j:Int)(t u:Tok)(s:Shared)(Q:Value→Shared→Prop)(E:Value→Shared→Prop),Q (.bool (g i j)) s→wpAny (model X.prog X.w) X.A (f (.int i t) (.int j u)) Q E s):
  OpR X f (Cn λi j=> .bl (g i j)):=by
 intro pins s σ H x y v u Q I rx ry h;obtain ⟨i,j,rfl,rfl,q⟩:=h;obtain ⟨t,rfl⟩:=rx;obtain ⟨t',rfl⟩:=ry;exact rule i j t t' s _ _ ⟨.bl (g i j),H,I,rfl,q⟩
def LL(i j:Int):Prop:=0<j∧j<1073741824
def PD(i j:Int):Prop:=0≤j∧j≤1000000∧i.natAbs<2^64
def FH(i j:Int):Prop:=(-(2^64)<i∧i<2^64)∨(-(2^64)<j∧j<2^64)
theorem FH.ok{i j:Int}(h:FH i j):IntMulOk i j:=by
 rcases h with ⟨h1,h2⟩ | ⟨h1,h2⟩
 ·exact .of_left (intBits_le_64 h1 h2)
 ·exact .of_right (intBits_le_64 h1 h2)
theorem fR:OpR X (binaryOp .Add) (Cn λi j=> .int (i+j)):=UE λ_ _ _ _ _ _ _ q=>add_int q
theorem mN:OpR X (binaryOp .Mult) (rI FH λi j=> .int (i*j)):=KO λ_ _ _ _ _ _ _ hc q=>mul_int q hc.ok
theorem Ik:OpR X (binaryOp .FloorDiv) (rI LL λi j=> .int (i / j)):=KO λi j _ _ _ _ _ hc q=>by
 have h1:(0:Int)<j:=hc.1;have h2:j<1073741824:=hc.2;exact floordiv_int (by omega) (by rw [Int.fdiv_eq_ediv_of_nonneg i (by omega)];exact q) (.inl (PyProof.noPylong_small (by omega)))
theorem mM:OpR X (binaryOp .Mod) (rI (λ_ j=>0<j) λi j=> .int (i%j)):=KO λi j _ _ _ _ _ hc q=>by
 have h1:(0:Int)<j:=hc;exact mod_int' (by omega) (by rw [Int.fmod_eq_emod_of_nonneg i (by omega)];exact q)
theorem KR:OpR X (binaryOp .Pow) (rI PD λi j=> .int (i^j.toNat)):=KO λ_ _ _ _ _ _ _ hc q=>pow_int_small hc.1 hc.2.1 hc.2.2 q
theorem unI{f:Value→Sem Value}{g:Int→Int}
  (rule:∀(i:Int)(t:Tok)(s:Shared)(Q:Value→Shared→Prop)(E:Value→Shared→Prop),Q (.int (g i) s.toks) {s with toks:=s.toks+1}→wpAny (model X.prog X.w) X.A (f (.int i t)) Q E s):
  UnR X f (rU λi=> .int (g i)):=by
 intro pins s σ H x v Q I rx h;obtain ⟨i,rfl,q⟩:=h;obtain ⟨t,rfl⟩:=rx;exact rule i t s _ _ ⟨.int (g i),H,I.tok _,⟨_,rfl⟩,q⟩
theorem LF:UnR X (unaryOp .USub) (rU λi=> .int (-i)):=unI λ_ _ _ _ _ q=>neg_int q
end
def Ve:V→V→Bool
 | .aI, .aI=>true| .aI, .int _=>true| .int _, .aI=>true| .aI, .bl _=>true| .bl _, .aI=>true| .aI, .str _=>true| .str _, .aI=>true
 | .int _, .int _=>true| .bl _, .bl _=>true| .str _, .str _=>true| .sj _, .sj _=>true
 | .int _, .str _=>true| .str _, .int _=>true| .bl _, .str _=>true| .str _, .bl _=>true
 |_,_=>false
def rNe:R2:=λx y H Q=>Ve x y=true∧Q (.bl (!decide (x=y))) H
theorem Gi{i j:Int}:decide (V.int i=V.int j)=(i==j):=by
 rw [vh];simp
theorem JN{i j:Bool}:decide (V.bl i=V.bl j)=(i==j):=by
 rw [vh];simp
theorem Gj{i j:Str}:decide (V.str i=V.str j)=(i==j):=by
 rw [vh];simp
theorem Gh{i j:Array UInt8}:decide (V.sj i=V.sj j)=(i.toList==j.toList):=by
 rw [vh];cases i;cases j;simp
section
variable {X:Cx} {a b c:Expr} {ta tb tc:TE} {pos:Pos}
theorem cH{pins:List (Addr×Obj)}{σ:St}{H:Hp}{s:Shared}{Q:VK}{k k':Bool}(I:Inv X pins σ H s)(q:Q (.bl k) H)(e:k=k'):EP X pins σ Q (.bool k') s:=by
 subst e;exact ⟨.bl k,H,I,rfl,q⟩
theorem O2:OpR X (compareOp .NotEq) rNe:=by
 intro pins s σ H x y v u Q I rx ry h;obtain ⟨hs,q⟩:=h;cases x with
 |aI=>
  cases rx;cases y with
  |aI=>cases ry;exact PySem.EqNone.ne_none_none (cH I q (by simp))
  |bl j=>cases ry;exact PySem.EqNone.ne_none_bool (cH I q (by simp))
  |int j=>obtain ⟨t',rfl⟩:=ry;exact PySem.EqNone.ne_none_int (cH I q (by simp))
  |str j=>obtain ⟨t',rfl⟩:=ry;exact PySem.EqNone.ne_none_str (cH I q (by simp))
  |_=>exact absurd (show false=true from hs) cB
 |bl i=>
  cases rx;cases y with
  |aI=>cases ry;exact PySem.EqNone.ne_bool_none (cH I q (by simp))
  |bl j=>cases ry;exact ne_bool (cH I q (congrArg not JN))
  |str j=>obtain ⟨t',rfl⟩:=ry;exact PySem.EqMixed.ne_bool_str (cH I q (by simp))
  |_=>exact absurd (show false=true from hs) cB
 |int i=>
  obtain ⟨t,rfl⟩:=rx;cases y with
  |aI=>cases ry;exact PySem.EqNone.ne_int_none (cH I q (by simp))
  |int j=>obtain ⟨t',rfl⟩:=ry;exact ne_int (cH I q (congrArg not Gi))
  |str j=>obtain ⟨t',rfl⟩:=ry;exact PySem.EqMixed.ne_int_str (cH I q (by simp))
  |_=>exact absurd (show false=true from hs) cB
 |str i=>
  obtain ⟨t,rfl⟩:=rx;cases y with
  |aI=>cases ry;exact PySem.EqNone.ne_str_none (cH I q (by simp))
  |bl j=>cases ry;exact PySem.EqMixed.ne_str_bool (cH I q (by simp))
  |int j=>obtain ⟨t',rfl⟩:=ry;exact PySem.EqMixed.ne_str_int (cH I q (by simp))
  |str j=>obtain ⟨t',rfl⟩:=ry;exact ne_str (cH I q (congrArg not Gj))
  |_=>exact absurd (show false=true from hs) cB
 |sj i=>
  obtain ⟨t,rfl⟩:=rx;cases y with
  |sj j=>obtain ⟨t',rfl⟩:=ry;exact PySem.W.ne_bytes (cH I q (congrArg not Gh))
  |_=>exact absurd (show false=true from hs) cB
 |_=>cases y<;>exact absurd (show false=true from hs) cB
theorem B8:OpR X (compareOp .Lt) (Cn λi j=> .bl (decide (i<j))):=Ii λ_ _ _ _ _ _ _ q=>lt_int q
theorem O1:OpR X (compareOp .LtE) (Cn λi j=> .bl (decide (i≤j))):=Ii λ_ _ _ _ _ _ _ q=>le_int q
theorem Il:OpR X (compareOp .Gt) (Cn λi j=> .bl (decide (j<i))):=Ii λ_ _ _ _ _ _ _ q=>gt_int q
theorem KQ:OpR X (compareOp .Is) (λx y H Q=>y= .aI∧Q (.bl (decide (x= .aI))) H):=by
 intro pins s σ H x y v u Q I rx ry h;obtain ⟨rfl,q⟩:=h;cases ry;refine is_none_gen (cH I q ?_)
 cases x<;>first
  | (cases rx;rfl)
  | (obtain ⟨t,rfl⟩:=rx;rfl)
theorem Io:OpR X (compareOp .IsNot) (λx y H Q=>y= .aI∧Q (.bl (!decide (x= .aI))) H):=by
 intro pins s σ H x y v u Q I rx ry h;obtain ⟨rfl,q⟩:=h;cases ry;refine isnot_none_gen (cH I q ?_)
 cases x<;>first
  | (cases rx;rfl)
  | (obtain ⟨t,rfl⟩:=rx;rfl)
theorem OpR.or{f:Value→Value→Sem Value}{r r':R2}(h:OpR X f r)(h':OpR X f r'):OpR X f (λx y H Q=>r x y H Q∨r' x y H Q):=by
 intro pins s σ H x y v u Q I rx ry q
 rcases q with q|q
 ·exact h pins s σ H x y v u Q I rx ry q
 ·exact h' pins s σ H x y v u Q I rx ry q
theorem bu(b:Expr){op:CmpOp}(h:op≠ .In:=by decide)(h2:op≠ .NotIn:=by decide):behindInMarks op b=false:=by
 have e1:(op==CmpOp.In)=false:=by cases op<;>first|rfl|exact absurd rfl h
 have e2:(op==CmpOp.NotIn)=false:=by cases op<;>first|rfl|exact absurd rfl h2
 cases b<;>simp [behindInMarks,e1,e2]
theorem z9{op:CmpOp}{r:R2}(ho:OpR X (compareOp op) r)(ha:PE X a ta)(hb:PE X b tb)(hm:behindInMarks op b=false):PE X (.Compare a [op] [b] pos) (yR r ta tb):=by
 intro pins s σ H Q I h;exact wpAny_Compare1 (FU ha hb I h λv u s2 x y H2 I2 rx ry q=>ho pins s2 σ H2 x y v u Q I2 rx ry q) hm
def CF(t:TE):TT:=λσ H Q=>t σ H λx H'=>∃k,x= .bl k∧Q k H'
theorem gH{op:CmpOp}{r:R2}(ho:OpR X (compareOp op) r)(ha:PE X a ta)(hb:PE X b tb)(hm:behindInMarks op b=false):PT X (.Compare a [op] [b] pos) (CF (yR r ta tb)):=by
 intro pins s σ H Q I h
 refine wpAny_isTrue_Compare1 (thn (ha pins s σ H _ I h) λv s1 ⟨x,H1,I1,r1,q1⟩=>thn (hb pins s1 σ H1 _ I1 q1) λu s2 ⟨y,H2,I2,r2,q2⟩=>
  thn (ho pins s2 σ H2 x y v u _ I2 r1 r2 q2) λc s3 ⟨z,H3,I3,r3,k,e,q3⟩=>?_) hm
 subst e;cases r3;exact wpAny_truthy_bool ⟨H3,I3,q3⟩
def yQ(r r':R2)(ta tb tc:TE):TE:=λσ H Q=>ta σ H λx H1=>tb σ H1 λy H2=>r x y H2 λz H3=>∃k,z= .bl k∧
 (if k=true then tc σ H3 λw' H4=>r' y w' H4 Q else Q (.bl false) H3)
theorem Fi{op oE:CmpOp}{r r':R2}(ho:OpR X (compareOp op) r)(jl:OpR X (compareOp oE) r')(ha:PE X a ta)(hb:PE X b tb)(hc:PE X c tc)
  (hm:lastMarks [op,oE] [b,c]=false:=by with_unfolding_all rfl):PE X (.Compare a [op,oE] [b,c] pos) (yQ r r' ta tb tc):=by
 intro pins s σ H Q I h
 refine Compare_chain (thn (ha pins s σ H _ I h) λv s1 ⟨x,H1,I1,r1,q1⟩=>chain_link (thn (hb pins s1 σ H1 _ I1 q1) λu s2 ⟨y,H2,I2,r2,q2⟩=>
  thn (ho pins s2 σ H2 x y v u _ I2 r1 r2 q2) λd s3 ⟨z,H3,I3,r3,k,e,q3⟩=>?_)) hm
 subst e;cases r3;refine wpAny_truthy_bool ?_;cases k with
 |false=>exact ite_ff ⟨.bl false,H3,I3,rfl,q3⟩
 |true=>exact ite_tt (chain_last (thn (hc pins s3 σ H3 _ I3 q3) λw' s4 ⟨z',H4,I4,r4,q4⟩=>jl pins s4 σ H4 y z' u w' Q I4 r2 r4 q4))
theorem Fp{op oE:CmpOp}{r r':R2}(ho:OpR X (compareOp op) r)(jl:OpR X (compareOp oE) r')(ha:PE X a ta)(hb:PE X b tb)(hc:PE X c tc)
  (hm:lastMarks [op,oE] [b,c]=false:=by with_unfolding_all rfl):PT X (.Compare a [op,oE] [b,c] pos) (CF (yQ r r' ta tb tc)):=by
 intro pins s σ H Q I h
 refine isTrue_chain (thn (ha pins s σ H _ I h) λv s1 ⟨x,H1,I1,r1,q1⟩=>test_link (thn (hb pins s1 σ H1 _ I1 q1) λu s2 ⟨y,H2,I2,r2,q2⟩=>
  thn (ho pins s2 σ H2 x y v u _ I2 r1 r2 q2) λd s3 ⟨z,H3,I3,r3,k,e,q3⟩=>?_)) hm
 subst e;cases r3;refine wpAny_truthy_bool ?_;cases k with
 |false=>
  obtain ⟨k',e',q'⟩:=q3;cases e';exact ite_ff ⟨H3,I3,q'⟩
 |true=>
  refine ite_tt (test_last (thn (hc pins s3 σ H3 _ I3 q3) λw' s4 ⟨z',H4,I4,r4,q4⟩=>thn (jl pins s4 σ H4 y z' u w' _ I4 r2 r4 q4) λd' s5 ⟨z2,H5,I5,r5,k2,e2,q5⟩=>?_));subst e2;cases r5;exact wpAny_truthy_bool ⟨H5,I5,q5⟩
def LO(K:PySem.W.Frag)(x:V)(H:Hp)(k:Bool):Prop:=
 match x with
 | .aI=>k=false
 | .bl b=>k=b
 | .int i=>k=(i !=0)
 | .str y=>y.length≤sizeLine∧k=((y.length:Int) !=0)
 | .sj y=>y.size≤sizeLine∧k=((y.size:Int) !=0)
 | .ref p=>(∃xs,aD K H p xs∧k= !xs.isEmpty)∨(∃xs,cZ K H p xs∧k= !xs.isEmpty)∨∃dM,H p=some (.dK dM)∧k= !dM.isEmpty
 |_=>False
theorem zM{κ:Type}{dM:List (κ×V)}{vs:List (κ×Value)}(r:KV dM vs):(!vs.isEmpty)= !dM.isEmpty:=by
 cases r<;>rfl
theorem rH{xs:List V}{its:List Value}(r:Vals xs its):(!its.toArray.isEmpty)= !xs.isEmpty:=by
 cases r<;>simp
theorem j1:(sizeLine:Nat)<2^63:=by rw [sizeLine_eq];decide
theorem LC:PR X (λx H Q=>∃k,LO X.K x H k∧Q k H):=by
 intro pins s σ H x v Q I rx h;obtain ⟨k,e,q⟩:=h;have hl:=j1;have hs:sizeLine=16777216:=sizeLine_eq;cases x with
 |aI=>
  cases rx;have e':k=false:=e;subst e';exact truthy_none ⟨H,I,q⟩
 |bl b=>
  cases rx;have e':k=b:=e;subst e';exact wpAny_truthy_bool ⟨H,I,q⟩
 |int i=>
  obtain ⟨t,rfl⟩:=rx;have e':k=(i !=0):=e;subst e';exact PySem.P.truthy_int ⟨H,I,q⟩
 |str y=>
  obtain ⟨t,rfl⟩:=rx;obtain ⟨hy,e'⟩:y.length≤sizeLine∧k=((y.length:Int) !=0):=e;subst e';exact PySem.P.truthy_str (by omega) ⟨H,I.tok _,q⟩
 |sj y=>
  obtain ⟨t,rfl⟩:=rx;obtain ⟨hy,e'⟩:y.size≤sizeLine∧k=((y.size:Int) !=0):=e;subst e';exact PySem.W.truthy_bytes (by omega) ⟨H,I.tok _,q⟩
 |ref p=>
  cases rx;have e':(∃xs,aD X.K H p xs∧k= !xs.isEmpty)∨(∃xs,cZ X.K H p xs∧k= !xs.isEmpty)∨∃dM,H p=some (.dK dM)∧k= !dM.isEmpty:=e
  rcases e' with ⟨xs,hx,e'⟩ | ⟨xs,hx,e'⟩ | ⟨dM,hx,e'⟩
  ·subst e'
   obtain ⟨its,r,pl,hz⟩:=I.list hx;have hlen:=r.length;exact wpAny_truthy_list pl.isList (by simp only [dr];omega) ⟨H,I.tok _,by rw [rH r];exact q⟩
  ·subst e'
   obtain ⟨its,r,pl,hz⟩:=I.tuple hx;have hlen:=r.length;exact truthy_tuple pl (by simp only [dr];omega) ⟨H,I.tok _,by rw [rH r];exact q⟩
  ·subst e'
   obtain ⟨hz,hS,vs,r,m⟩:dM.length≤sizeLine∧(p==sysModules)=false∧∃vs,KV dM vs∧s.heap.DictOf (ur X.prog X.w) p vs:=I.hok p _ hx;have hlen:dM.length=vs.length:=Paired.length r;exact wpAny_truthy_dict hS m (by omega) ⟨H,I.tok _,by rw [zM r];exact q⟩
 |_=>exact (show False from e).elim
theorem Fq(ha:PE X a ta)(he:∀whole,isTrue a X.env whole=(do let v ←whole;standAt a.pos;holding [v] (truthy v))):
  PT X a (λσ H Q=>ta σ H λx H'=>∃k,LO X.K x H' k∧Q k H'):=by
 intro pins s σ H Q I h;exact isTrue_plain (thn (ha pins s σ H _ I h) λv s1 ⟨x,H1,I1,r1,q1⟩=>LC pins s1 σ H1 x v Q I1 r1 q1) (he _)
theorem vals1{x:V}{us:List Value}(r:Vals [x] us):∃u,us= [u]∧RelV x u:=by
 cases r with
 |cons r1 r2=>cases r2;exact ⟨_,rfl,r1⟩
theorem vals2{x y:V}{us:List Value}(r:Vals [x,y] us):∃u w',us= [u,w']∧RelV x u∧RelV y w':=by
 cases r with
 |cons r1 r2=>
  cases r2 with
  |cons r3 r4=>cases r4;exact ⟨_,_,rfl,r1,r3⟩
theorem A4(hc:X.calm=true):bQ X (.builtin "max") (λxs H Q=>∃i j,xs= [.int i, .int j]∧Q (.int (if j>i then j else i)) H):=by
 intro pins s σ H xs us Q I r h;obtain ⟨i,j,rfl,q⟩:=h;obtain ⟨u,w',rfl,⟨t,rfl⟩,⟨t',rfl⟩⟩:=vals2 r;refine max_two_ints (I.ok.hd hc) λh' tk k=>⟨_,H,I.kept k,?_,q⟩
 by_cases hj:j>i
 ·rw [if_pos hj,if_pos hj];exact ⟨_,rfl⟩
 ·rw [if_neg hj,if_neg hj];exact ⟨_,rfl⟩
theorem A6(hc:X.calm=true):bQ X (.builtin "min") (λxs H Q=>∃i j,xs= [.int i, .int j]∧Q (.int (if j<i then j else i)) H):=by
 intro pins s σ H xs us Q I r h;obtain ⟨i,j,rfl,q⟩:=h;obtain ⟨u,w',rfl,⟨t,rfl⟩,⟨t',rfl⟩⟩:=vals2 r;refine min_two_ints (I.ok.hd hc) λh' tk k=>⟨_,H,I.kept k,?_,q⟩
 by_cases hj:j<i
 ·rw [if_pos hj,if_pos hj];exact ⟨_,rfl⟩
 ·rw [if_neg hj,if_neg hj];exact ⟨_,rfl⟩
theorem A3:bQ X (.type "int") (λxs H Q=>(∃i,xs= [.int i]∧Q (.int i) H)∨∃k,xs= [.bl k]∧Q (.int (if k then 1 else 0)) H):=by
 intro pins s σ H xs us Q I r h
 rcases h with ⟨i,rfl,q⟩ | ⟨k,rfl,q⟩
 ·obtain ⟨u,rfl,t,rfl⟩:=vals1 r
  exact call_int_int ⟨.int i,H,I,⟨_,rfl⟩,q⟩
 ·obtain ⟨u,rfl,r1⟩:=vals1 r
  cases r1;exact call_int_bool ⟨.int (if k then 1 else 0),H,I.tok _,⟨_,rfl⟩,q⟩
end
structure tD (h:Heap) (x dx C:Addr) (mA:Str→Option Value):Prop where
 obj:h.get? x=some (PySem.W.instObj C dx)
 ns:h.Ns1 dx mA
 ne:dx≠x
theorem BU{h:Heap}{dx:Addr}{mA:Str→Option Value}(n:h.Ns1 dx mA):∃od,h.get? dx=some od∧∀name,PySem.W.lookIn name od=some (mA name):=by
 obtain ⟨o,es,ep,ho,hd,hk,_,hm⟩:=n;refine ⟨o,ho,λname=>?_⟩;have e:=hm name;unfold nsFind findBy at e;rw [←Array.find?_toList] at e;unfold PySem.W.lookIn;rw [hd];dsimp only
 split
 ·rename_i y q
  rw [q] at e;exact congrArg some e
 ·rename_i q
  rw [q] at e
  have a:es.toList.any (·.refKey)=false:=by
   rw [List.any_eq_false];intro y hy;obtain ⟨z,t,Sf⟩:=hk y (Array.mem_toList_iff.mp hy);simp [DictEntry.refKey,Sf]
  have a':¬es.toList.any (·.refKey)=true:=by rw [a];exact cB
  rw [if_neg a'];exact congrArg some e
theorem tD.look{h:Heap}{x dx C:Addr}{mA:Str→Option Value}(I:tD h x dx C mA):∃od,PySem.W.InstAt h x (PySem.W.instObj C dx) C (some od)∧∀name,PySem.W.lookIn name od=some (mA name):=
 let ⟨od,ho,hl⟩:=BU I.ns
 ⟨od,⟨I.obj,rfl,rfl,ho⟩,hl⟩
section
variable {prog:Program} {w:World} {A:Around} {E:Value→Shared→Prop} {s:Shared} {K:PySem.W.Frag} {x dx C f:Addr} {mA:Str→Option Value} {name:Str} {v:Value}
theorem get_map{expr:Bool}{Q:Value→Shared→Prop}(X:K.In s.heap)(I:tD s.heap x dx C mA)(hg:PySem.W.plainGet K C name=true)(hh:PySem.W.hasDictIn K C=true)
  (ha:PySem.W.findIn K (.ref C) name=some none) (hv:mA name=some v) (qC:PySem.W.handedIn v=true) (h:Q v {s with toks:=s.toks+1}):
  wpAny (model prog w) A (getAttr (.ref x) name expr) Q E s:=by
 obtain ⟨od,J,hl⟩:=I.look;exact PySem.W.get_value X J (PySem.W.plainGet_of hg).1 (PySem.W.findObj_own hh ha rfl (by rw [hl,hv])) qC h
theorem EA{pl:Sem Bool}{Q:Value×List Value→Shared→Prop}(X:K.In s.heap)(I:tD s.heap x dx C mA)(hg:PySem.W.plainGet K C name=true)
  (hf:PySem.W.findIn K (.ref C) name=some (some (.ref f))) (ht:PySem.W.isFn K (.ref f)=true) (hv:mA name=none) (h:Q (.ref f,[.ref x]) s):
  wpAny (model prog w) A (getMethod (.ref x) name pl) Q E s:=by
 obtain ⟨od,J,hl⟩:=I.look;exact PySem.W.method_fn X J (PySem.W.plainGet_of hg).1 (PySem.W.plainGet_of hg).2 hf (beq_iff_eq.mp ht) (by show (PySem.W.lookIn name od).map (·.isSome)=some false;rw [hl,hv];rfl) h
theorem IY{ns:List Str}{Q:Unit→Shared→Prop}(X:K.In s.heap)(I:tD s.heap x dx C mA)
  (hs:PySem.W.findIn K (.ref C) "__setattr__"=some (some (.builtin "object.__setattr__"))) (hp:PySem.W.plainOver K C=true) (ht:PySem.W.takerIn K C name=some none) (hh:PySem.W.hasDictIn K C=true)
  (hw:PySem.Within mA ns) (fk:ns.length≤sizeLine)
  (h:∀h',tD h' x dx C (λy=>if y=name then some v else mA y)→Heap.SameBut dx s.heap h'→Q () {s with heap:=h',toks:=s.toks+2}):
  wpAny (model prog w) A (setAttr (.ref x) name v) Q E s:=by
 obtain ⟨od,J,hl⟩:=I.look;refine PySem.W.set_plain X J hs (PySem.W.osa_open (s:={s with toks:=s.toks+1}) (r:=none) X J hp ht λb=>?_)
 obtain ⟨cd,hc,iT⟩:=PySem.W.any_some hh;have hx:s.heap.get? x=some ⟨.ref C,some dx, .plain, #[]⟩:=I.obj;refine wpAny_bind (wpAny_pure (wpAny_bind (wpAny_bind (wpAny_loadPart hx (wpAny_bind (PySem.W.Looks.here (s:={s with toks:=s.toks+1}) (PySem.W.looks_clsIn X hc) ?_))))))
 rw [iT];refine wpAny_pure (a:=some dx) (wpAny_bind (wpAny_pure (wpAny_bind ?_)));refine wpAny_nsSet1 (s:={s with toks:=s.toks+1}) I.ns λh' vG qB=>?_
 obtain ⟨oD,esD,epD,Yu,X3,X0⟩:=vG.count (PySem.Within.cons name v hw);refine wpAny_bind (wpAny_lookBehind Yu (by rw [X3];exact pastItsLine_dict (jP X0 (by rw [cx];omega))) ?_)
 exact wpAny_pure (h _ ⟨(qB.2 _ (Ne.symm I.ne)).trans I.obj,vG,I.ne⟩ qB)
theorem E5{R:Result→Shared→Prop}{vs:List Value}{kw:List (Str×Value)}(X:K.In s.heap)(hm:PySem.W.makesIn K C=true)
  (hi:PySem.W.findIn K (.ref C) "__init__"=some (some (.ref f))) (hf:PySem.W.typeIn K (.ref f)=some (.type "function"))
  (h:codeAny (model prog w) (A.under (.builtin "type.__call__" ⟨.ref C::vs,kw⟩)) (.call (.ref f) ⟨.ref (s.heap.objs.size+1)::vs,kw⟩) (PySem.W.InitBack (s.heap.objs.size+1) R)
   {s with heap:=(s.heap.push PySem.W.emptyDict).push (PySem.W.instObj C s.heap.objs.size)}):
  codeAny (model prog w) A (.call (.ref C) ⟨vs,kw⟩) R s:=by
 obtain ⟨hh,g,d,t,os⟩:=s;exact PySem.W.make_core (PySem.W.makes_of X hm) (PySem.W.looks_findIn X hi) (λself=>PySem.W.bind_fn X self hf) (.inl rfl) h
end
def g6(f:Str)(v:V):List (Str×V)→List (Str×V)
 | []=> [(f,v)]
 | (g,x)::r=>if g=f then (g,v)::r else (g,x)::g6 f v r
theorem pL(f g:Str)(v:V):∀fs:List (Str×V),(g6 f v fs).lookup g=if g=f then some v else fs.lookup g
 | []=>by
  show List.lookup g [(f,v)]=_
  by_cases h:g=f
  ·have hb:(g==f)=true:=beq_iff_eq.mpr h
   simp only [List.lookup,hb,if_pos h]
  ·have hb:(g==f)=false:=beq_eq_false_iff_ne.mpr h
   simp only [List.lookup,hb,if_neg h]
 | (k,x)::r=>by
  have ih:=pL f g v r;rw [show g6 f v ((k,x)::r)=(if k=f then (k,v)::r else (k,x)::g6 f v r) from rfl]
  by_cases hk:k=f
  ·rw [if_pos hk]
   by_cases h:g=k
   ·have hb:(g==k)=true:=beq_iff_eq.mpr h
    simp only [List.lookup,hb,if_pos (h.trans hk)]
   ·have hb:(g==k)=false:=beq_eq_false_iff_ne.mpr h
    simp only [List.lookup,hb,if_neg (λe:g=f=>h (e.trans hk.symm))]
  ·rw [if_neg hk]
   by_cases h:g=k
   ·have hb:(g==k)=true:=beq_iff_eq.mpr h
    simp only [List.lookup,hb,if_neg (λe:g=f=>hk (h.symm.trans e))]
   ·have hb:(g==k)=false:=beq_eq_false_iff_ne.mpr h
    simp only [List.lookup,hb];exact ih
theorem oe(f:Str)(v:V):∀fs:List (Str×V),f∈(g6 f v fs).map (·.1)∧∀g,g∈fs.map (·.1)→g∈(g6 f v fs).map (·.1)
 | []=>⟨by simp [g6],λg h=>by simp at h⟩
 | (k,x)::r=>by
  obtain ⟨i1,i2⟩:=oe f v r;rw [show g6 f v ((k,x)::r)=(if k=f then (k,v)::r else (k,x)::g6 f v r) from rfl]
  by_cases hk:k=f
  ·rw [if_pos hk]
   subst hk;exact ⟨by simp,λg h=>by simpa using h⟩
  ·rw [if_neg hk]
   refine ⟨?_,λg h=>?_⟩
   ·rw [fF]
    exact cm _ i1
   ·rw [fF] at h ⊢
    rcases cy.mp h with e|e
    ·exact cy.mpr (.inl e)
    ·exact cm _ (i2 g e)
theorem pI(f:Str)(v:V):∀fs:List (Str×V),(g6 f v fs).length≤fs.length+1
 | []=>by simp [g6]
 | (k,x)::r=>by
  have ih:=pI f v r;rw [show g6 f v ((k,x)::r)=(if k=f then (k,v)::r else (k,x)::g6 f v r) from rfl]
  by_cases hk:k=f
  ·rw [if_pos hk,cx,cx];omega
  ·rw [if_neg hk,cx,cx];omega
theorem m7.some_of{v:V}{o:Option Value}(r:m7 (some v) o):∃u,o=some u∧RelV v u:=by
 cases o with
 |none=>exact (show False from r).elim
 |some u=>exact ⟨u,rfl,r⟩
theorem m7.none_of{o:Option Value}(r:m7 none o):o=none:=by
 cases o with
 |none=>rfl
 |some u=>exact (show False from r).elim
theorem Bu{v:V}{u:Value}(r:RelV v u):PySem.W.handedIn u=true:=by
 cases v with
 |aI=>cases (show u=Value.none from r);rfl
 |bl b=>cases (show u=Value.bool b from r);rfl
 |int i=>obtain ⟨t,e⟩:=(show ∃t,u=Value.int i t from r);cases e;rfl
 |str x=>obtain ⟨t,e⟩:=(show ∃t,u=Value.str x t from r);cases e;rfl
 |sj b=>obtain ⟨t,e⟩:=(show ∃t,u=Value.bytes b t from r);cases e;rfl
 |Bm b=>obtain ⟨t,e⟩:=(show ∃t,u=Value.float b t from r);cases e;rfl
 |ref a=>cases (show u=Value.ref a from r);rfl
 |ty n=>cases (show u=Value.type n from r);rfl
section
variable {P:Program} {w:World} {H H':Hp} {h h':Heap} {a C dx:Addr} {fs Bp:List (Str×V)}
theorem pC(hok:hU P w H h)(e:H a=some (.ins C dx fs)):∃mA,tD h a dx C mA∧(∀f,m7 (fs.lookup f) (mA f))∧PySem.Within mA (fs.map (·.1))∧fs.length≤1000∧H dx=some (.own a):=by
 obtain ⟨d,z,ne,ob,mA,n,r,q⟩:=(show cC P w H h a (.ins C dx fs) from hok a _ e);exact ⟨mA,⟨ob,n,ne⟩,r,q,z,d⟩
end
structure tq (K:PySem.W.Frag) (C:Addr):Prop where
 pg:PySem.W.plainGet K C Str.empty=true
 hd:PySem.W.hasDictIn K C=true
 po:PySem.W.plainOver K C=true
 sa:PySem.W.findIn K (.ref C) "__setattr__"=some (some (.builtin "object.__setattr__"))
theorem tq.get{K:PySem.W.Frag}{C:Addr}(c:tq K C)(f:Str):PySem.W.plainGet K C f=true:=c.pg
def jQ(K:PySem.W.Frag)(C:Addr)(f:Str):Prop:=PySem.W.findIn K (.ref C) f=some none
theorem jQ.Pt{K:PySem.W.Frag}{C:Addr}{f:Str}(n:jQ K C f):PySem.W.takerIn K C f=some none:=by
 unfold PySem.W.takerIn;rw [show PySem.W.findIn K (.ref C) f=some none from n];rfl
structure Meth (K:PySem.W.Frag) (C:Addr) (m:Str) (f:Addr):Prop where
 at_:PySem.W.findIn K (.ref C) m=some (some (.ref f))
 fn:PySem.W.isFn K (.ref f)=true
 kp:PySem.W.keepIn K (.ref f)=true
section
variable {X:Cx} {pins:List (Addr×Obj)} {σ:St} {H:Hp} {s:Shared} {a C dx:Addr} {fs:List (Str×V)} {f:Str} {v:V} {A:Around} {E:Value→Shared→Prop}
theorem zy{b:Bool}{Q:Value→Shared→Prop}(I:Inv X pins σ H s)(e:H a=some (.ins C dx fs))(c:tq X.K C)(n:jQ X.K C f)(l:fs.lookup f=some v)
  (h:∀u s',Inv X pins σ H s'→RelV v u→Q u s'):wpAny (model X.prog X.w) A (getAttr (.ref a) f b) Q E s:=by
 obtain ⟨mA,O,r,_,_,_⟩:=pC I.hok e;obtain ⟨u,hu,ru⟩:=m7.some_of (v:=v) (o:=mA f) (by rw [←l];exact r f)
 exact get_map I.gQ O (c.get f) c.hd n hu (Bu ru) (h u _ (I.tok _) ru)
theorem rD{m:Str}{g:Addr}{pl:Sem Bool}{Q:Value×List Value→Shared→Prop}(I:Inv X pins σ H s)(e:H a=some (.ins C dx fs))(c:tq X.K C)(k:Meth X.K C m g)(l:fs.lookup m=none)
  (h:Q (.ref g,[.ref a]) s):wpAny (model X.prog X.w) A (getMethod (.ref a) m pl) Q E s:=by
 obtain ⟨mA,O,r,_,_,_⟩:=pC I.hok e;have hn:mA m=none:=m7.none_of (by rw [←l];exact r m)
 exact EA I.gQ O (c.get m) k.at_ k.fn hn h
theorem Ao{y:V}{u:Value}{Q:Unit→Shared→Prop}(I:Inv X pins σ H s)(e:H a=some (.ins C dx fs))(c:tq X.K C)(n:jQ X.K C f)(hl:fs.length<1000)(ry:RelV y u)
  (h:∀s',Inv X pins σ (upd H a (.ins C dx (g6 f y fs))) s'→Q () s'):wpAny (model X.prog X.w) A (setAttr (.ref a) f u) Q E s:=by
 obtain ⟨mA,O,r,wi,_,ho⟩:=pC I.hok e;have hz:(fs.map (·.1)).length≤sizeLine:=by rw [aM,sizeLine_eq];omega
 refine IY I.gQ O c.sa c.po n.Pt c.hd wi hz λh' O' sb=>h _ ?_;have hd:∃o,h'.get? dx=some o:=let ⟨o,_,_,e',_⟩:=O'.ns;⟨o,e'⟩;refine I.write (x:=a) (e:=dx) (by rw [e];exact True.intro) (.inr ho) (λb q hb z=>(sb.2 b hb).trans z) hd ?_
 refine ⟨by rw [ab O.ne];exact ho,?_,O.ne,O'.obj,_,O'.ns,λg=>?_,λg hg=>?_⟩
 ·have:=pI f y fs;omega
 ·show m7 ((g6 f y fs).lookup g) (if g=f then some u else mA g)
  rw [pL]
  by_cases q:g=f
  ·rw [if_pos q,if_pos q];exact ry
  ·rw [if_neg q,if_neg q];exact r g
 ·by_cases q:g=f
  ·rw [q];exact (oe f y fs).1
  ·refine (oe f y fs).2 g (wi g λz=>hg ?_)
   show (if g=f then some u else mA g)=none;rw [if_neg q];exact z
theorem Inv.made(I:Inv X pins σ H s):Inv X pins σ (upd (upd H s.heap.objs.size (.own (s.heap.objs.size+1))) (s.heap.objs.size+1) (.ins C s.heap.objs.size []))
  {s with heap:=(s.heap.push PySem.W.emptyDict).push (PySem.W.instObj C s.heap.objs.size)}:=by
 have e1:(s.heap.push PySem.W.emptyDict).get? s.heap.objs.size=some PySem.W.emptyDict:=Heap.get?_push_size s.heap rfl
 have e2:((s.heap.push PySem.W.emptyDict).push (PySem.W.instObj C s.heap.objs.size)).get? (s.heap.objs.size+1)=some (PySem.W.instObj C s.heap.objs.size):=by
  have:=Heap.get?_push_size (s.heap.push PySem.W.emptyDict) (o:=PySem.W.instObj C s.heap.objs.size) rfl
  rwa [Heap.size_push] at this
 have e3:(s.heap.push PySem.W.emptyDict).Ns s.heap.objs.size (λ_=>none):=⟨PySem.W.emptyDict, #[],_,e1,rfl,(λe he=>absurd he (by simp)),λ_=>rfl⟩
 have I1:=I.laid (a:=s.heap.objs.size) (o:= .own (s.heap.objs.size+1)) (h':=s.heap.push PySem.W.emptyDict) (t':=s.toks) (λb u q=>Heap.get?_push_of_some _ q) (aT _) ⟨_,e1⟩;refine I1.laid (a:=s.heap.objs.size+1) (o:= .ins C s.heap.objs.size []) (t':=s.toks) (λb u q=>Heap.get?_push_of_some _ q) (Nat.le_of_eq (Heap.size_push _ _)) ?_;have ne:s.heap.objs.size≠s.heap.objs.size+1:=bI (Nat.lt_succ_self _);refine ⟨by rw [ab ne,aa],cW _,ne,e2,λ_=>none,(Heap.Ns1.of_empty e3).at λo q=>Heap.get?_push_of_some _ q,λ_=>True.intro,λy hy=>absurd rfl hy⟩
theorem FQ{prog:Program}{w:World}{env:Env}{e:Expr}{f:Str}{pos:Pos}{s:Shared}{Q:Value→Shared→Prop}(hb:attributeBase e f env (eval e env)=eval e env)
  (h:wpAny (model prog w) A (eval e env) (λo s₁=>wpAny (model prog w) A (getAttr o f true) Q E s₁) E s):wpAny (model prog w) A (eval (.Attribute e f pos) env) Q E s:=
 Attribute_any_ h (by rw [arm_eval_Attribute,hb])
end
def VE(K:PySem.W.Frag)(ta:TE)(f:Str):TE:=λσ H Q=>ta σ H λx H1=>∃a C dx fs v,x= .ref a∧H1 a=some (.ins C dx fs)∧tq K C∧jQ K C f∧fs.lookup f=some v∧Q v H1
def Vc(K:PySem.W.Frag)(ta tv:TE)(f:Str):TS:=λD σ H=>tv σ H λy H1=>ta σ H1 λx H2=>∃a C dx fs,x= .ref a∧H2 a=some (.ins C dx fs)∧tq K C∧jQ K C f∧fs.length<1000∧
 D.nx σ (upd H2 a (.ins C dx (g6 f y fs)))
section
variable {X:Cx} {o e value:Expr} {f:Str} {pos pos' aao:Pos} {ta tv:TE}
theorem KY(he:PE X e ta)(hb:attributeBase e f X.env (eval e X.env)=eval e X.env):PE X (.Attribute e f pos) (VE X.K ta f):=by
 intro pins s σ H Q I h;refine FQ hb (thn (he pins s σ H _ I h) λu s1 ⟨x,H1,I1,rx,a,C,dx,fs,v,ex,ea,c,n,l,q⟩=>?_);subst ex;obtain rfl:u=Value.ref a:=rx;exact zy I1 ea c n l λu' s2 I2 ru=>⟨v,H1,I2,ru,q⟩
theorem K6(ha:PE X o ta)(hv:PE X value tv)(hs:swapsWith value (some (.Attribute o f pos')) pos.line X.env=pure false):PS X (.Assign [.Attribute o f pos'] value pos) (Vc X.K ta tv f):=by
 intro pins s σ H D I h;refine plainObj_wpAny_Assign_Attribute (thn (hv pins s σ H _ I h) λu s1 ⟨y,H1,I1,ry,q⟩=>thn (ha pins s1 σ H1 _ I1 q) λov s2 ⟨x,H2,I2,rx,a,C,dx,fs,ex,ea,c,n,l,q2⟩=>?_) hs;subst ex;obtain rfl:ov=Value.ref a:=rx;exact Ao I2 ea c n l ry λs3 I3=>⟨σ,_,I3,q2⟩
end
section
variable {X:Cx} {pins:List (Addr×Obj)} {σ:St} {H:Hp} {s:Shared} {A:Around} {E:Value→Shared→Prop} {Q:Value→Shared→Prop} {c:Value} {b:Bool}
inductive iW (K:PySem.W.Frag) (H:Hp):V→Value→Prop where
 |aI:iW K H .aI (.type "NoneType")
 |bl (x:Bool):iW K H (.bl x) (.type "bool")
 |int (i:Int):iW K H (.int i) (.type "int")
 |str (x:Str):iW K H (.str x) (.type "str")
 |Bm (x:UInt64):iW K H (.Bm x) (.type "float")
 |lst {a:Addr} {xs:List V} (e:H a=some (.lst xs)):iW K H (.ref a) (.type "list")
 |ph {a:Addr} {o:Obj} {xs:List V} (e:H a=some (.ph o (.lst xs))):iW K H (.ref a) (.type "list")
 |tup {a:Addr} {xs:List V} (e:H a=some (.tup xs)):iW K H (.ref a) (.type "tuple")
 |dK {a:Addr} {dM:List (Key×V)} (e:H a=some (.dK dM)):iW K H (.ref a) (.type "dict")
 |dT {a:Addr} {dM:List (List Key×V)} (e:H a=some (.dT dM)):iW K H (.ref a) (.type "dict")
 |ins {a C dx:Addr} {fs:List (Str×V)} (e:H a=some (.ins C dx fs)) (cl:tq K C) (ha:PySem.W.findIn K (.ref C) "__class__"=some (some (.builtin "object.__class__")))
   (hn:PySem.W.specialIn K (.builtin "object.__class__") "__get__"=some (some (.builtin "getset_descriptor.__get__"))) (SF:PySem.W.takesIn K (.builtin "object.__class__")=some true)
   (hm:PySem.W.mroIn K C (.type "object")=some true):iW K H (.ref a) (.ref C)
theorem BM{x:V}{u t:Value}(I:Inv X pins σ H s)(rx:RelV x u)(ty:iW X.K H x t)(e:PySem.W.kitOne X.K t c=some b)(h:∀tk,Q (.bool b) {s with toks:=tk}):
  wpAny (model X.prog X.w) A (call (.builtin "isinstance") [u,c]) Q E s:=by
 cases ty with
 |aI=>cases (show u=Value.none from rx);exact PySem.W.kia_one PySem.W.kitx_none I.gQ True.intro e (λz=>nomatch z) h
 |bl y=>cases (show u=Value.bool y from rx);exact PySem.W.kia_one PySem.W.kitx_bool I.gQ True.intro e (λz=>nomatch z) h
 |int i=>obtain ⟨t,q⟩:=(show ∃t,u=Value.int i t from rx);cases q;exact PySem.W.kia_one PySem.W.kitx_int I.gQ True.intro e (λz=>nomatch z) h
 |str y=>obtain ⟨t,q⟩:=(show ∃t,u=Value.str y t from rx);cases q;exact PySem.W.kia_one PySem.W.kitx_str I.gQ True.intro e (λz=>nomatch z) h
 |Bm y=>obtain ⟨t,q⟩:=(show ∃t,u=Value.float y t from rx);cases q;exact PySem.W.kia_one PySem.W.kitx_float I.gQ True.intro e (λz=>nomatch z) h
 | @lst a xs ea=>
  cases (show u=Value.ref a from rx);obtain ⟨_,_,n,_,h1⟩:=(show cC X.prog X.w H s.heap a (.lst xs) from I.hok a _ ea);exact PySem.W.kia_one PySem.W.kitx_list I.gQ ⟨_,h1,rfl⟩ e (λz=>nomatch z) h
 | @ph a ob xs ea=>
  cases (show u=Value.ref a from rx);obtain ⟨_,_,_,n,_,h1⟩:=(show cC X.prog X.w H s.heap a (.ph ob (.lst xs)) from I.hok a _ ea);exact PySem.W.kia_one PySem.W.kitx_list I.gQ ⟨_,h1,rfl⟩ e (λz=>nomatch z) h
 | @tup a xs ea=>
  cases (show u=Value.ref a from rx);obtain ⟨_,_,_,p⟩:=(show cC X.prog X.w H s.heap a (.tup xs) from I.hok a _ ea);obtain ⟨o,h1,h2,_⟩:=p;exact PySem.W.kia_one PySem.W.kitx_tuple I.gQ ⟨o,h1,h2⟩ e (λz=>nomatch z) h
 | @dK a dM ea=>
  cases (show u=Value.ref a from rx);obtain ⟨_,_,vs,_,p⟩:=(show cC X.prog X.w H s.heap a (.dK dM) from I.hok a _ ea);obtain ⟨o,es,ep,h1,h2,_⟩:=p;exact PySem.W.kia_one PySem.W.kitx_dict I.gQ ⟨o,h1,h2.1⟩ e (λz=>nomatch z) h
 | @dT a dM ea=>
  cases (show u=Value.ref a from rx);obtain ⟨_,_,xs,_,o,es,ep,h1,h2,_⟩:=(show cC X.prog X.w H s.heap a (.dT dM) from I.hok a _ ea);exact PySem.W.kia_one PySem.W.kitx_dict I.gQ ⟨o,h1,h2.1⟩ e (λz=>nomatch z) h
 | @ins a C dx fs ea cl ha hn SF hm=>
  cases (show u=Value.ref a from rx);obtain ⟨mA,O,_⟩:=pC I.hok ea;obtain ⟨od,J,_⟩:=O.look;exact PySem.W.kia_one (PySem.W.kitx_own (cl.get _) cl.hd ha hn SF hm) I.gQ J e (λz=>nomatch z) h
end
structure b8 (k:Nat) (A:Around):Prop where
 hd:A.handled=none
 dp:A.depth+3*k+5<recursionLimit
 un:A.units+16*k+200<cLine
theorem b8.mono{j k:Nat}{A:Around}(r:b8 k A)(h:j≤k):b8 j A:=⟨r.hd,by have:=r.dp;omega,by have:=r.un;omega⟩
theorem b8.deeper{k:Nat}{A:Around}(r:b8 (k+1) A)(env:Env):b8 k (A.deeper env):=
 ⟨r.hd,by have:=r.dp;show A.depth+1+3*k+5<_;omega,by have:=r.un;show A.units+3+16*k+200<_;omega⟩
theorem zY{A:Around}{C:Addr}{us:List Value}{kw:List (Str×Value)}:(A.under (.builtin "type.__call__" ⟨.ref C::us,kw⟩)).depth=A.depth+1:=by
 first|rfl|simp [Around.under,Code.weight,Code.isCreation,Code.isGuard,Code.isCaller,Code.frames,Code.isFrame,guardIds]
theorem zZ{A:Around}{C:Addr}{us:List Value}{kw:List (Str×Value)}:(A.under (.builtin "type.__call__" ⟨.ref C::us,kw⟩)).units=A.units+1:=by
 first|rfl|simp [Around.under,Code.cUnits,Code.frames,Code.isFrame]
theorem b8.make{k:Nat}{A:Around}(r:b8 (k+1) A)(C:Addr)(us:List Value)(kw:List (Str×Value)):b8 k (A.under (.builtin "type.__call__" ⟨.ref C::us,kw⟩)):=
 ⟨r.hd,by have:=r.dp;rw [zY];omega,by have:=r.un;rw [zZ];omega⟩
theorem b8.depth{k:Nat}{A:Around}(r:b8 k A):A.depth<recursionLimit:=by have:=r.dp;omega
theorem b8.units{k:Nat}{A:Around}(r:b8 k A):A.units+64<cLine:=by have:=r.un;omega
def MT:TA:=λ_ H Q=>Q [] H
def Pk(ta:TE)(tr:TA):TA:=λσ H Q=>ta σ H λx H1=>tr σ H1 λxs H2=>Q (x::xs) H2
section
variable {X:Cx} {e:Expr} {es:List Expr} {te:TE} {t:TA} {pos:Pos}
theorem ar:PA X [] MT:=λ_ _ _ _ H Q I h=>Calls.spliced_nil ⟨[],H,I, .nil,h⟩
theorem ae(ha:PE X e te)(hr:PA X es t)(hs:starEach (e::es) X.env=(false,eval e X.env)::starEach es X.env:=by rfl):PA X (e::es) (Pk te t):=by
 intro pos pins s σ H Q I h;rw [hs];show wpAny _ _ (spliced ((false,eval e X.env)::backTo pos (starEach es X.env))) _ _ s;refine Calls.spliced_cons (thn (ha pins s σ H _ I h) λu s1 ⟨x,H1,I1,r1,q1⟩=>?_);exact thn (hr pos pins s1 σ H1 _ I1 q1) λus s2 ⟨xs,H2,I2,r2,q2⟩=>⟨x::xs,H2,I2, .cons r1 r2,q2⟩
def VM(t:TA):TE:=λσ H Q=>t σ H λxs H1=>xs.length≤sizeLine∧∀p,H1 p=none→Q (.ref p) (upd H1 p (.tup xs))
def VH(t:TA):TE:=λσ H Q=>t σ H λxs H1=>xs.length≤sizeLine∧∀p,H1 p=none→Q (.ref p) (upd H1 p (.lst xs))
theorem sW{x1}(h:PA X es t):PE X (.Tuple es x1 pos) (VM t):=by
 intro pins s σ H Q I hq;refine wpAny_Tuple_spliced (thn (h pos pins s σ H _ I hq) λus s1 ⟨xs,H1,I1,r,z,q⟩=>⟨by rw [←r.length];exact z,?_⟩)
 have hf:H1 s1.heap.objs.size=none:=I1.hok.fresh (aT _);refine ⟨.ref s1.heap.objs.size,upd H1 s1.heap.objs.size (.tup xs),I1.laid (t':=s1.toks) (λb u e=>Heap.get?_push_of_some _ e) (aT _) ?_,rfl,q _ hf⟩;exact ⟨z,us,r,⟨_,Heap.get?_push_size _ rfl,rfl,_,rfl⟩⟩
theorem cY(h:PA X es t):PE X (.List es pos) (VH t):=by
 intro pins s σ H Q I hq;refine wpAny_List_spliced (thn (h pos pins s σ H _ I hq) λus s1 ⟨xs,H1,I1,r,z,q⟩=>⟨by rw [←r.length];exact z,?_⟩)
 have hf:H1 s1.heap.objs.size=none:=I1.hok.fresh (aT _);refine ⟨.ref s1.heap.objs.size,upd H1 s1.heap.objs.size (.lst xs),I1.laid (t':=s1.toks) (λb u e=>Heap.get?_push_of_some _ e) (aT _) ?_,rfl,q _ hf⟩;exact ⟨z,us,0,r,Heap.get?_push_size _ rfl⟩
end
abbrev Sp:=List V→Hp→VK→XK→Prop
abbrev qq:=List Env→Hp→Shared→XK→Value→Shared→Prop
structure Env0 (P:Program) (w:World) (K:PySem.W.Frag) (mg:Str→Option Value) (base:Heap) (A:Around) (outer:List Env) (s:Shared) (H:Hp):Prop where
 frames:A.frames=some outer
 mod:Mod K mg base
 bs:∀b o,base.get? b=some o→s.heap.get? b=some o∧H b=none
 bsz:base.objs.size≤s.heap.objs.size
 funs:s.heap.FunFrames base outer
 frf:∀b∈tW outer,H b=none
 hok:hU P w H s.heap
 bare:AllBare s.gens
def CE(outer:List Env)(P:Program)(w:World)(H:Hp)(s:Shared)(Q:VK)(u:Value)(s':Shared):Prop:=
 ∃v H',s'.os=s.os∧AllBare s'.gens∧Un (tW outer) [] H H' s.heap s'.heap∧hU P w H' s'.heap∧RelV v u∧Q v H'
def CR(CX:qq)(outer:List Env)(P:Program)(w:World)(H:Hp)(s:Shared)(Q:VK)(E:XK)(r:Result)(s':Shared):Prop:=
 match r with
 | .ok (.ret u)=>CE outer P w H s Q u s'
 | .ok _=>False
 | .error e=>CX outer H s E e s'
structure FnOk (P:Program) (w:World) (K:PySem.W.Frag) (mg:Str→Option Value) (base:Heap) (CX:qq) (k:Nat) (f:Addr) (fd:FuncData) (ps:List Str) (sp:Sp):Prop where
 len:∀vs H Q E,sp vs H Q E→vs.length=ps.length
 run:∀(A:Around)(outer:List Env)(s:Shared)(H:Hp)(args:Args)(us:List Value)(vs:List V)(Q:VK)(E:XK),b8 k A→Env0 P w K mg base A outer s H→BindsTo s fd args (ps.zip us)→Vals vs us→sp vs H Q E→
  codeAny (model P w) A (.call (.ref f) args) (CR CX outer P w H s Q E) s
theorem FnOk.mono{P:Program}{w:World}{K:PySem.W.Frag}{mg:Str→Option Value}{base:Heap}{CX:qq}{j k:Nat}{f:Addr}{fd:FuncData}{ps:List Str}{sp:Sp}(F:FnOk P w K mg base CX j f fd ps sp)(h:j≤k):
  FnOk P w K mg base CX k f fd ps sp:=⟨F.len,λA outer s H args us vs Q E hr=>F.run A outer s H args us vs Q E (hr.mono h)⟩
theorem FnOk.imp{P:Program}{w:World}{K:PySem.W.Frag}{mg:Str→Option Value}{base:Heap}{CX:qq}{k:Nat}{f:Addr}{fd:FuncData}{ps:List Str}{sp Vu:Sp}(F:FnOk P w K mg base CX k f fd ps sp)
  (h:∀vs H Q E,Vu vs H Q E→sp vs H Q E):FnOk P w K mg base CX k f fd ps Vu:=
 ⟨λvs H Q E q=>F.len vs H Q E (h _ _ _ _ q),λA outer s H args us vs Q E hr he hb hv hs=>F.run A outer s H args us vs Q E hr he hb hv (h _ _ _ _ hs)⟩
theorem Env0.make{P:Program}{w:World}{K:PySem.W.Frag}{mg:Str→Option Value}{base:Heap}{A:Around}{outer:List Env}{s:Shared}{H:Hp}(e:Env0 P w K mg base A outer s H)(C:Addr)(us:List Value)(kw:List (Str×Value)):
  Env0 P w K mg base (A.under (.builtin "type.__call__" ⟨.ref C::us,kw⟩)) outer s H:=⟨by first|exact e.frames| (simpa [Around.under,Code.envs,Code.isFrame,pushEnvs] using e.frames),e.mod,e.bs,e.bsz,e.funs,e.frf,e.hok,e.bare⟩
section
variable {X:Cx} {pins:List (Addr×Obj)} {σ:St} {H:Hp} {s s':Shared}
theorem Inv.Me(I:Inv X pins σ H s):Env0 X.prog X.w X.K X.mg X.base X.A X.stack s H:=
 ⟨I.ok.frames,I.ok.mod,I.bs,jP I.ok.bsz I.sz,I.stack,I.As,I.hok,I.bare⟩
theorem Inv.after{Q:VK}{u:Value}(I:Inv X pins σ H s)(h:CE X.stack X.prog X.w H s Q u s'):EP X pins σ Q u s':=by
 obtain ⟨v,H',os,bare,un,hok,r,q⟩:=h;obtain ⟨hh,g,d,t,os'⟩:=s';obtain rfl:os'=s.os:=os;exact ⟨v,H',I.call (h':=hh) (g':=g) (d':=d) (t':=t) (ch:= []) un hok bare (λb z=>absurd z (by simp)),r,q⟩
end
def Pj(sp:Sp)(bh:List V)(E:XK)(t:TA):TE:=λσ H Q=>t σ H λvs H1=>sp (vs++bh) H1 Q E
def CD(C:Addr)(m:Str)(sp:Sp)(bh:List V)(E:XK)(ta:TE)(t:TA):TE:=λσ H Q=>ta σ H λx H1=>∃a dx fs,x= .ref a∧H1 a=some (.ins C dx fs)∧fs.lookup m=none∧
 t σ H1 λvs H2=>sp (x::(vs++bh)) H2 Q E
def Pm(C:Addr)(sp:Sp)(bh:List V)(E:XK)(t:TA):TE:=λσ H Q=>t σ H λvs H1=>∀x dx,H1 x=none→H1 dx=none→dx≠x→
 sp (.ref x::(vs++bh)) (upd (upd H1 dx (.own x)) x (.ins C dx [])) (λv H2=>v= .aI∧Q (.ref x) H2) E
def Binds(K:PySem.W.Frag)(fd:FuncData)(ps:List Str)(ds:List Value):Prop:=
 ∀(s:Shared)(us:List Value),K.In s.heap→(us++ds).length=ps.length→BindsTo s fd ⟨us,[]⟩ (ps.zip (us++ds))
theorem Binds.all{K:PySem.W.Frag}{fd:FuncData}{ps:List Str}(h:∀us:List Value,us.length=ps.length→bindArgs fd ⟨us,[]⟩=pure (ps.zip us)):Binds K fd ps []:=λs us _ hl=>by
 rw [jh] at hl ⊢;exact .of_eq (h us hl)
def Passes(CX:qq)(X:Cx)(E:XK):Prop:=∀(pins:List (Addr×Obj))(σ:St)(H:Hp)(s:Shared)(e:Value)(s':Shared),Inv X pins σ H s→CX X.stack H s E e s'→X.xe e s'
section
variable {X:Cx} {CX:qq} {k:Nat} {f C:Addr} {fd:FuncData} {ps:List Str} {sp:Sp} {bh:List V} {ds:List Value} {E:XK} {x m:Str} {p pos apos:Pos} {e o:Expr} {es:List Expr} {ta:TE} {t:TA}
theorem yH{pins:List (Addr×Obj)}{σ:St}{H:Hp}{s:Shared}{Q:VK}{us:List Value}{vs:List V}(F:FnOk X.prog X.w X.K X.mg X.base CX k f fd ps sp)(hr:b8 k X.A)(hb:Binds X.K fd ps ds)(hd:Vals bh ds)(hx:Passes CX X E)
  (I:Inv X pins σ H s) (r:Vals vs us) (h:sp (vs++bh) H Q E):wpAny (model X.prog X.w) X.A (call (.ref f) us) (EP X pins σ Q) X.xe s:=by
 have r2:Vals (vs++bh) (us++ds):=r.append hd;have hl:(us++ds).length=ps.length:=by rw [←r2.length];exact F.len _ _ _ _ h
 refine wpAny_call (codeAny_mono (F.run X.A X.stack s H ⟨us,[]⟩ (us++ds) (vs++bh) Q E hr I.Me (hb s us I.gQ hl) r2 h) λr s' hq=>?_);cases r with
 |error e=>exact hx pins σ H s e s' I hq
 |ok fl=>
  cases fl with
  |ret u=>exact I.after hq
  |next=>exact False.elim hq
  |brk=>exact False.elim hq
  |cont=>exact False.elim hq
theorem aW(F:FnOk X.prog X.w X.K X.mg X.base CX k f fd ps sp)(hr:b8 k X.A)(hg:Gl X x)(hm:X.mg x=some (.ref f))(hk:PySem.W.keepIn X.K (.ref f)=true)(hb:Binds X.K fd ps ds)(hd:Vals bh ds)(hx:Passes CX X E)
  (ha:PA X (e::es) t) (iE:(x==("__debug__":Str))=false:=by decide) (he:starEach (e::es) X.env=(false,eval e X.env)::starEach es X.env:=by rfl) (dJ:(backTo pos (starEach es X.env)).any (·.1)=false:=by rfl):
  PE X (.Call (.Name x p) (e::es) [] pos) (Pj sp bh E t):=by
 intro pins s σ H Q I h;refine wpAny_Call_Name_kw (uh I hg hm ?_ iE);refine PySem.W.callWith_K (h₀:=X.base) I.ok.mod.kin hk (thn (ha pos pins s σ H _ I h) λus s1 ⟨vs,H1,I1,r,q⟩=>⟨I1.gQ,?_⟩) he dJ;exact yH F hr hb hd hx I1 r q
theorem Iy{pl:Sem Bool}(he:PE X o ta)(c:tq X.K C)(hm:Meth X.K C m f)(F:FnOk X.prog X.w X.K X.mg X.base CX k f fd ps sp)(hr:b8 k X.A)(hb:Binds X.K fd ps ds)(hd:Vals bh ds)(hx:Passes CX X E)(ha:PA X (e::es) t)
  (yd:starEach (e::es) X.env=(false,eval e X.env)::starEach es X.env:=by rfl) (dJ:(backTo pos (starEach es X.env)).any (·.1)=false:=by rfl)
  (ht:eval (.Call (.Attribute o m apos) (e::es) [] pos) X.env=(do
   let ov ←eval o X.env
   standAt apos.atName
   let (f,first) ←holding [ov] (getMethod ov m pl)
   callWith pos f first (backTo pos (starEach (e::es) X.env)) (backToKw pos (keywordEach [] X.env))):=by rfl):
  PE X (.Call (.Attribute o m apos) (e::es) [] pos) (CD C m sp bh E ta t):=by
 intro pins s σ H Q I h;refine PySem.W.methodCall_KW (pl:=pl) (thn (he pins s σ H _ I h) λu s1 ⟨x,H1,I1,rx,a,dx,fs,ex,ea,l,q⟩=>?_) ht;subst ex;obtain rfl:u=Value.ref a:=rx;refine rD I1 ea c hm l ?_;refine PySem.W.callWith_K (first:= [.ref a]) (h₀:=X.base) I.ok.mod.kin hm.kp (thn (ha pos pins s1 σ H1 _ I1 q) λus s2 ⟨vs,H2,I2,r,q2⟩=>⟨I2.gQ,?_⟩) yd dJ;exact yH (us:= .ref a::us) (vs:= .ref a::vs) F hr hb hd hx I2 (.cons rfl r) q2
theorem Fj{pl:Sem Bool}(he:PE X o ta)(c:tq X.K C)(hm:Meth X.K C m f)(F:FnOk X.prog X.w X.K X.mg X.base CX k f fd ps sp)(hr:b8 k X.A)(hb:Binds X.K fd ps ds)(hd:Vals bh ds)(hx:Passes CX X E)
  (ht:eval (.Call (.Attribute o m apos) [] [] pos) X.env=(do
   let ov ←eval o X.env
   standAt apos.atName
   let (f,first) ←holding [ov] (getMethod ov m pl)
   callWith pos f first (backTo pos (starEach [] X.env)) (backToKw pos (keywordEach [] X.env))):=by rfl):
  PE X (.Call (.Attribute o m apos) [] [] pos) (CD C m sp bh E ta MT):=by
 intro pins s σ H Q I h;refine PySem.W.methodCall_KW (pl:=pl) (thn (he pins s σ H _ I h) λu s1 ⟨x,H1,I1,rx,a,dx,fs,ex,ea,l,q⟩=>?_) ht;subst ex;obtain rfl:u=Value.ref a:=rx;refine rD I1 ea c hm l ?_;exact PySem.W.callWith_K0 (first:= [.ref a]) I1.gQ hm.kp (yH (us:= [.ref a]) (vs:= [.ref a]) F hr hb hd hx I1 (.cons rfl .nil) q)
structure Mk (K:PySem.W.Frag) (C f:Addr):Prop where
 makes:PySem.W.makesIn K C=true
 init:PySem.W.findIn K (.ref C) "__init__"=some (some (.ref f))
 fn:PySem.W.isFn K (.ref f)=true
 kp:PySem.W.keepIn K (.ref C)=true
theorem Fy{pins:List (Addr×Obj)}{σ:St}{H:Hp}{s:Shared}{Q:VK}{us:List Value}{vs:List V}(M:Mk X.K C f)(F:FnOk X.prog X.w X.K X.mg X.base CX k f fd ps sp)(hr:b8 (k+1) X.A)(hb:Binds X.K fd ps ds)(hd:Vals bh ds)
  (hx:Passes CX X E) (I:Inv X pins σ H s) (r:Vals vs us)
  (h:∀x dx,H x=none→H dx=none→dx≠x→sp (.ref x::(vs++bh)) (upd (upd H dx (.own x)) x (.ins C dx [])) (λv H2=>v= .aI∧Q (.ref x) H2) E):
  wpAny (model X.prog X.w) X.A (call (.ref C) us) (EP X pins σ Q) X.xe s:=by
 have hq:=h (s.heap.objs.size+1) s.heap.objs.size (I.hok.fresh (mr _)) (I.hok.fresh (aT _)) (bI (Nat.lt_succ_self _));have I2:=Inv.made (C:=C) I;have r2:Vals (V.ref (s.heap.objs.size+1)::(vs++bh)) (Value.ref (s.heap.objs.size+1)::(us++ds)):= .cons rfl (r.append hd)
 have hl:(Value.ref (s.heap.objs.size+1)::us++ds).length=ps.length:=by
  have e:=r2.length;rw [F.len _ _ _ _ hq] at e;exact e.symm
 refine wpAny_call (E5 (f:=f) I.gQ M.makes M.init (beq_iff_eq.mp M.fn) (codeAny_mono (F.run _ X.stack _ _ ⟨Value.ref (s.heap.objs.size+1)::us,[]⟩ (Value.ref (s.heap.objs.size+1)::(us++ds)) _ _ E (hr.make C us [])
  (I2.Me.make C us []) (hb _ (Value.ref (s.heap.objs.size+1)::us) I2.gQ hl) r2 hq) λr s' vI=>?_))
 cases r with
 |error e=>exact hx pins σ _ _ e s' I2 vI
 |ok fl=>
  cases fl with
  |ret u=>
   obtain ⟨v,H',I3,rv,ev,q3⟩:=I2.after vI;subst ev;exact ⟨rv,⟨V.ref (s.heap.objs.size+1),H',I3,rfl,q3⟩⟩
  |next=>exact False.elim vI
  |brk=>exact False.elim vI
  |cont=>exact False.elim vI
theorem Iw(M:Mk X.K C f)(F:FnOk X.prog X.w X.K X.mg X.base CX k f fd ps sp)(hr:b8 (k+1) X.A)(hg:Gl X x)(hm:X.mg x=some (.ref C))(hb:Binds X.K fd ps ds)(hd:Vals bh ds)(hx:Passes CX X E)
  (ha:PA X (e::es) t) (iE:(x==("__debug__":Str))=false:=by decide) (he:starEach (e::es) X.env=(false,eval e X.env)::starEach es X.env:=by rfl) (dJ:(backTo pos (starEach es X.env)).any (·.1)=false:=by rfl):
  PE X (.Call (.Name x p) (e::es) [] pos) (Pm C sp bh E t):=by
 intro pins s σ H Q I h;refine wpAny_Call_Name_kw (uh I hg hm ?_ iE);refine PySem.W.callWith_K (h₀:=X.base) I.ok.mod.kin M.kp (thn (ha pos pins s σ H _ I h) λus s1 ⟨vs,H1,I1,r,q⟩=>⟨I1.gQ,?_⟩) he dJ;exact Fy M F hr hb hd hx I1 r q
end
section
variable {X:Cx} {CX:qq} {k:Nat} {f C:Addr} {fd:FuncData} {ps ks:List Str} {sp:Sp} {E:XK} {x m:Str} {p pos apos aai:Pos} {e o:Expr} {es:List Expr} {kws:List Keyword} {te ta:TE} {t tk:TA} {nm:Option Str}
variable {g:List Value→List Value→List Value} {gV:List V→List V→List V}
end
structure aG (N P:List Str) (sc:Scope):Prop where
 kind:sc.kind= .function
 co:sc.isCoroutine=false
 gen:sc.isGenerator=false
 nd:N.Nodup
 pre:N.take P.length=P
 par:∀x∈P,sc.names.lookup x=some .local∨sc.names.lookup x=some .cell
 nofree:∀y∈sc.names,y.2≠ .free
theorem tK{kindOf:Str→Option NameKind}{x:Str}:∀{binds:List (Str×Value)}{m:Str→Option Value},(∀v,(x,v)∉binds)→bindL kindOf binds m x=m x
 | [],_,_=>rfl
 | (n,v)::r,m,h=>by
  unfold bindL;rw [tK λw hw=>h w (cm _ hw)]
  split
  ·have:x≠n:=by rintro rfl;exact h v b7
   simp [this]
  ·rfl
theorem tI{kindOf:Str→Option NameKind}{x:Str}:∀{binds:List (Str×Value)}{m:Str→Option Value},(∀v,(x,v)∉binds)→bindC kindOf binds m x=m x
 | [],_,_=>rfl
 | (n,v)::r,m,h=>by
  unfold bindC;rw [tI λw hw=>h w (cm _ hw)]
  split
  ·rfl
  ·have:x≠n:=by rintro rfl;exact h v b7
   simp [this]
theorem tJ{kindOf:Str→Option NameKind}{x:Str}{v:Value}:∀{P:List Str}{vs:List Value}{i:Nat}{m:Str→Option Value},P.Nodup→P[i]? =some x→vs[i]? =some v→kindOf x=some .local→
  bindL kindOf (P.zip vs) m x=some v
 | [],_,_,_,_,h,_,_=>by simp at h
 |_::_,[],_,_,_,_,h,_=>by simp at h
 |p::P,w::vs,0,m,nd,h1,h2,hk=>by
  simp at h1 h2;subst h1;subst h2;show bindL kindOf ((p,w)::P.zip vs) m p=_;unfold bindL;rw [tK λv hv=>(iP.mp nd).1 (List.of_mem_zip hv).1,if_pos hk];simp
 |p::P,w::vs,i+1,m,nd,h1,h2,hk=>by
  show bindL kindOf ((p,w)::P.zip vs) m x=_;unfold bindL;exact tJ (i:=i) (iP.mp nd).2 (by simpa using h1) (by simpa using h2) hk
theorem tH{kindOf:Str→Option NameKind}{x:Str}{v:Value}:∀{P:List Str}{vs:List Value}{i:Nat}{m:Str→Option Value},P.Nodup→P[i]? =some x→vs[i]? =some v→kindOf x≠some .local→
  bindC kindOf (P.zip vs) m x=some v
 | [],_,_,_,_,h,_,_=>by simp at h
 |_::_,[],_,_,_,_,h,_=>by simp at h
 |p::P,w::vs,0,m,nd,h1,h2,hk=>by
  simp at h1 h2;subst h1;subst h2;show bindC kindOf ((p,w)::P.zip vs) m p=_;unfold bindC;rw [tI λv hv=>(iP.mp nd).1 (List.of_mem_zip hv).1,if_neg hk];simp
 |p::P,w::vs,i+1,m,nd,h1,h2,hk=>by
  show bindC kindOf ((p,w)::P.zip vs) m x=_;unfold bindC;exact tH (i:=i) (iP.mp nd).2 (by simpa using h1) (by simpa using h2) hk
def start(N:List Str)(vs:List V):St:=vs.map some++List.replicate (N.length-vs.length) none
def oT(CX:qq)(P:Program)(w:World)(K:PySem.W.Frag)(mg:Str→Option Value)(base:Heap)(N:List Str)(qual:Str)(scope:Scope)(f:Addr)(cd:Value)(A:Around)(outer:List Env)(s:Shared)(H:Hp)(E:XK):Cx where
 prog:=P
 w:=w
 K:=K
 mg:=mg
 base:=base
 A:=A.deeper (envOfC qual scope s.heap.objs.size f cd)
 N:=N
 s₀:=s
 H₀:=H
 env:=envOfC qual scope s.heap.objs.size f cd
 outer:=outer
 stack:=envOfC qual scope s.heap.objs.size f cd::outer
 ex:= []
 calm:=true
 fn:=λ_=>true
 pn:= []
 xe:=λe s'=>wpAny (model P w) (A.deeper (envOfC qual scope s.heap.objs.size f cd)) (leaving (envOfC qual scope s.heap.objs.size f cd) e) (λ_ Pc=>CX outer H s E e Pc) (λe' Pc=>CX outer H s E e' Pc) s'
theorem vY{sc:Scope}{n:Nat}{x:Str}(h:sc.names.lookup x=some .cell):∃c,(cellsFrom n sc.names []).lookup x=some c:=by
 have q:=PySem.W.cellsFrom_some sc.names n [] (.inl h);exact Option.isSome_iff_exists.mp q
theorem BK{CX:qq}{P:Program}{w:World}{K:PySem.W.Frag}{mg:Str→Option Value}{base:Heap}{N ps:List Str}{qual:Str}{scope:Scope}{f:Addr}{cd:Value}{A:Around}{outer:List Env}{s s1:Shared}{H:Hp}{E:XK}{us:List Value}{vs:List V}
  (S:aG N ps scope) (hd:A.handled=none) (e0:Env0 P w K mg base A outer s H) (hl:vs.length=ps.length) (r:Vals vs us)
  (x:InCallC s s.heap.objs.size (bindL (envOfC qual scope s.heap.objs.size f cd).kindOf (ps.zip us) λ_=>none) (cellsFrom (s.heap.objs.size+1) scope.names []) (bindC (envOfC qual scope s.heap.objs.size f cd).kindOf (ps.zip us) λ_=>none) s1):
  Inv (oT CX P w K mg base N qual scope f cd A outer s H E) [] (start N vs) H s1:=by
 have dJ:ps.length≤N.length:=by have:=congrArg List.length S.pre;rw [jg] at this;omega
 obtain ⟨h1,tk,rfl,hk⟩:=x.done;have HS:∀b:Addr,b∉(oT CX P w K mg base N qual scope f cd A outer s H E).ex:=λb z=>absurd (show b∈([]:List Addr) from z) (by simp)
 refine ⟨⟨e0.mod,S.kind,rfl,rfl,aT _,λy z c h1 h2=>?_,λy hy=>?_,λy c _ h=>?_,λ_=>hd,Around.frames_deeper e0.frames, .inr ⟨rfl,rfl⟩,λb z=>absurd z (HS b),e0.bs,e0.bsz,λb _ _=>HS b,λb z=>absurd z (HS b),e0.funs,e0.frf⟩,
  rfl,e0.bare,Un.kept hk,⟨_,x.toInCall.ns,λi y v h1 h2 h3=>?_⟩,λy c h=>⟨_,x.cell y c h⟩,e0.hok.fresh (aT _),λy c h=>?_,λp hp=>absurd (show p∈([]:List (Addr×Obj)) from hp) (by simp),e0.hok.kept hk,?_⟩
 ·exact name_of_addr x.apart (PySem.mem_of_lookup h1) (PySem.mem_of_lookup h2)
 ·have hy:scope.names.lookup y=some .cell∨scope.names.lookup y=some .free:=hy
  rcases hy with hy|hy
  ·exact vY hy
  ·exact absurd rfl (S.nofree _ (PySem.mem_of_lookup hy))
 ·exact Nat.le_of_lt (x.above y c (PySem.mem_of_lookup h))
 ·have hi:i<vs.length:=by
   unfold start at h2
   by_cases hi:i<vs.length
   ·exact hi
   ·rw [mm (by simpa using hi)] at h2
    rw [AK] at h2
    split at h2<;>cases h2
  have ha:vs[i]? =some v:=by
   unfold start at h2;rw [kH (by simpa using hi),bH] at h2
   cases e:vs[i]? with
   |none=>rw [e] at h2;cases h2
   |some a=>rw [e] at h2;cases h2;rfl
  obtain ⟨u,hu,rv⟩:=r.get ha
  have hp:ps[i]? =some y:=by
   rw [←S.pre,D9 (by omega)];exact h1
  have TR:ps.Nodup:=by rw [←S.pre];exact S.nd.sublist (List.take_sublist _ _)
  refine ⟨u,rv,?_⟩
  rcases S.par y (cT hp) with k|k
  ·exact .inl ⟨k,tJ TR hp hu k⟩
  ·obtain ⟨c,e⟩:=vY (n:=s.heap.objs.size+1) k
   refine .inr ⟨.inl k,c,e,?_⟩;have q:=x.cell y c e;rw [tH TR hp hu (by show scope.names.lookup y≠_;rw [k];decide)] at q
   exact q
 ·exact e0.hok.fresh (Nat.le_of_lt (x.above y c (PySem.mem_of_lookup h)))
 ·unfold start
  show _=N.length;rw [dE,aM,r9];omega
theorem NO{CX:qq}{P:Program}{w:World}{K:PySem.W.Frag}{mg:Str→Option Value}{base:Heap}{k:Nat}{f:Addr}{name qual:Str}{params:Arguments}{body:List Stmt}{scope:Scope}{dV kV doc pm bo ct oc:Value}{an od:Option Addr}
  {z7:Array (Option Value)} {N ps:List Str} {sp:Sp} (lk:K.lookup f=some ⟨oc,od, .func (PySem.W.fnOf name qual params body scope dV kV doc pm an bo ct),z7⟩) (fj:PySem.W.codeIn K bo qual=true) (S:aG N ps scope)
  (len:∀vs H Q E,sp vs H Q E→vs.length=ps.length)
  (n4:∀(A:Around)(outer:List Env)(s:Shared)(H:Hp)(vs:List V)(Q:VK)(E:XK),b8 k (A.deeper (envOfC qual scope s.heap.objs.size f bo))→sp vs H Q E→
   ∃t,kK (oT CX P w K mg base N qual scope f bo A outer s H E) body t∧t {nx:=λ_ H'=>Q .aI H',rt:=Q} (start N vs) H):
  FnOk P w K mg base CX (k+1) f (PySem.W.fnOf name qual params body scope dV kV doc pm an bo ct) ps sp:=by
 refine ⟨len,λA outer s H args us vs Q E hr e0 hb r zI=>?_⟩;have hl:=len _ _ _ _ zI;have KX:K.In s.heap:=e0.mod.kin.keeps λb o e=>(e0.bs b o e).1;have lim:s.heap.NoLimit:=e0.mod.nolimit.keeps λb o e=>(e0.bs b o e).1
 have Oa:∀y∈ps.zip us,scope.names.lookup y.1=some .local∨(scope.names.lookup y.1=some .cell∧((cellsFrom (s.heap.objs.size+1) scope.names []).lookup y.1).isSome=true):=λ⟨n,v⟩ hy=>by
  rcases S.par n (List.of_mem_zip hy).1 with q|q
  ·exact .inl q
  ·exact .inr ⟨q,PySem.W.cellsFrom_some _ _ _ (.inl q)⟩
 refine codeAny_call_function hr.depth (KX _ _ lk) rfl S.co S.gen rfl (PySem.W.codeRec_of KX fj) (hb _ _ _ _ ?_);refine wpAny_newFunctionEnv_cells S.kind Oa λenv he s1 x=>?_;subst he;refine ⟨lim.keeps x.toInCall.keep,codeAny_func ?_⟩;obtain ⟨t,ht,hq⟩:=n4 A outer s H vs Q E (hr.deeper _) zI;have I:Inv (oT CX P w K mg base N qual scope f bo A outer s H E) [] (start N vs) H s1:=BK S hr.hd e0 hl r x;refine wpAny_mono (ht [] s1 (start N vs) H _ I hq) (λfl s' hs=>?_) λe s' hs=>hs
 have fin:∀{ay:St}{H':Hp}{v:V}{u:Value},Inv (oT CX P w K mg base N qual scope f bo A outer s H E) [] ay H' s'→RelV v u→Q v H'→CE outer P w H s Q u s':=
  λ {ay H' v u} J rv q=>⟨v,H',J.os,J.bare,J.base,J.hok,rv,q⟩
 cases fl with
 |ret u=>
  obtain ⟨v,ay,H',J,rv,q⟩:=hs;exact fin J rv q
 |next=>
  obtain ⟨ay,H',J,q⟩:=hs;exact fin (v:=V.aI) (u:=Value.none) J rfl q
 |brk=>
  obtain ⟨_,_,_,q⟩:=hs;exact False.elim q
 |cont=>
  obtain ⟨_,_,_,q⟩:=hs;exact False.elim q
section
variable {X:Cx} {x:Str} {p pos:Pos} {e:Expr} {es:List Expr} {t:TA} {id T:String} {r:List V→Hp→VK→Prop}
def VD(r:List V→Hp→VK→Prop)(t:TA):TE:=λσ H Q=>t σ H λvs H1=>r vs H1 Q
theorem cq(hc:bQ X (.builtin id) r)(hg:Gl X x)(hm:X.mg x=none)(hv:bootBuiltins x=some (.builtin id))(ha:PA X (e::es) t)(hn:x≠"__name__":=by decide)(iE:(x==("__debug__":Str))=false:=by decide)
  (he:starEach (e::es) X.env=(false,eval e X.env)::starEach es X.env:=by rfl) (dJ:(backTo pos (starEach es X.env)).any (·.1)=false:=by rfl):PE X (.Call (.Name x p) (e::es) [] pos) (VD r t):=by
 intro pins s σ H Q I h;refine wpAny_Call_Name_kw (j0 I hg hm hv ?_ hn iE);exact PyProof.Rows.callWith_builtin1 (thn (ha pos pins s σ H _ I h) λus s1 ⟨vs,H1,I1,r1,q1⟩=>hc pins s1 σ H1 vs us Q I1 r1 q1) he dJ
theorem oF(hc:bQ X (.type T) r)(hg:Gl X x)(hm:X.mg x=none)(hv:bootBuiltins x=some (.type T))(ha:PA X (e::es) t)(hn:x≠"__name__":=by decide)(iE:(x==("__debug__":Str))=false:=by decide)
  (he:starEach (e::es) X.env=(false,eval e X.env)::starEach es X.env:=by rfl) (dJ:(backTo pos (starEach es X.env)).any (·.1)=false:=by rfl):PE X (.Call (.Name x p) (e::es) [] pos) (VD r t):=by
 intro pins s σ H Q I h;refine wpAny_Call_Name_kw (j0 I hg hm hv ?_ hn iE);exact PyProof.Rows.callWith_type1 (thn (ha pos pins s σ H _ I h) λus s1 ⟨vs,H1,I1,r1,q1⟩=>hc pins s1 σ H1 vs us Q I1 r1 q1) he dJ
end
end L2
namespace HT
open PySem PyProof.Rows
def lexLt:List Int→List Int→Bool
 | [],[]=>false
 | [],_::_=>true
 |_::_,[]=>false
 |x::xs,y::ys=>if x=y then lexLt xs ys else decide (x<y)
theorem eD(x y:Int)(xs ys:List Int):lexLt (x::xs) (y::ys)=if x=y then lexLt xs ys else decide (x<y):=rfl
theorem lq:lexLt [] []=false:=rfl
theorem ku(y:Int)(ys:List Int):lexLt [] (y::ys)=true:=rfl
theorem kr(x:Int)(xs:List Int):lexLt (x::xs) []=false:=rfl
theorem we(A:Around)(s:Shared)(a:Int)(t:Tok)(c:Int)(u:Tok):∃e,SeqAt.EqAt A s (.int a t) (.int c u) e∧(e=true↔a=c):=
 ⟨(a==c),SeqAt.EqAt.int_int a t c u,by simp⟩
theorem wZ(A:Around)(s:Shared)(a:Int)(t:Tok)(c:Int)(u:Tok)(prog:Program)(w:World)(E:Value→Shared→Prop)(Q:Value→Shared→Prop)(h:Q (.bool (decide (a<c))) s):
  wpAny (model prog w) A (richCompare .Lt (.int a t) (.int c u)) Q E s:=
 (PyProof.Rows.lt_int h:wpAny (model prog w) A (compareOp .Lt (.int a t) (.int c u)) Q E s)
section
open PySem.SeqAt
open PySem.AutoSeq1 (wpAny_loadPart')
open PySem.MeetsSeq PySem.MeetsSeq2 PySem.MeetsSeq3
theorem uV(l b:Addr)(items bp:Array Value)(n n2:Nat)(dd qv:Option Addr)(sl oJ:Array (Option Value))(ns ms:List Int)(hi:IntsAre items.toList ns)(hj:IntsAre bp.toList ms):
  Meets (Builtin.«tuple.__lt__» ⟨[.ref l, .ref b],[]⟩)
   (λ_ R s=>s.heap.get? l=some {cls:= .type "tuple",dict:=dd,data:= .seq items n,slots:=sl}∧s.heap.get? b=some {cls:= .type "tuple",dict:=qv,data:= .seq bp n2,slots:=oJ}∧
    R (.ok (.ret (.bool (lexLt ns ms)))) s):=
 .of_wp λprog w A R s h=>by
  obtain ⟨hp,g,d,tk,os⟩:=s;obtain ⟨hl,hb,h⟩:=h;have f2:=AutoSeq1.sub_tuple_tuple;have z1:items.size=ns.length:=by rw [←hi.length];simp
  have z2:bp.size=ms.length:=by rw [←hj.length];simp
  wp_walk using wpAny_loadPart' hl,wpAny_loadPart' hb,wpAny_forIn_list _ (λrest b s'=>b.1=none∧s'=⟨hp,g,d,tk,os⟩∧∃(vs ws:List Value)(Fb E7:List Int),rest=vs.zip ws∧
   IntsAre vs Fb∧IntsAre ws E7∧Fb.length+bp.size=E7.length+items.size∧R (.ok (.ret (.bool (lexLt Fb E7)))) ⟨hp,g,d,tk,os⟩) _
  case turn=>
   rintro ⟨y,x⟩ rest b s' ⟨tZ,rfl,vs,ws,Fb,E7,hz,OC,Kc,hlen,hR⟩;cases OC with
   |nil=>rw [List.zip_nil_left] at hz;cases hz
   |cons a t SG=>
    cases Kc with
    |nil=>rw [List.zip_nil_right] at hz;cases hz
    |cons c u SJ=>
     rw [List.zip_cons_cons] at hz
     injection hz with YN Oq
     injection YN with hy hx
     subst hy hx;rw [eD] at hR;simp only [cx] at hlen;obtain ⟨e,he,zB⟩:=we A.in1 ⟨hp,g,d,tk,os⟩ a t c u;refine wpAny_bind (he prog w _ _ ?_);cases e with
     |true=>
      rw [if_pos (zB.mp rfl)] at hR
      wp_walk
      exact ⟨rfl,rfl,_,_,_,_,Oq,SG,SJ,by omega,hR⟩
     |false=>
      rw [if_neg (λq=>absurd (zB.mpr q) cB)] at hR;have Ot:=wZ A.in1 ⟨hp,g,d,tk,os⟩ a t c u prog w
      wp_walk using Ot
      exact ⟨_,rfl,by simpa using hR⟩
  case fin=>
   rintro ⟨b1,b2⟩ s' ⟨tZ,rfl,vs,ws,Fb,E7,hz,OC,Kc,hlen,hR⟩;simp only at tZ;subst tZ
   have hv:lexLt Fb E7=decide (items.size<bp.size):=by
    cases OC with
    |nil=>
     cases Kc with
     |nil=>
      simp only [qk] at hlen;rw [lq];exact (decide_eq_false (by omega)).symm
     |cons c u hw=>
      simp only [qk,cx] at hlen;rw [ku];exact (decide_eq_true (by omega)).symm
    |cons a t hv=>
     cases Kc with
     |nil=>
      simp only [qk,cx] at hlen;rw [kr];exact (decide_eq_false (by omega)).symm
     |cons c u hw=>
      rw [List.zip_cons_cons] at hz;cases hz
   rw [hv] at hR
   wp_walk
   exact ⟨_,rfl,by simpa [Builtin.Tuple.tupleCompareSizes] using hR⟩
  case h=>
   exact ⟨rfl,rfl,items.toList,bp.toList,ns,ms,rfl,hi,hj,by omega,h⟩
end
section
variable {prog:Program} {w:World} {A:Around} {E:Value→Shared→Prop} {s:Shared}
theorem zX{l b:Addr}{items bp:Array Value}{ns ms:List Int}{Q:Value→Shared→Prop}(hl:IsTup s.heap l items)(hb:IsTup s.heap b bp)(hi:IntsAre items.toList ns)(hj:IntsAre bp.toList ms)
  (hu:A.units<cLine) (h:Q (.bool (lexLt ns ms)) s):wpAny (model prog w) A (compareOp .Lt (.ref l) (.ref b)) Q E s:=by
 obtain ⟨⟨cls,dd,data,sl⟩,ho,hc,n,hd⟩:=id hl;obtain ⟨⟨L6,qv,data2,oJ⟩,t8,vC,n2,hd2⟩:=id hb;simp only at hc hd vC hd2;subst hc hd vC hd2
 exact richCompare_meets_room (op:= .Lt) ⟨_,ho,rfl⟩ ⟨_,t8,rfl⟩ PySem.F.slot_tuple_lt PySem.F.entry_tuple_lt (PySem.F.args_tuple_lt_2 _ _) (uV l b items bp n n2 dd qv sl oJ ns ms hi hj)
  ⟨ho,t8,show Value.bool (lexLt ns ms)≠Value.notImplemented∧Q (.bool (lexLt ns ms)) s from ⟨(λx=>nomatch x),h⟩⟩ hu
theorem FY{t b:Addr}{vs ws:List Value}{Q:Value→Shared→Prop}(ht:IsTup s.heap t vs.toArray)(hb:IsTup s.heap b ws.toArray)(hv:vs≠ [])
  (h1:ws= []→Q (.ref t) s) (h2:ws≠ []→Q (.ref s.heap.objs.size) {s with heap:=s.heap.push {cls:= .type "tuple",data:= .seq (vs++ws).toArray}})
  (fk:vs.length+ws.length≤sizeLine):wpAny (model prog w) A (binaryOp .Add (.ref t) (.ref b)) Q E s:=by
 obtain ⟨⟨cls,dd,data,sl⟩,ho,hc,n,hd⟩:=id ht;obtain ⟨⟨L6,qv,data2,oJ⟩,t8,vC,n2,hd2⟩:=id hb;simp only at hc hd vC hd2;subst hc hd vC hd2;have e:vs.toArray++ws.toArray=(vs++ws).toArray:=by simp
 by_cases hw:ws= []
 ·exact concat_meets ⟨_,ho,rfl⟩ ⟨_,t8,rfl⟩ noFill_tuple_add seq_tuple_add PySem.F.slot_tuple_add PySem.F.entry_tuple_add (PySem.F.args_tuple_add_2 _ _)
   (tuple_addW1 t b vs.toArray ws.toArray n n2 dd qv sl oJ (by simpa using hv) (by simp [hw])) ⟨ho,t8,h1 hw⟩
 ·refine concat_meets ⟨_,ho,rfl⟩ ⟨_,t8,rfl⟩ noFill_tuple_add seq_tuple_add PySem.F.slot_tuple_add PySem.F.entry_tuple_add (PySem.F.args_tuple_add_2 _ _)
   (tuple_addW2 t b vs.toArray ws.toArray n n2 dd qv sl oJ (by simpa using hv) (by simpa using hw) (by rw [dr,dr];exact fk)) ⟨ho,t8,?_⟩
  rw [e];exact h2 hw
def bD(n d:Nat):Option Int→Nat
 |none=>d
 |some v=>if v<0 then (v+(n:Int)).toNat else min v.toNat n
theorem w9(n d:Nat):bD n d none=d:=rfl
theorem Aj(n d k:Nat):bD n d (some (k:Int))=min k n:=by
 show (if (k:Int)<0 then ((k:Int)+(n:Int)).toNat else min (k:Int).toNat n)=min k n;rw [if_neg (by omega),kI]
theorem Li(n d:Nat)(hd:d≤n)(o:Option Int):bD n d o≤n:=by
 cases o with
 |none=>exact hd
 |some v=>
  show (if v<0 then (v+(n:Int)).toNat else min v.toNat n)≤n
  by_cases hv:v<0
  ·rw [if_pos hv];omega
  ·rw [if_neg hv];exact Nat.min_le_right _ _
theorem ze(v:Int)(n d:Nat):(if v<0 then max (v+(n:Int)) 0 else min v (n:Int))=((bD n d (some v):Nat):Int):=by
 show (if v<0 then max (v+(n:Int)) 0 else min v (n:Int))=(((if v<0 then (v+(n:Int)).toNat else min v.toNat n):Nat):Int)
 by_cases hv:v<0
 ·simp only [if_pos hv];omega
 ·simp only [if_neg hv];omega
theorem y4(lo hi:Option Int)(n:Nat):Builtin.Slice.sliceAdjust lo hi 1 (n:Int)=(((bD n 0 lo:Nat):Int),((bD n n hi:Nat):Int)):=by
 have h1:¬((1:Int)<0):=by omega
 unfold Builtin.Slice.sliceAdjust;simp only [h1,if_false];refine Prod.ext ?_ ?_
 ·cases lo with
  |none=>rfl
  |some v=>exact ze v n 0
 ·cases hi with
  |none=>rfl
  |some v=>exact ze v n n
theorem Aa(i j:Nat):Builtin.Slice.slicePlaces (i:Int) (j:Int) 1=j-i:=by
 unfold Builtin.Slice.slicePlaces;have h1:(1:Int)>0:=by omega
 simp only [h1,if_true,Int.ediv_one]
 split<;>omega
theorem rS{v:Value}{o:Option Int}{Q:Option Int→Shared→Prop}(p:IsPart v o)(h:Q o s):wpAny (model prog w) A (Builtin.Slice.slicePartIndex v) Q E s:=by
 cases p with
 |none=>exact slicePart_none h
 |int i t=>exact slicePart_int h
theorem qa{sl:Addr}{vl vu:Value}{lo hi:Option Int}{n:Nat}{Q:Int×Int×Nat→Shared→Prop}(hs:s.heap.IsSliceOf sl vl vu .none)(pl:IsPart vl lo)(pu:IsPart vu hi)
  (h:Q (((bD n 0 lo:Nat):Int),1,bD n n hi-bD n 0 lo) s):wpAny (model prog w) A (Builtin.Slice.sliceApplied (.ref sl) (pure (n:Int))) Q E s:=by
 obtain ⟨os,Hn,RS,EN⟩:=id hs;unfold Builtin.Slice.sliceApplied Builtin.Slice.sliceFields;refine wpAny_bind (wpAny_bind (wpAny_field Hn EN (x:=vl) rfl (wpAny_bind (wpAny_field Hn EN (x:=vu) rfl (wpAny_bind (wpAny_field Hn EN (x:= .none) rfl (wpAny_pure ?_)))))));refine wpAny_bind (slicePart_none ?_);show wpAny _ _ (if ((1:Int)==0)=true then _ else _) _ _ s;rw [if_neg (by decide)]
 refine wpAny_bind (rS pl (wpAny_bind (rS pu (wpAny_bind (wpAny_pure ?_)))));show wpAny _ _ (match Builtin.Slice.sliceAdjust lo hi 1 (n:Int) with| (lo,hi)=>pure (lo,(1:Int),Builtin.Slice.slicePlaces lo hi 1)) _ _ s
 rw [y4 lo hi n];show wpAny _ _ (pure (((bD n 0 lo:Nat):Int),(1:Int),Builtin.Slice.slicePlaces ((bD n 0 lo:Nat):Int) ((bD n n hi:Nat):Int) 1)) _ _ s;rw [Aa];exact wpAny_pure h
theorem Fn(xs:Array Value)(i k:Nat):((List.range k).filterMap λ(m:Nat)=>xs[((i:Int)+(m:Int)*1).toNat]?).toArray=((xs.toList.drop i).take k).toArray:=by
 have e:(λ(m:Nat)=>xs[((i:Int)+(m:Int)*1).toNat]?)=λm=>xs[i+m]? :=by
  funext m
  have:((i:Int)+(m:Int)*1).toNat=i+m:=by omega
  rw [this]
 rw [e]
 have:=pick_run xs i k
 rw [List.filterMap_map] at this;have e2:((λx=>xs[x]?)∘λx=>i+x)=λm=>xs[i+m]? :=rfl;rw [e2] at this;rw [this]
theorem nX{t sl:Addr}{items:Array Value}{vl vu:Value}{lo hi:Option Int}{Q:Value→Shared→Prop}(ht:IsTup s.heap t items)(hs:s.heap.IsSliceOf sl vl vu .none)(pl:IsPart vl lo)(pu:IsPart vu hi)
  (hw:¬(bD items.size 0 lo=0∧bD items.size items.size hi=items.size))
  (h:Q (.ref s.heap.objs.size) {s with heap:=s.heap.push {cls:= .type "tuple",data:= .seq ((items.toList.drop (bD items.size 0 lo)).take (bD items.size items.size hi-bD items.size 0 lo)).toArray}})
  (fk:items.size≤sizeLine):wpAny (model prog w) A (getItem (.ref t) (.ref sl)) Q E s:=by
 have ye:sizeOk (.seq ((items.toList.drop (bD items.size 0 lo)).take (bD items.size items.size hi-bD items.size 0 lo)).toArray):=by
  show ((items.toList.drop (bD items.size 0 lo)).take (bD items.size items.size hi-bD items.size 0 lo)).toArray.size≤sizeLine;rw [dr,jg,vt,bW];omega
 have hj:bD items.size items.size hi≤items.size:=Li _ _ (aT _) hi;obtain ⟨os,Hn,RS,EN⟩:=id hs;have XR:s.TypeIs (.ref sl) "slice":=⟨os,Hn,RS⟩;unfold getItem
 try with_reducible refine wpAny_holding ?_
 first|refine wpAny_bind (wpAny_pure ?_) |skip
 refine wpAny_bind (wpAny_sequenceKey ht.typeIs (by decide) ?_)
 refine wpAny_bind (wpAny_callSpecial?_slot (name:=Str.ofString "__getitem__") ht.typeIs PyProof.Rows.slot_tuple_getitem
  (wpAny_call_entry PyProof.Rows.slot_tuple_getitem ht.typeIs entry_tuple_getitem ?_ (args_tuple_getitem _ _)))
 show wpAny _ _ (Builtin.Tuple.tupleItemsOf (.ref t)>>=_) _ _ s;refine wpAny_bind (tupleItemsOf_ ht ?_);refine wpAny_bind (wpAny_typeOf XR ?_);rw [if_pos (by decide)]
 refine wpAny_bind (qa hs pl pu ?_)
 have zG:¬((((bD items.size 0 lo:Nat):Int)==0&&(1:Int)==1&&(bD items.size items.size hi-bD items.size 0 lo)==items.size)=true):=by
  intro q;rw [xp,xp] at q;have q1:((bD items.size 0 lo:Nat):Int)=0:=eq_of_beq q.1.1;have q2:bD items.size items.size hi-bD items.size 0 lo=items.size:=eq_of_beq q.2;exact hw ⟨by omega,by omega⟩
 show wpAny _ _ (if (((bD items.size 0 lo:Nat):Int)==0&&(1:Int)==1&&(bD items.size items.size hi-bD items.size 0 lo)==items.size)=true then _ else _) _ _ s;rw [if_neg zG,Fn]
 first
  |exact wpAny_bind (m:=Builtin.Tuple.tupleExact _) (wpAny_newObj_type (wpAny_pure ⟨_,rfl,wpAny_pure h⟩) ye)
  |exact wpAny_bind (m:=Builtin.Tuple.tupleExact _) (wpAny_newObj_type (wpAny_bind (wpAny_pure (wpAny_pure ⟨_,rfl,wpAny_pure h⟩))) ye)
  |exact wpAny_bind (wpAny_bind (m:=Builtin.Tuple.tupleExact _) (wpAny_newObj_type (wpAny_pure (wpAny_pure ⟨_,rfl,wpAny_pure h⟩)) ye))
  |exact wpAny_bind (wpAny_bind (m:=Builtin.Tuple.tupleExact _) (wpAny_newObj_type (wpAny_pure ⟨_,rfl,wpAny_pure h⟩) ye))
end
end HT
namespace L2
open PySem PySem.Spec PyProof.Rows
abbrev TO:=St→Hp→(Option Int→Hp→Prop)→Prop
def PO(X:Cx)(e:Option Expr)(t:TO):Prop:=
 ∀(pins:List (Addr×Obj))(s:Shared)(σ:St)(H:Hp)(Q:Option Int→Hp→Prop),Inv X pins σ H s→t σ H Q→
  wpAny (model X.prog X.w) X.A (evalPart e X.env) (λu s'=>∃o H',Inv X pins σ H' s'∧IsPart u o∧Q o H') X.xe s
def Jl:TO:=λ_ H Q=>Q none H
def Pp(t:TE):TO:=λσ H Q=>t σ H λx H1=>∃i,x= .int i∧Q (some i) H1
theorem intsAre_of{ns:List Int}:∀{us:List Value},Vals (ns.map V.int) us→IntsAre us ns:=by
 induction ns with
 |nil=>intro us r;rw [List.map_nil] at r;cases r;exact .nil
 |cons n ns ih=>
  intro us r;rw [fF] at r;cases r with
  |cons r1 r2=>
   obtain ⟨t,e⟩:=r1;subst e;exact .cons n t (ih r2)
section
variable {X:Cx} {e:Expr} {te:TE} {lo hi:Option Expr} {tl th:TO} {pos p2:Pos}
theorem uD:PO X none Jl:=by
 intro pins s σ H Q I h;rw [evalPart_none];exact wpAny_pure ⟨none,H,I, .none,h⟩
theorem lG(h:PE X e te):PO X (some e) (Pp te):=by
 intro pins s σ H Q I hw;rw [evalPart_some];refine thn (h pins s σ H _ I hw) λu s1 ⟨x,H1,I1,r1,q1⟩=>?_;obtain ⟨i,rfl,q⟩:=q1;obtain ⟨t,rfl⟩:=r1;exact ⟨some i,H1,I1, .int i t,q⟩
def AX(X:Cx)(r:V→Option Int→Option Int→Hp→VK→Prop):Prop:=
 ∀(pins:List (Addr×Obj))(s:Shared)(σ:St)(H:Hp)(x:V)(v vl vu:Value)(lo hi:Option Int)(sl:Addr)(Q:VK),Inv X pins σ H s→RelV x v→s.heap.IsSliceOf sl vl vu .none→IsPart vl lo→IsPart vu hi→r x lo hi H Q→
  ∃T id,typeLookup (.type T) "__getitem__"=pure (some (.builtin id))∧s.TypeIs v T∧wpAny (model X.prog X.w) X.A (getItem v (.ref sl)) (EP X pins σ Q) X.xe s
theorem AX.or{r r':V→Option Int→Option Int→Hp→VK→Prop}(h:AX X r)(h':AX X r'):AX X (λx lo hi H Q=>r x lo hi H Q∨r' x lo hi H Q):=by
 intro pins s σ H x v vl vu lo hi sl Q I rx hs pl pu q
 rcases q with q|q
 ·exact h pins s σ H x v vl vu lo hi sl Q I rx hs pl pu q
 ·exact h' pins s σ H x v vl vu lo hi sl Q I rx hs pl pu q
def tSl(r:V→Option Int→Option Int→Hp→VK→Prop)(te:TE)(tl th:TO):TE:=λσ H Q=>te σ H λx H1=>tl σ H1 λl H2=>th σ H2 λu H3=>r x l u H3 Q
theorem mO{r:V→Option Int→Option Int→Hp→VK→Prop}(hr:AX X r)(he:PE X e te)(hl:PO X lo tl)(hu:PO X hi th):PE X (.Subscript e (.Slice lo hi none p2) pos) (tSl r te tl th):=by
 intro pins s σ H Q I h;refine Subscript_ (thn (he pins s σ H _ I h) λv s1 ⟨x,H1,I1,r1,q1⟩=>?_);refine wpAny_Slice (thn (hl pins s1 σ H1 _ I1 q1) λvl s2 ⟨l,H2,I2,pl,q2⟩=>thn (hu pins s2 σ H2 _ I2 q2) λvu s3 ⟨u,H3,I3,pu,q3⟩=>?_);rw [evalPart_none];refine wpAny_pure ?_;have I4:Inv X pins σ H3 {s3 with heap:=s3.heap.push {cls:= .type "slice",data:= .fields #[vl,vu, .none]}}:=I3.kept (t':=s3.toks) λb ob q=>Heap.get?_push_of_some _ q
 obtain ⟨T,id,hT,ht,hg⟩:=hr pins {s3 with heap:=s3.heap.push {cls:= .type "slice",data:= .fields #[vl,vu, .none]}} σ H3 x v vl vu l u s3.heap.objs.size Q I4 r1 (Heap.IsSliceOf.new ..) pl pu q3
 show wpAny (model X.prog X.w) X.A (subscriptTail e (.Slice lo hi none p2) v (.ref s3.heap.objs.size)) (EP X pins σ Q) X.xe {s3 with heap:=s3.heap.push {cls:= .type "slice",data:= .fields #[vl,vu, .none]}}
 exact tail_any (ops:= [.ref s3.heap.objs.size,v]) ht hT hg (by with_unfolding_all rfl)
def fY(xs:List V)(lo hi:Option Int):List V:=(xs.drop (HT.bD xs.length 0 lo)).take (HT.bD xs.length xs.length hi-HT.bD xs.length 0 lo)
theorem jS(xs:List V)(lo hi:Option Int):(fY xs lo hi).length≤xs.length:=by
 unfold fY;rw [jg,vt];omega
def U4(K:PySem.W.Frag):V→Option Int→Option Int→Hp→VK→Prop:=λx lo hi H Q=>∃a xs,x= .ref a∧cZ K H a xs∧
 ¬(HT.bD xs.length 0 lo=0∧HT.bD xs.length xs.length hi=xs.length)∧∀p,H p=none→Q (.ref p) (upd H p (.tup (fY xs lo hi)))
theorem Lk:AX X (U4 X.K):=by
 intro pins s σ H x v vl vu lo hi sl Q I rx hs pl pu h;obtain ⟨a,xs,rfl,hx,hw,q⟩:=h;cases rx;obtain ⟨its,r,ht,hz⟩:=I.tuple hx;have hlen:its.toArray.size=xs.length:=by rw [dr];exact r.length.symm
 refine ⟨"tuple",_,PyProof.Rows.slot_tuple_getitem.lookup,ht.typeIs,?_⟩;refine HT.nX ht hs pl pu (by rw [hlen];exact hw) ?_ (by rw [hlen];exact hz)
 rw [hlen];refine ⟨.ref s.heap.objs.size,_,I.laid (t':=s.toks) (o:= .tup (fY xs lo hi)) (λb ob q=>Heap.get?_push_of_some _ q) (aT _) ?_,rfl,q _ (I.hok.fresh (aT _))⟩;exact ⟨jP (jS xs lo hi) hz,_,(r.drop (HT.bD xs.length 0 lo)).take (HT.bD xs.length xs.length hi-HT.bD xs.length 0 lo),IsTup.new _ _⟩
def Pb(K:PySem.W.Frag):R2:=λx y H Q=>∃a b xs ys,x= .ref a∧y= .ref b∧cZ K H a xs∧cZ K H b ys∧xs≠ []∧xs.length+ys.length≤sizeLine∧
 (ys= []→Q (.ref a) H)∧(ys≠ []→∀p,H p=none→Q (.ref p) (upd H p (.tup (xs++ys))))
theorem Vals.uu{xs:List V}{us:List Value}(r:Vals xs us):us= []↔xs= []:=by
 cases r with
 |nil=>simp
 |cons _ _=>simp
theorem Ij:OpR X (binaryOp .Add) (Pb X.K):=by
 intro pins s σ H x y v u Q I rx ry h;obtain ⟨a,b,xs,ys,rfl,rfl,ha,hb,hx,hz,q1,q2⟩:=h;cases rx;cases ry;obtain ⟨its,r1,p1,_⟩:=I.tuple ha;obtain ⟨rK,r2,p2,_⟩:=I.tuple hb;refine HT.FY p1 p2 (λz=>hx (r1.uu.mp z)) (λz=>⟨.ref a,H,I,rfl,q1 (r2.uu.mp z)⟩) (λz=>?_) (by rw [←r1.length,←r2.length];exact hz)
 refine ⟨.ref s.heap.objs.size,_,I.laid (t':=s.toks) (o:= .tup (xs++ys)) (λb ob q=>Heap.get?_push_of_some _ q) (aT _) ?_,rfl,q2 (λw=>z (r2.uu.mpr w)) _ (I.hok.fresh (aT _))⟩;exact ⟨by rw [dE];exact hz,_,r1.append r2,IsTup.new _ _⟩
end
def iF(n:Nat)(i:Int):Option Nat:=if 0≤i then (if i<n then some i.toNat else none) else if-(n:Int)≤i then some (i+n).toNat else none
def e7{α:Type}(xs:List α)(i:Int):Option α:=(iF xs.length i).bind λj=>xs[j]?
theorem zP{n:Nat}{i:Int}{j:Nat}(h:iF n i=some j):seqIndex? i n=some j∧j<n∧-(n:Int)≤i∧i<n:=by
 unfold iF at h
 by_cases h0:0≤i
 ·rw [if_pos h0] at h
  by_cases h1:i<n
  ·rw [if_pos h1] at h
   have e:i.toNat=j:=Option.some.inj h;exact ⟨by rw [seqIndex_of h0 h1,e],by omega,by omega,h1⟩
  ·rw [if_neg h1] at h;cases h
 ·rw [if_neg h0] at h
  by_cases h1: -(n:Int)≤i
  ·rw [if_pos h1] at h
   have e:(i+n).toNat=j:=Option.some.inj h;exact ⟨by rw [seqIndex_neg (by omega) h1,e],by omega,h1,by omega⟩
  ·rw [if_neg h1] at h;cases h
theorem y8{α:Type}{xs:List α}{i:Int}{v:α}(h:e7 xs i=some v):∃j,seqIndex? i xs.length=some j∧xs[j]? =some v∧j<xs.length∧-(xs.length:Int)≤i∧i<xs.length:=by
 unfold e7 at h;cases e:iF xs.length i with
 |none=>rw [e] at h;cases h
 |some j=>
  rw [e] at h;obtain ⟨h1,h2,h3,h4⟩:=zP e;exact ⟨j,h1,h,h2,h3,h4⟩
theorem bS{α:Type}{xs:List α}{j:Nat}{v:α}(h:xs[j]? =some v):e7 xs (j:Int)=some v:=by
 have hj:j<xs.length:=(bV.mp h).1
 have e:iF xs.length (j:Int)=some j:=by
  unfold iF;rw [if_pos (by omega),if_pos (by omega)];simp
 unfold e7;rw [e];exact h
def oQ(b:Expr):Prop:=∀o i,subscripted b false o i=operate [o,i] (getItem o i)
def xy(X:Cx)(r:R2):Prop:=
 ∀(value slice:Expr)(pins:List (Addr×Obj))(s:Shared)(σ:St)(H:Hp)(x y:V)(v u:Value)(Q:VK),Inv X pins σ H s→RelV x v→RelV y u→r x y H Q→
  subscripted slice false v u=operate [v,u] (getItem v u)→wpAny (model X.prog X.w) X.A (subscriptTail value slice v u) (EP X pins σ Q) X.xe s
def Jx(X:Cx)(id:String)(r:V→List V→Hp→VK→Prop):Prop:=
 ∀(pins:List (Addr×Obj))(s:Shared)(σ:St)(H:Hp)(x:V)(xs:List V)(v:Value)(us:List Value)(Q:VK),Inv X pins σ H s→RelV x v→Vals xs us→r x xs H Q→
  wpAny (model X.prog X.w) X.A (call (.builtin id) (v::us)) (EP X pins σ Q) X.xe s
section
variable {X:Cx} {a b:Expr} {ta tb:TE} {pos:Pos}
theorem xy.or{r r':R2}(h:xy X r)(h':xy X r'):xy X (λx y H Q=>r x y H Q∨r' x y H Q):=by
 intro value slice pins s σ H x y v u Q I rx ry q hs
 rcases q with q|q
 ·exact h value slice pins s σ H x y v u Q I rx ry q hs
 ·exact h' value slice pins s σ H x y v u Q I rx ry q hs
theorem bT{r:R2}(hr:xy X r)(ha:PE X a ta)(hb:PE X b tb)(hs:oQ b):PE X (.Subscript a b pos) (yR r ta tb):=by
 intro pins s σ H Q I h;exact Subscript_ (FU ha hb I h λv u s2 x y H2 I2 rx ry q=>hr a b pins s2 σ H2 x y v u Q I2 rx ry q (hs _ _))
def DM(K:PySem.W.Frag):R2:=λx y H Q=>∃p xs i v,x= .ref p∧y= .int i∧aD K H p xs∧e7 xs i=some v∧Q v H
def MP(K:PySem.W.Frag):R2:=λx y H Q=>∃p xs i v,x= .ref p∧y= .int i∧cZ K H p xs∧e7 xs i=some v∧Q v H
theorem bg:xy X (DM X.K):=by
 intro value slice pins s σ H x y v u Q I rx ry h hs;obtain ⟨p,xs,i,z,rfl,rfl,hq,he,q⟩:=h;cases rx;obtain ⟨t,rfl⟩:=ry;obtain ⟨its,r,pl,hz⟩:=I.list hq;obtain ⟨j,h1,h2,h3,h4,h5⟩:=y8 he;obtain ⟨w,ew,oI⟩:=r.get h2;have hl:=r.length;have hn:=j1;have fin:EP X pins σ Q w s:=⟨z,H,I,oI,q⟩
 by_cases h0:0≤i
 ·have hj:i.toNat=j:=by
   rw [seqIndex_of h0 h5] at h1;exact Option.some.inj h1
  exact item_listR pl.isList h0 (by omega) (by rw [hj];simpa using ew) fin hs
 ·have hj:(i+(its.toArray.size:Int)).toNat=j:=by
   rw [seqIndex_neg (by omega) h4] at h1
   rw [dr,←hl];exact Option.some.inj h1
  exact subscriptTail_builtinR (x:=w) pl.isList.typeIs slot_list_getitem.lookup
   (wpAny_getItem_list_neg (Q:=λr s'=>r=w∧EP X pins σ Q r s') pl.isList (by omega) (by rw [dr]<;>omega) (by omega) (by rw [hj];simpa using ew) ⟨rfl,fin⟩) hs
theorem Dx:xy X (MP X.K):=by
 intro value slice pins s σ H x y v u Q I rx ry h hs;obtain ⟨p,xs,i,z,rfl,rfl,hq,he,q⟩:=h;cases rx;obtain ⟨t,rfl⟩:=ry;obtain ⟨its,r,pl,hz⟩:=I.tuple hq;obtain ⟨j,h1,h2,h3,h4,h5⟩:=y8 he;obtain ⟨w,ew,oI⟩:=r.get h2;have hl:=r.length;have hn:=j1;have fin:EP X pins σ Q w s:=⟨z,H,I,oI,q⟩
 exact subscriptTail_builtinR (x:=w) pl.typeIs slot_tuple_getitem.lookup
  (getItem_tuple (j:=j) (Q:=λr s'=>r=w∧EP X pins σ Q r s') pl (by omega) (by omega) (by rw [dr,←hl];exact h1) (by simpa using ew) ⟨rfl,fin⟩) hs
theorem z0(its:List Value)(n j:Nat)(u:Value):Obj.mapSeq (·.setIfInBounds j u) {cls:= .type "list",data:= .seq its.toArray n}={cls:= .type "list",data:= .seq (its.set j u).toArray n}:=by
 simp [Obj.mapSeq]
theorem Inv.lst{pins:List (Addr×Obj)}{σ:St}{H:Hp}{s:Shared}{p:Addr}{xs:List V}(I:Inv X pins σ H s)(h:H p=some (.lst xs)):
  ∃(its:List Value)(n:Nat),Vals xs its∧s.heap.get? p=some {cls:= .type "list",data:= .seq its.toArray n}∧xs.length≤sizeLine:=by
 obtain ⟨z,its,n,r,e⟩:=I.hok p _ h;exact ⟨its,n,r,e,z⟩
theorem Inv.Kx{pins:List (Addr×Obj)}{σ:St}{H:Hp}{s:Shared}{p:Addr}{xs ys:List V}{its its':List Value}{n n':Nat}{f:Obj→Obj}(I:Inv X pins σ H s)(h:H p=some (.lst xs))
  (ho:s.heap.get? p=some {cls:= .type "list",data:= .seq its.toArray n}) (hf:f {cls:= .type "list",data:= .seq its.toArray n}={cls:= .type "list",data:= .seq its'.toArray n'}) (r:Vals ys its') (hz:ys.length≤sizeLine) (t:Nat):
  Inv X pins σ (upd H p (.lst ys)) {s with heap:=s.heap.update p f,toks:=t}:=by
 have e:(s.heap.update p f).get? p=some {cls:= .type "list",data:= .seq its'.toArray n'}:=by
  rw [Heap.get?_update_self f ho (by rw [hf]<;>rfl),hf]
 refine I.write (x:=p) (e:=p) (by rw [h];trivial) (.inl rfl) (λb u hb q=>(Heap.get?_update_other _ _ (Ne.symm hb)).trans q) ⟨_,e⟩ ?_
 exact ⟨hz,its',n',r,e⟩
def II:V→V→V→Hp→(Hp→Prop)→Prop:=λo i v H Q=>∃p xs k j,o= .ref p∧i= .int k∧H p=some (.lst xs)∧iF xs.length k=some j∧Q (upd H p (.lst (xs.set j v)))
theorem set_list:LM X II:=by
 intro pins s σ H o i v ov iv u Q I ro ri rv h;obtain ⟨p,xs,k,j,rfl,rfl,hp,hj,q⟩:=h;cases ro;obtain ⟨t,rfl⟩:=ri;obtain ⟨its,n,r,ho,hz⟩:=I.lst hp;obtain ⟨h1,h2,h3,h4⟩:=zP hj;have hl:=r.length;have hn:=j1
 have I':Inv X pins σ (upd H p (.lst (xs.set j v))) {s with heap:=s.heap.update p (Obj.mapSeq (·.setIfInBounds j u))}:=
  I.Kx hp ho (z0 its n j u) (r.set rv j) (by rw [fe];exact hz) s.toks
 by_cases h0:0≤k
 ·have hk:k.toNat=j:=by
   rw [seqIndex_of h0 h4] at h1;exact Option.some.inj h1
  exact PySem.W.ki_setAt ho h0 (by omega) (by rw [dr,←hl];exact h4) (by rw [hk];exact ⟨_,I',q⟩)
 ·have hk:(k+(its.toArray.size:Int)).toNat=j:=by
   rw [seqIndex_neg (by omega) h3] at h1
   rw [dr,←hl];exact Option.some.inj h1
  exact PySem.W.ki_setBack ho (by omega) (by rw [dr,←hl];exact h3) (by omega) (by rw [hk];exact ⟨_,I',q⟩)
theorem vS(lo hi:Option Int)(n:Nat):(sliceBounds lo hi none n).1=((HT.bD n 0 lo:Nat):Int)∧(sliceBounds lo hi none n).2.1=((HT.bD n n hi:Nat):Int)∧(sliceBounds lo hi none n).2.2=1:=by
 refine ⟨?_,?_,rfl⟩
 ·cases lo with
  |none=>simp [sliceBounds,HT.bD]
  |some i=>
   simp only [sliceBounds,HT.bD,Option.getD_none,show (1:Int)>0 by decide,if_true]
   by_cases h:i<0
   ·simp only [h,if_true]<;>omega
   ·simp only [h,if_false]<;>omega
 ·cases hi with
  |none=>simp [sliceBounds,HT.bD]
  |some i=>
   simp only [sliceBounds,HT.bD,Option.getD_none,show (1:Int)>0 by decide,if_true]
   by_cases h:i<0
   ·simp only [h,if_true]<;>omega
   ·simp only [h,if_false]<;>omega
theorem uL(its:List Value)(lo hi:Option Int):slicePick its.toArray lo hi none=((its.drop (HT.bD its.length 0 lo)).take (HT.bD its.length its.length hi-HT.bD its.length 0 lo)).toArray:=by
 obtain ⟨h1,h2,h3⟩:=vS lo hi its.toArray.size;unfold slicePick;rw [h1,h2,h3];simp only [sliceRange_one,pick_run,dr]<;>rfl
def U3(K:PySem.W.Frag):V→Option Int→Option Int→Hp→VK→Prop:=λx lo hi H Q=>∃a xs,x= .ref a∧aD K H a xs∧∀p,H p=none→Q (.ref p) (upd H p (.lst (fY xs lo hi)))
theorem p9:AX X (U3 X.K):=by
 intro pins s σ H x v vl vu lo hi sl Q I rx hs pl pu h;obtain ⟨a,xs,rfl,hx,q⟩:=h;cases rx;obtain ⟨its,r,ht,hz⟩:=I.list hx;have hlen:=r.length;refine ⟨"list",_,slot_list_getitem.lookup,ht.isList.typeIs,?_⟩;refine wpAny_getItem_list_slice ht.isList hs pl pu .none (by simp) ?_ (by rw [dr]<;>omega)
 rw [uL,←hlen];refine ⟨.ref s.heap.objs.size,_,I.laid (t':=s.toks) (o:= .lst (fY xs lo hi)) (λb ob q=>Heap.get?_push_of_some _ q) (aT _) ?_,rfl,q _ (I.hok.fresh (aT _))⟩;exact ⟨jP (jS xs lo hi) hz,_,0,(r.drop (HT.bD xs.length 0 lo)).take (HT.bD xs.length xs.length hi-HT.bD xs.length 0 lo),Heap.get?_push_size _ rfl⟩
def fO:V→Bool
 | .aI=>true
 | .bl _=>true
 | .int _=>true
 | .str _=>true
 |_=>false
def nS:V→V→Bool
 | .aI, .aI=>true
 | .bl a, .bl b=>a==b
 | .bl a, .int b=>(if a then 1 else 0)==b
 | .int a, .bl b=>a==(if b then 1 else 0)
 | .int a, .int b=>a==b
 | .str a, .str b=>a==b
 |_,_=>false
theorem JU{A:Around}{s:Shared}{y x:V}{u v:Value}(ry:RelV y u)(rx:RelV x v)(fy:fO y=true)(fx:fO x=true):SeqAt.EqAt A s u v (nS y x):=by
 cases y with
 |aI=>
  cases ry;cases x with
  |aI=>cases rx;exact SeqAt.EqAt.same _
  |bl b=>cases rx;exact SeqAt.EqAt.none_bool b
  |int b=>obtain ⟨t,rfl⟩:=rx;exact SeqAt.EqAt.none_int b t
  |str b=>obtain ⟨t,rfl⟩:=rx;exact SeqAt.EqAt.none_str b t
  |_=>exact absurd (show false=true from fx) cB
 |bl a=>
  cases ry;cases x with
  |aI=>cases rx;exact SeqAt.EqAt.bool_none a
  |bl b=>cases rx;exact SeqAt.EqAt.bool_bool a b
  |int b=>obtain ⟨t,rfl⟩:=rx;exact SeqAt.EqAt.bool_int a b t
  |str b=>obtain ⟨t,rfl⟩:=rx;exact SeqAt.EqAt.bool_str a b t
  |_=>exact absurd (show false=true from fx) cB
 |int a=>
  obtain ⟨t',rfl⟩:=ry;cases x with
  |aI=>cases rx;exact SeqAt.EqAt.int_none a t'
  |bl b=>cases rx;exact SeqAt.EqAt.int_bool a t' b
  |int b=>obtain ⟨t,rfl⟩:=rx;exact SeqAt.EqAt.int_int a t' b t
  |str b=>obtain ⟨t,rfl⟩:=rx;exact SeqAt.EqAt.int_str a t' b t
  |_=>exact absurd (show false=true from fx) cB
 |str a=>
  obtain ⟨t',rfl⟩:=ry;cases x with
  |aI=>cases rx;exact SeqAt.EqAt.str_none a t'
  |bl b=>cases rx;exact SeqAt.EqAt.str_bool a t' b
  |int b=>obtain ⟨t,rfl⟩:=rx;exact SeqAt.EqAt.str_int a t' b t
  |str b=>obtain ⟨t,rfl⟩:=rx;exact SeqAt.EqAt.str_str a t' b t
  |_=>exact absurd (show false=true from fx) cB
 |_=>exact absurd (show false=true from fy) cB
def mZ(x:V)(u:Value):Bool:=match u with
 | .none=>nS .aI x
 | .bool b=>nS (.bl b) x
 | .int i _=>nS (.int i) x
 | .str z _=>nS (.str z) x
 |_=>false
theorem sS{x y:V}{u:Value}(r:RelV y u)(f:fO y=true):mZ x u=nS y x:=by
 cases y with
 |aI=>cases r;rfl
 |bl b=>cases r;rfl
 |int i=>obtain ⟨t,rfl⟩:=r;rfl
 |str z=>obtain ⟨t,rfl⟩:=r;rfl
 |_=>exact absurd (show false=true from f) cB
theorem kP{x:V}:∀{xs:List V}{us:List Value},Vals xs us→xs.all fO=true→us.any (mZ x)=xs.any λy=>nS y x
 |_,_, .nil,_=>rfl
 |y::xs,u::us, .cons r t,f=>by
  rw [List.all_cons,xp] at f;rw [List.any_cons,List.any_cons,sS r f.1,kP t f.2]
theorem iw{A:Around}{s:Shared}{x:V}{v:Value}(rx:RelV x v)(fx:fO x=true):∀{xs:List V}{us:List Value},Vals xs us→xs.all fO=true→∀u∈us,SeqAt.EqAt A s u v (mZ x u)
 |_,_, .nil,_=>λu hu=>by cases hu
 |y::xs,u::us, .cons r t,f=>λu' hu=>by
  rw [List.all_cons,xp] at f
  rcases cy.mp hu with rfl|hu
  ·rw [sS r f.1];exact JU r rx f.1 fx
  ·exact iw rx fx t f.2 u' hu
def BH(x:V)(xs:List V):Bool:=xs.any λy=>nS y x
def Lb(K:PySem.W.Frag)(neg:Bool):R2:=λx y H Q=>∃p xs,y= .ref p∧(aD K H p xs∨cZ K H p xs)∧fO x=true∧xs.all fO=true∧Q (.bl (if neg then !BH x xs else BH x xs)) H
theorem B7:OpR X (compareOp .In) (Lb X.K false):=by
 intro pins s σ H x y v u Q I rx ry h;obtain ⟨p,xs,rfl,hq,fx,fs,q⟩:=h;cases ry
 rcases hq with hq|hq
 ·obtain ⟨its,r,pl,hz⟩:=I.list hq
  refine SeqAt.in_listAt (mZ x) pl.isList (λw hw=>iw rx fx r fs w (by simpa using hw)) ⟨.bl _,H,I,rfl,?_⟩
  rw [show its.toArray.any (mZ x)=its.any (mZ x) by simp,kP r fs]
  exact q
 ·obtain ⟨its,r,pl,hz⟩:=I.tuple hq
  refine SeqAt.in_tupleAt (mZ x) pl (λw hw=>iw rx fx r fs w (by simpa using hw)) ⟨.bl _,H,I,rfl,?_⟩
  rw [show its.toArray.any (mZ x)=its.any (mZ x) by simp,kP r fs]
  exact q
theorem ni:OpR X (compareOp .NotIn) (Lb X.K true):=by
 intro pins s σ H x y v u Q I rx ry h;obtain ⟨p,xs,rfl,hq,fx,fs,q⟩:=h;cases ry
 rcases hq with hq|hq
 ·obtain ⟨its,r,pl,hz⟩:=I.list hq
  refine SeqAt.notIn_listAt (mZ x) pl.isList (λw hw=>iw rx fx r fs w (by simpa using hw)) ⟨.bl _,H,I,rfl,?_⟩
  rw [show its.toArray.any (mZ x)=its.any (mZ x) by simp,kP r fs]
  exact q
 ·obtain ⟨its,r,pl,hz⟩:=I.tuple hq
  refine SeqAt.notIn_tupleAt (mZ x) pl (λw hw=>iw rx fx r fs w (by simpa using hw)) ⟨.bl _,H,I,rfl,?_⟩
  rw [show its.toArray.any (mZ x)=its.any (mZ x) by simp,kP r fs]
  exact q
theorem bP:bQ X (.builtin "len") (λxs H Q=>∃p ys,xs= [.ref p]∧(aD X.K H p ys∨cZ X.K H p ys)∧Q (.int ys.length) H):=by
 intro pins s σ H xs us Q I r h;obtain ⟨p,ys,rfl,hq,q⟩:=h;obtain ⟨u,rfl,rx⟩:=vals1 r;cases rx;have hn:=j1
 rcases hq with hq|hq
 ·obtain ⟨its,r',pl,hz⟩:=I.list hq
  have hlen:=r'.length;exact Calls.call_len_list pl.isList (by simp only [dr]<;>omega) ⟨.int ys.length,H,I.tok _,⟨s.toks+1,by rw [dr,hlen]⟩,q⟩
 ·obtain ⟨its,r',pl,hz⟩:=I.tuple hq
  have hlen:=r'.length;exact len_tuple pl (by simp only [dr]<;>omega) ⟨.int ys.length,H,I.tok _,⟨s.toks+1,by rw [dr,hlen]⟩,q⟩
theorem m9:bQ X (.type "list") (λxs H Q=>∃p ys,xs= [.ref p]∧(aD X.K H p ys∨cZ X.K H p ys)∧∀l,H l=none→Q (.ref l) (upd H l (.lst ys))):=by
 intro pins s σ H xs us Q I r h;obtain ⟨p,ys,rfl,hq,q⟩:=h;obtain ⟨u,rfl,rx⟩:=vals1 r;cases rx
 have fin:∀(its:List Value),Vals ys its→ys.length≤sizeLine→∀(h':Heap)(c':Nat),(∀b o',s.heap.get? b=some o'→h'.get? b=some o')→
   h'.get? s.heap.objs.size=some {cls:= .type "list",dict:=none,data:= .seq its.toArray c',slots:= #[]}→EP X pins σ Q (.ref s.heap.objs.size) {s with heap:=h'}:=λits r' hz h' c' kp e=>
  ⟨.ref s.heap.objs.size,_,I.laid (t':=s.toks) kp (aT _) (show cC X.prog X.w _ h' _ (.lst ys) from ⟨hz,its,c',r',e⟩),rfl,q _ (I.hok.fresh (aT _))⟩
 rcases hq with hq|hq
 ·obtain ⟨its,r',pl,hz⟩:=I.list hq
  have hlen:=r'.length;obtain ⟨o,ho,hc,n,hd⟩:=pl.isList;exact call_list_seq p (.inl rfl) ho hc hd (λh' c' kp e=>fin its r' hz h' c' kp e) (by simp only [dr]<;>omega)
 ·obtain ⟨its,r',pl,hz⟩:=I.tuple hq
  have hlen:=r'.length;obtain ⟨o,ho,hc,n,hd⟩:=pl;exact call_list_seq p (.inr rfl) ho hc hd (λh' c' kp e=>fin its r' hz h' c' kp e) (by simp only [dr]<;>omega)
def LD(K:PySem.W.Frag)(T:String)(x:V)(H:Hp):Prop:=match x with
 | .str _=>T="str"
 | .int _=>T="int"
 | .ref p=>(T="list"∧∃xs,aD K H p xs)∨(T="tuple"∧∃o,K.lookup p=some o∧o.cls= .type "tuple"∧o.dict=none)∨
   (T="dict"∧((∃dM,H p=some (.dK dM))∨∃dM,H p=some (.dT dM)))∨(T="set"∧∃S n,H p=some (.set S n))
 |_=>False
theorem D6{pins:List (Addr×Obj)}{σ:St}{H:Hp}{s:Shared}{T:String}{x:V}{v:Value}(I:Inv X pins σ H s)(r:RelV x v)(ty:LD X.K T x H):
  s.TypeIs v T∧∀a,v= .ref a→∃ob,s.heap.get? a=some ob∧ob.dict=none:=by
 cases x with
 |str z=>
  obtain ⟨t,rfl⟩:=r;cases (show T="str" from ty);exact ⟨typeIs_str s z t,λ_ e=>nomatch e⟩
 |int i=>
  obtain ⟨t,rfl⟩:=r;cases (show T="int" from ty);exact ⟨typeIs_int s i t,λ_ e=>nomatch e⟩
 |ref p=>
  cases r
  rcases ty with ⟨rfl,xs,hq⟩ | ⟨rfl,o,hk,hc,hd⟩ | ⟨rfl,hk⟩ | ⟨rfl,S,n,hk⟩
  ·obtain ⟨its,_,pl,_⟩:=I.list hq
   refine ⟨pl.isList.typeIs,λa e=>?_⟩;cases e;obtain ⟨o,n,e,c,hd,_⟩:=pl;exact ⟨o,e,hd⟩
  ·refine ⟨⟨o,I.gQ p o hk,hc⟩,λa e=>?_⟩
   cases e;exact ⟨o,I.gQ _ o hk,hd⟩
  ·have z:∃o,s.heap.get? p=some o∧o.ExactDict:=by
    rcases hk with ⟨dM,hk⟩ | ⟨dM,hk⟩
    ·obtain ⟨_,_,_,_,o,_,_,e,ex,_⟩:=I.hok p _ hk
     exact ⟨o,e,ex⟩
    ·obtain ⟨_,_,_,_,o,_,_,e,ex,_⟩:=I.hok p _ hk
     exact ⟨o,e,ex⟩
   obtain ⟨o,e,ex⟩:=z;refine ⟨⟨o,e,ex.1⟩,λa e2=>?_⟩;cases e2;exact ⟨o,e,ex.2.1⟩
  ·obtain ⟨o,_,_,_,e,ex,_⟩:=I.hok p _ hk
   refine ⟨⟨o,e,ex.1⟩,λa e2=>?_⟩;cases e2;exact ⟨o,e,ex.2.1⟩
 |_=>exact False.elim ty
def VB(K:PySem.W.Frag)(T:String)(r:V→List V→Hp→VK→Prop)(to:TE):TE:=λσ H Q=>to σ H λx H1=>LD K T x H1∧r x [] H1 Q
def tBM(K:PySem.W.Frag)(T:String)(r:V→List V→Hp→VK→Prop)(to:TE)(t:TA):TE:=λσ H Q=>to σ H λx H1=>LD K T x H1∧t σ H1 λxs H2=>r x xs H2 Q
variable {o e:Expr} {es:List Expr} {to:TE} {t:TA} {name:Str} {apos aL:Pos} {T id:String} {r:V→List V→Hp→VK→Prop}
theorem DD(pa:PlainAttrs T)(slot:Slot T name id)(Ht:typeOf (.builtin id)=pure (.type "method_descriptor"))(hm:Jx X id r)(ho:PE X o to)
  (dD:attributeBase o name X.env (eval o X.env)=eval o X.env:=by rfl) (cw:(apos.endLine==aL.line)=true:=by rfl):PE X (.Call (.Attribute o name apos) [] [] aL) (VB X.K T r to):=by
 intro pins s σ H Q I h;refine wpAny_Call_method0_late dD cw (thn (ho pins s σ H _ I h) λv s1 ⟨x,H1,I1,r1,ty,q1⟩=>?_);obtain ⟨h1,h2⟩:=D6 I1 r1 ty;exact ⟨T,id,pa,slot,Ht,h1,h2,Calls.callWith_builtin rfl (PySem.evalArgs_none (hm pins s1 σ H1 x [] v [] Q I1 r1 .nil q1))⟩
theorem fu(pa:PlainAttrs T)(slot:Slot T name id)(Ht:typeOf (.builtin id)=pure (.type "method_descriptor"))(hm:Jx X id r)(ho:PE X o to)(ha:PA X (e::es) t)
  (dD:attributeBase o name X.env (eval o X.env)=eval o X.env:=by rfl)
  (jy:((backTo aL (starEach (e::es) X.env)).all (λx=>!x.1)&&(backToKw aL (keywordEach [] X.env)).all (λx=>x.1.isSome)
   &&decide ((e::es).length+([]:List Keyword).length+(if ([]:List Keyword).isEmpty then 0 else 1)<30))=true:=by rfl)
  (cw:(apos.endLine==aL.line)=true:=by rfl) (hs:starEach (e::es) X.env=(false,eval e X.env)::starEach es X.env:=by rfl) (eS:(backTo aL (starEach es X.env)).any (·.1)=false:=by rfl):
  PE X (.Call (.Attribute o name apos) (e::es) [] aL) (tBM X.K T r to t):=by
 intro pins s σ H Q I h;refine wpAny_Call_method_late dD jy cw rfl (thn (ho pins s σ H _ I h) λv s1 ⟨x,H1,I1,r1,ty,q1⟩=>?_);obtain ⟨h1,h2⟩:=D6 I1 r1 ty;refine ⟨T,id,pa,slot,Ht,h1,h2,?_⟩;have hA:=ha aL pins s1 σ H1 _ I1 q1;rw [hs] at hA ⊢;refine Calls.callWith_builtin (by show (false|| (backTo aL (starEach es X.env)).any (·.1))=false;rw [eS]<;>rfl) (Calls.evalArgs_plain ?_)
 exact thn hA λus s2 ⟨vs,H2,I2,r2,q2⟩=>hm pins s2 σ H2 x vs v us Q I2 r1 r2 q2
end
def AW(X:Cx)(id:String)(r:V→List V→Hp→VK→Prop):Prop:=
 ∀(pins:List (Addr×Obj))(s:Shared)(σ:St)(H:Hp)(x:V)(xs:List V)(v:Value)(us:List Value)(Q:VK),Inv X pins σ H s→RelV x v→Vals xs us→r x xs H Q→
  wpAny (model X.prog X.w) X.A (call (.builtin id) (v::us)) (EP X pins σ Q) X.xe s
theorem Vals.one:∀{x:V}{us:List Value},Vals [x] us→∃u,us= [u]∧RelV x u
 |_,_, .cons r .nil=>⟨_,rfl,r⟩
theorem Vals.two:∀{x y:V}{us:List Value},Vals [x,y] us→∃u v,us= [u,v]∧RelV x u∧RelV y v
 |_,_,_, .cons r (.cons q .nil)=>⟨_,_,rfl,r,q⟩
theorem Vals.zero:∀{us:List Value},Vals [] us→us= []
 |_, .nil=>rfl
theorem Vals.dropLast{xs:List V}{us:List Value}(h:Vals xs us):Vals xs.dropLast us.dropLast:=by
 induction h with
 |nil=>exact .nil
 |cons r t ih=>
  cases t with
  |nil=>exact .nil
  |cons q t'=>exact .cons r ih
theorem Vals.eraseIdx:∀{xs:List V}{us:List Value}(i:Nat),Vals xs us→Vals (xs.eraseIdx i) (us.eraseIdx i)
 |_,_,_, .nil=> .nil
 |_,_,0, .cons _ t=>t
 |_,_,i+1, .cons r t=> .cons r (Vals.eraseIdx i t)
theorem Vals.reverse{xs:List V}{us:List Value}(h:Vals xs us):Vals xs.reverse us.reverse:=by
 induction h with
 |nil=>exact .nil
 |cons r t ih=>rw [List.reverse_cons,List.reverse_cons];exact Vals.append ih (.cons r .nil)
theorem zw{α:Type}(l:List α):l.eraseIdx (l.length-1)=l.dropLast:=by
 induction l with
 |nil=>rfl
 |cons a r ih=>
  cases r with
  |nil=>rfl
  |cons b r=>
   have e:(a::b::r).length-1=((b::r).length-1)+1:=by
    have h1:(a::b::r).length=r.length+2:=rfl;have h2:(b::r).length=r.length+1:=rfl;omega
   rw [e,List.eraseIdx_cons_succ,ih]
   all_goals rfl
theorem ui{α:Type}:∀(l:List α)(i:Nat),(l.eraseIdx i).length≤l.length
 | [],_=>aT _
 |_::_,0=>mr _
 |_::r,i+1=>Nat.succ_le_succ (ui r i)
section
variable {X:Cx} {pins:List (Addr×Obj)} {σ:St} {H:Hp} {s:Shared} {l b:Addr} {xs ys zs:List V}
theorem Inv.wO{its its':List Value}{n:Nat}{f:Array Value→Array Value}{t':Nat}(I:Inv X pins σ H s)(hH:H l=some (.lst xs))
  (e:s.heap.get? l=some {cls:= .type "list",data:= .seq its.toArray n}) (hf:f its.toArray=its'.toArray) (hv:Vals ys its') (hz:ys.length≤sizeLine):
  Inv X pins σ (upd H l (.lst ys)) {s with heap:=s.heap.update l (Obj.mapSeq f),toks:=t'}:=by
 have q:=PySem.IsL.update e f;rw [hf] at q;refine I.write (x:=l) (e:=l) (by rw [hH];exact trivial) (.inl rfl) (λb' u hb hu=>(Heap.get?_update_other s.heap (Obj.mapSeq f) (Ne.symm hb)).trans hu) ⟨_,q⟩ ?_
 exact ⟨hz,its',_,hv,q⟩
theorem Inv.HK{its:List Value}{t':Nat}(I:Inv X pins σ H s)(hv:Vals ys its)(hz:ys.length≤sizeLine):
  Inv X pins σ (upd H s.heap.objs.size (.lst ys)) {s with heap:=s.heap.push {cls:= .type "list",data:= .seq its.toArray},toks:=t'}:=
 I.laid (λ_ _ q=>Heap.get?_push_of_some _ q) (aT _) ⟨hz,its,0,hv,Heap.get?_push_size _ rfl⟩
theorem Inv.fresh(I:Inv X pins σ H s):H s.heap.objs.size=none:=I.hok.fresh (aT _)
theorem Inv.lA(I:Inv X pins σ H s)(hH:H l=some (.lst xs)):xs.length≤sizeLine∧∃(its:List Value)(n:Nat),Vals xs its∧xs.length=its.length∧s.heap.get? l=some {cls:= .type "list",data:= .seq its.toArray n}:=by
 obtain ⟨z,its,n,r,e⟩:=I.hok l _ hH;exact ⟨z,its,n,r,r.length,e⟩
theorem E9{n:Nat}(h:n≤sizeLine):Builtin.List.listTooLong n=false:=by
 unfold Builtin.List.listTooLong;exact decide_eq_false (by omega)
end
section
variable {X:Cx}
def IF:V→List V→Hp→VK→Prop:=λx vs H Q=>∃l xs y,x= .ref l∧vs= [y]∧H l=some (.lst xs)∧xs.length<sizeLine∧Q .aI (upd H l (.lst (xs++ [y])))
theorem ft:AW X "list.append" IF:=by
 intro pins s σ H x vs v us Q I rx rv h;obtain ⟨l,xs,y,rfl,rfl,hH,hz,q⟩:=h;cases rx;obtain ⟨u,rfl,ru⟩:=rv.one;obtain ⟨z,its,n,r,hl,e⟩:=I.lA hH;refine call_meets F.slot_list_append ⟨_,e,rfl⟩ F.entry_list_append (F.args_list_append_2 _ _) (PySem.list_append l its.toArray n u (by rw [dr];omega)) ⟨e,?_⟩
 refine ⟨.aI,_,I.wO (its':=its++ [u]) hH e (by simp) (r.append (.cons ru .nil)) ?_,rfl,q⟩
 rw [dE,List.length_singleton];omega
def IG:V→List V→Hp→VK→Prop:=λx vs H Q=>∃l b xs zs,x= .ref l∧vs= [.ref b]∧H l=some (.lst xs)∧H b=some (.lst zs)∧xs.length+zs.length≤sizeLine∧Q .aI (upd H l (.lst (xs++zs)))
theorem BX:AW X "list.extend" IG:=by
 intro pins s σ H x vs v us Q I rx rv h;obtain ⟨l,b,xs,zs,rfl,rfl,hH,hB,hz,q⟩:=h;cases rx;obtain ⟨u,rfl,ru⟩:=rv.one;cases ru;obtain ⟨z,its,n,r,hl,e⟩:=I.lA hH;obtain ⟨z2,rK,n2,r2,zC,e2⟩:=I.lA hB;have fk:its.toArray.size+rK.toArray.size≤sizeLine:=by rw [dr,dr];omega
 have Of:¬(!its.toArray.isEmpty&&Builtin.List.listTooLong (its.toArray.size+rK.toArray.size))=true:=by
  rw [E9 fk,Bool.and_false];exact cB
 refine call_meets F.slot_list_extend ⟨_,e,rfl⟩ F.entry_list_extend (F.args_list_extend_2 _ _)
  (AutoSeq1.list_extend_list_list_0 l its.toArray n b rK.toArray n2 Of (by rw [dr];omega) (by omega)) ⟨e,e2,?_⟩
 refine ⟨.aI,_,I.wO (its':=its++rK) hH e (by simp) (r.append r2) ?_,rfl,q⟩
 rw [dE];omega
def U2:V→List V→Hp→VK→Prop:=λx vs H Q=>∃l xs y,x= .ref l∧vs= []∧H l=some (.lst xs)∧xs[xs.length-1]? =some y∧Q y (upd H l (.lst xs.dropLast))
theorem Ky:AW X "list.pop" U2:=by
 intro pins s σ H x vs v us Q I rx rv h;obtain ⟨l,xs,y,rfl,rfl,hH,hy,q⟩:=h;cases rx;have OB:=rv.zero;subst OB;obtain ⟨z,its,n,r,hl,e⟩:=I.lA hH;obtain ⟨u,hu,ru⟩:=r.get hy
 have EX:its.toArray[its.toArray.size-1]? =some u:=by
  show its.toArray[its.length-1]? =some u;rw [←eG,←hl];exact hu
 refine call_meets F.slot_list_pop ⟨_,e,rfl⟩ F.entry_list_pop (F.args_list_pop_1 _) (MeetsSeq.list_pop_last l its.toArray n u EX (by rw [dr];omega)) ⟨e,?_⟩
 refine ⟨y,_,I.wO (its':=its.dropLast) hH e ?_ r.dropLast ?_,ru,q⟩
 ·show its.toArray.eraseIdxIfInBounds (its.toArray.size-1)=its.dropLast.toArray
  rw [dr,List.eraseIdxIfInBounds_toArray,zw]
 ·rw [List.length_dropLast]
  omega
def Ld:V→List V→Hp→VK→Prop:=λx vs H Q=>∃l xs i k y,x= .ref l∧vs= [.int i]∧H l=some (.lst xs)∧-(2^63)≤i∧i<2^63∧seqIndex? i xs.length=some k∧xs[k]? =some y∧Q y (upd H l (.lst (xs.eraseIdx k)))
theorem E8:AW X "list.pop" Ld:=by
 intro pins s σ H x vs v us Q I rx rv h;obtain ⟨l,xs,i,k,y,rfl,rfl,hH,h1,h2,hk,hy,q⟩:=h;cases rx;obtain ⟨u,rfl,ru⟩:=rv.one;obtain ⟨t,rfl⟩:=ru;obtain ⟨z,its,n,r,hl,e⟩:=I.lA hH;obtain ⟨w,hw,oI⟩:=r.get hy
 refine call_meets F.slot_list_pop ⟨_,e,rfl⟩ F.entry_list_pop (F.args_list_pop_2 _ _)
  (MeetsSeq.list_pop_at l its.toArray n i t k w (fitsIndex_both h1 h2) (by rw [dr,←hl];exact hk) (by rw [←eG];exact hw) (by rw [dr];omega)) ⟨e,?_⟩
 refine ⟨y,_,I.wO (its':=its.eraseIdx k) hH e ?_ (r.eraseIdx k) ?_,oI,q⟩
 ·show its.toArray.eraseIdxIfInBounds k=(its.eraseIdx k).toArray
  rw [List.eraseIdxIfInBounds_toArray]
 ·have:=ui xs k
  omega
def Fs:V→List V→Hp→VK→Prop:=λx vs H Q=>∃l xs,x= .ref l∧vs= []∧H l=some (.lst xs)∧Q .aI (upd H l (.lst xs.reverse))
theorem z4:AW X "list.reverse" Fs:=by
 intro pins s σ H x vs v us Q I rx rv h;obtain ⟨l,xs,rfl,rfl,hH,q⟩:=h;cases rx;have OB:=rv.zero;subst OB;obtain ⟨z,its,n,r,hl,e⟩:=I.lA hH;refine call_meets F.slot_list_reverse ⟨_,e,rfl⟩ F.entry_list_reverse (F.args_list_reverse_1 _) (AutoSeq1.list_reverse_list_0 l its.toArray n (by rw [dr];omega)) ⟨e,?_⟩
 refine ⟨.aI,_,I.wO (its':=its.reverse) hH e (by simp) r.reverse ?_,rfl,q⟩
 rw [List.length_reverse];omega
def UY:R2:=λx y H Q=>∃l b xs zs,x= .ref l∧y= .ref b∧H l=some (.lst xs)∧H b=some (.lst zs)∧xs.length+zs.length≤sizeLine∧∀p,H p=none→Q (.ref p) (upd H p (.lst (xs++zs)))
theorem yD:OpR X (binaryOp .Add) UY:=by
 intro pins s σ H x y v u Q I rx ry h;obtain ⟨l,b,xs,zs,rfl,rfl,hH,hB,hz,q⟩:=h;cases rx;cases ry;obtain ⟨z,its,n,r,hl,e⟩:=I.lA hH;obtain ⟨z2,rK,n2,r2,zC,e2⟩:=I.lA hB;refine PySem.P.add_list e e2 ?_ (by rw [dr,dr];omega)
 have ea:its.toArray++rK.toArray=(its++rK).toArray:=by simp
 rw [ea];exact ⟨.ref _,_,I.HK (t':=s.toks) (r.append r2) (by rw [dE];omega),rfl,q _ I.fresh⟩
end
section
variable {prog:Program} {w:World} {A:Around} {E:Value→Shared→Prop} {s:Shared}
end
section
variable {X:Cx}
end
end L2
namespace PB
open PySem PySem.W PySem.Calls PyProof.Rows
theorem qD{P:Params}{h:Heap}:∀(ns:List Int)(vs:List Value),WellAll P h vs (ns.map WData.int)→IntsAre vs ns:=by
 intro ns
 induction ns with
 |nil=>
  intro vs w;rw [List.map_nil] at w;cases w;exact .nil
 |cons n ns ih=>
  intro vs w;rw [fF] at w;cases w with
  |cons a b=>
   cases a;exact .cons _ _ (ih _ b)
theorem Cu{l:OpenLaw}{n:Nat}(hn:l.most=some n){P:Params}{h:Heap}{args:List WData}{vals:List Value}
  (Dt:l.row.toRowW.claim.pre args=true) (OD:WellAll P h vals args):
  ∃a vs ns,vals= [Value.ref a]∧args= [WData.list (ns.map WData.int)]∧h.get? a=some {cls:= .type "list",data:= .seq vs.toArray}∧IntsAre vs ns∧ns.length≤n:=by
 have YC:WShape.hasAll [] args [.list .int]=true:=(pre_splitW Dt).1;have hc:l.pre.holds [] {args:=args}=true:=(pre_splitW Dt).2;obtain ⟨d,r,rfl,h1,h2⟩:=hasAllW_cons YC;obtain rfl:=hasAllW_nil h2;obtain ⟨xs,rfl,h3⟩:=hasW_list h1;obtain ⟨ns,rfl⟩:=items_int h3
 have hlen:ns.length≤n:=by
  unfold OpenLaw.pre at hc
  have h4:(WTm.not (.lt (.lit (.int (n:Int))) (.len (.arg 0)))).holds [] {args:= [.list (ns.map .int)]}=true:=by
   have h4:=(holds_andW hc).1;rw [hn] at h4;exact h4
  have h5:=condW_of h4 (w_not (w_lt w_lit (w_len_list (w_arg rfl))));rw [aM] at h5;refine kJ λq=>?_;have q':(n:Int)<((ns.length:Nat):Int):=by omega
  first
   | (rw [decide_eq_true q'] at h5;exact absurd h5 (by decide))
   | (simp at h5;omega)
 cases OD with
 |cons w1 w2=>
  cases w2;cases w1 with
  |list ho gZ=>exact ⟨_,_,ns,rfl,rfl,ho,qD ns _ gZ,hlen⟩
theorem Ci(l:OpenLaw)(args:List WData):l.row.toRowW.claim.post args (.bool true) args=true:=
 postW_of (r:=l.row.toRowW) (X:=(true==true))
  (show WShape.has [] (.bool true) .bool=true by first|rfl|decide|simp [WShape.has,WShape.arms,WShape.armsAll])
  (show (WTm.eq .res (.lit (.bool true))).value [] {args:=args,res:=some (.bool true),after:=args}=some (.bool (true==true)) from w_eq_bool (w_res rfl) w_lit) rfl
theorem xE{l:OpenLaw}{n:Nat}{q:Program}{loose:List Str}{XP:(Str→Option Value)→Heap→Prop}{YP:World→Heap→Prop}{d:DefRec}
  (hn:l.most=some n) (Bw:d.params.defaults= [])
  (call:∀(w:World)(s₀ s₁:Shared)(mg mb:Str→Option Value)(fa:Addr)(o:Obj)(pm cd doc:Value)(a:Addr)(vs:List Value)(ns:List Int),
   Ground q loose [] XP w s₀ mg mb s₁.heap→YP w s₁.heap→
   s₁.heap.get? fa=some o→o.data= .func (docDef d.name d.params d.body d.scope pm cd doc)→s₁.heap.CodeRec cd d.name→mg d.name=some (.ref fa)→
   s₁.heap.get? a=some {cls:= .type "list",data:= .seq vs.toArray}→IntsAre vs ns→ns.length≤n→s₁.gens= #[]→
   codeAny (model l.prog w) callerA (.call (.ref fa) ⟨[.ref a],[]⟩) (λr s'=>r= .ok (.ret (.bool true))∧OldK s₁.heap s'.heap∧s'.os=s₁.os∧AllBare s'.gens) s₁):
  WalkO q loose XP YP l.row.toRowW d [] (λf vs=>PySem.call f vs):=by
 intro w s₀ s₁ mg mb G Y fa o pm cd doc dV kV ho hd fj hD t7 hg args vals as Dt aae hrd OD zE;obtain rfl:dV= .none:=Dflts.none hD Bw;obtain rfl:kV= .none:=Dflts.noKw hD;obtain ⟨a,vs,ns,rfl,rfl,Hm,hints,hlen⟩:=Cu hn Dt OD;refine enter_call (codeAny_mono (call w s₀ s₁ mg mb fa o pm cd doc a vs ns G Y ho (fd_plain hd) fj t7 Hm hints hlen hg) λr s' hq=>?_);obtain ⟨rfl,h2,h3,h4⟩:=hq;exact ⟨.inl ⟨.bool true, .bool true,[],rfl,λ_=>rfl, .bool true,Ci l _,λ_=>⟨List.Pairwise.nil,λ_ hm=>(nomatch hm)⟩⟩,h2,h3,h4⟩
section
variable {prog:Program} {w:World} {A:Around} {E:Value→Shared→Prop} {s:Shared} {K:Frag}
end
end PB
namespace L2
open PySem PySem.Spec PyProof.Rows
theorem uW:∀{vs:List Value}{ns:List Int},IntsAre vs ns→Vals (ns.map V.int) vs
 |_,_, .nil=> .nil
 |_,_, .cons n t h=> .cons ⟨t,rfl⟩ (uW h)
def FL(H:Hp):Prop:=∀b,H b=none∨∃o xs,H b=some (.ph o (.lst xs))
theorem E1{P:Program}{w:World}{K:PySem.W.Frag}{mg mb:Str→Option Value}{CX:qq}{k:Nat}{fa a:Addr}{fd:FuncData}{x:Str}{sp:Sp}{s₁:Shared}{vs:List Value}{ns:List Int}
  (KX:K.In s₁.heap) (xY:s₁.heap.Ns mainGlobals mg) (hb:s₁.heap.Ns builtinsNs mb) (XW:∀x:Str,x≠"__name__"→mb x=bootBuiltins x) (Sh:s₁.heap.NoLimit) (hg:s₁.gens= #[])
  (ha:s₁.heap.get? a=some {cls:= .type "list",data:= .seq vs.toArray}) (hi:IntsAre vs ns) (hl:ns.length≤sizeLine) (hr:b8 k callerA)
  (F:∀base:Heap,K.In base→base.Ns mainGlobals mg→FnOk P w K mg base CX k fa fd [x] sp) (N0:∀(s:Shared)(u:Value),BindsTo s fd ⟨[u],[]⟩ [(x,u)])
  (zI:∀H:Hp,FL H→aD K H a (ns.map V.int)→sp [.ref a] H (λv _=>v= .bl true) λ_ _ _=>False)
  (NR:∀H e s',CX [] H s₁ (λ_ _ _=>False) e s'→False):
  codeAny (model P w) callerA (.call (.ref fa) ⟨[.ref a],[]⟩) (λr s'=>r= .ok (.ret (.bool true))∧OldK s₁.heap s'.heap∧s'.os=s₁.os∧AllBare s'.gens) s₁:=by
 have rv:=uW hi;have Tw:=hi.length
 have core:∀H:Hp,FL H→aD K H a (ns.map V.int)→hU P w H s₁.heap→(∀b,H b≠none→b=a)→(H a≠none→K.lookup a=none)→
   codeAny (model P w) callerA (.call (.ref fa) ⟨[.ref a],[]⟩) (λr s'=>r= .ok (.ret (.bool true))∧OldK s₁.heap s'.heap∧s'.os=s₁.os∧AllBare s'.gens) s₁:=by
  intro H hO hS hok hA hK;have y9:∀{b:Addr}{o:Obj},s₁.heap.get? b=some o→H b=none→(pz s₁.heap H).get? b=some o:=λe n=>ER e n
  have HS:∀{b:Addr}{o:Obj}{es:Array DictEntry}{ep:Nat},s₁.heap.get? b=some o→o.data= .dict es ep→H b=none:=λ {b o es ep} e d=>by
   cases q:H b with
   |none=>rfl
   |some u=>
    have e':b=a:=hA b (by rw [q];simp)
    subst e';rw [ha] at e;cases e;have d':Data.seq vs.toArray _=Data.dict es ep:=d;cases d'
  have KD:∀{b:Addr}{m:Str→Option Value},s₁.heap.Ns b m→(pz s₁.heap H).Ns b m:=λ {b m} ⟨o,es,ep,e,d,r⟩=>⟨o,es,ep,y9 e (HS e d),d,r⟩
  have RF:K.In (pz s₁.heap H):=λb o e=>y9 (KX b o e) (by
   cases q:H b with
   |none=>rfl
   |some u=>
    have e':b=a:=hA b (by rw [q];simp)
    subst e';rw [hK (by rw [q];simp)] at e;cases e)
  have hM:Mod K mg (pz s₁.heap H):=⟨RF,KD xY,⟨mb,KD hb,XW⟩,let ⟨mc,h1,h2⟩:=Sh;⟨mc,KD h1,h2⟩⟩;have e0:Env0 P w K mg (pz s₁.heap H) callerA [] s₁ H:=⟨rfl,hM,λb o e=>HZ e,Nat.le_of_eq (Bz _ _),trivial,λb hb=>absurd (show b∈([]:List Addr) from hb) (by simp),hok, .of_eq hg⟩
  refine codeAny_mono ((F _ RF (KD xY)).run callerA [] s₁ H ⟨[.ref a],[]⟩ [.ref a] [.ref a] _ _ hr e0 (N0 s₁ (.ref a)) (.cons rfl .nil) (zI H hO hS)) λr s' h=>?_;cases r with
  |error e=>exact (NR H e s' h).elim
  |ok fl=>
   cases fl with
   |next=>exact False.elim h
   |brk=>exact False.elim h
   |cont=>exact False.elim h
   |ret u=>
    obtain ⟨v,H',os,bare,un,Sw,r',q⟩:=h;have q':v= .bl true:=q;subst q';obtain rfl:u=Value.bool true:=r';refine ⟨rfl,OldK.of_keep λb o e=>?_,os,bare⟩;cases q:H b with
    |none=>exact un.keep b o e q (by intro z;exact absurd (show b∈([]:List Addr) from z) (by simp)) (by simp)
    |some u=>
     rcases hO b with z| ⟨ob,xs,z⟩
     ·rw [q] at z;cases z
     ·have z2:=un.frzs b ob _ z
      obtain ⟨e1,_⟩:=hok b _ z;obtain ⟨e2,_⟩:=Sw b _ z2;rw [e] at e1;cases e1;exact e2
 cases hk:K.lookup a with
 |some o=>
  have e:=KX a o hk;rw [ha] at e;cases e;refine core (λ_=>none) (λ_=> .inl rfl) (.inr ⟨_,vs.toArray,_,hk,rfl,rfl,rfl,by rw [dr,Tw];exact hl,by simpa using rv⟩) (λb u z=>by have z':(none:Option HO)=some u:=z;cases z') (λb z=>absurd rfl z) λz=>absurd rfl z
 |none=>
  refine core (λb=>if b=a then some (.ph {cls:= .type "list",data:= .seq vs.toArray} (.lst (ns.map V.int))) else none) (λb=>?_) (.inl (.inr ⟨{cls:= .type "list",data:= .seq vs.toArray},if_pos rfl⟩)) (λb u z=>?_) (λb z=>?_) λ_=>hk
  ·by_cases hb:b=a
   ·exact .inr ⟨_,_,if_pos hb⟩
   ·exact .inl (if_neg hb)
  ·by_cases hb:b=a
   ·have z':=(if_pos hb).symm.trans z
    cases z';subst hb;exact ⟨ha,by rw [aM];exact hl,vs,_,rv,ha⟩
   ·have z':=(if_neg hb).symm.trans z
    cases z'
  ·by_cases hb:b=a
   ·exact hb
   ·exact absurd (if_neg hb) z
theorem Jp{l:PySem.W.OpenLaw}{n k:Nat}{q:Program}{loose:List Str}{XP:(Str→Option Value)→Heap→Prop}{YP:World→Heap→Prop}{d:DefRec}{K:Params→PySem.W.Frag}{CX:World→qq}{sp:World→Sp}{x:Str}
  (hn:l.most=some n) (vG:n≤sizeLine) (Bw:d.params.defaults= []) (hr:b8 k callerA)
  (hY:∀(w:World)(h:Heap),YP w h→(K w.params).In h)
  (F:∀(w:World)(mg:Str→Option Value)(fa:Addr)(h:Heap),(K w.params).In h→h.Ns mainGlobals mg→mg d.name=some (.ref fa)→
   ∃fd:FuncData,(∀(s:Shared)(u:Value),BindsTo s fd ⟨[u],[]⟩ [(x,u)])∧
    ∀base:Heap,(K w.params).In base→base.Ns mainGlobals mg→FnOk l.prog w (K w.params) mg base (CX w) k fa fd [x] (sp w))
  (zI:∀(w:World)(H:Hp)(a:Addr)(ns:List Int),ns.length≤n→FL H→aD (K w.params) H a (ns.map V.int)→sp w [.ref a] H (λv _=>v= .bl true) λ_ _ _=>False)
  (NR:∀(w:World)(H:Hp)(s:Shared)(e:Value)(s':Shared),CX w [] H s (λ_ _ _=>False) e s'→False):
  PySem.W.WalkO q loose XP YP l.row.toRowW d [] (λf vs=>PySem.call f vs):=by
 refine PB.xE hn Bw λw s₀ s₁ mg mb fa o pm cd doc a vs ns G Y ho hd fj t7 Hm hints hlen hg=>?_;have KX:=hY w _ Y;obtain ⟨fd,hb,hF⟩:=F w mg fa _ KX G.T.g t7;exact E1 KX G.T.g G.T.b G.T.builtins G.T.nolimit hg Hm hints (jP hlen vG) hr hF hb (λH hO hS=>zI w H a ns hlen hO hS) λH e s'=>NR w H s₁ e s'
def inClass(s:Stmt)(j:Nat):Stmt:=match s with
 | .ClassDef _ _ _ body _ _ _ _ _ _ _=>body.getD j (.Pass ⟨0,0,0,0⟩)
 |_=> .Pass ⟨0,0,0,0⟩
def iD(s:Stmt):Arguments:=match s with
 | .FunctionDef _ a _ _ _ _ _ _ _ _=>a
 |_=>{posonlyargs:= [],args:= [],vararg:=none,kwonlyargs:= [],kw_defaults:= [],kwarg:=none,defaults:= []}
def eB(s:Stmt):List Stmt:=match s with
 | .FunctionDef _ _ b _ _ _ _ _ _ _=>b
 |_=> []
def ao(s:Stmt):Scope:=match s with
 | .FunctionDef _ _ _ _ _ _ sc _ _ _=>sc
 |_=>{kind:= .function,names:= [],isGenerator:=false,isCoroutine:=false}
abbrev bY:qq:=λ_ _ _ _ _ _=>False
abbrev E0:XK:=λ_ _ _=>False
theorem bK{X:Cx}:Passes bY X E0:=λ_ _ _ _ _ _ _ h=>h.elim
structure vx (K:PySem.W.Frag) (x qual:Str) (st:Stmt) (f:Addr) (fd:FuncData):Prop where
 ex:∃(oc:Value)(od:Option Addr)(kV doc pm:Value)(an:Option Addr)(bo ct:Value)(z7:Array (Option Value)),
  fd=PySem.W.fnOf x qual (iD st) (eB st) (ao st) .none kV doc pm an bo ct∧K.lookup f=some ⟨oc,od, .func fd,z7⟩∧PySem.W.codeIn K bo qual=true
 kp:PySem.W.keepIn K (.ref f)=true
section
variable {P:Program} {w:World} {K:PySem.W.Frag} {mg:Str→Option Value} {base:Heap}
theorem vx.ok{x qual:Str}{st:Stmt}{f:Addr}{fd:FuncData}{N ps:List Str}{k:Nat}{sp:Sp}(F:vx K x qual st f fd)(S:aG N ps (ao st))(len:∀vs H Q E,sp vs H Q E→vs.length=ps.length)
  (n4:∀(bo:Value)(A:Around)(outer:List Env)(s:Shared)(H:Hp)(vs:List V)(Q:VK)(E:XK),b8 k (A.deeper (envOfC qual (ao st) s.heap.objs.size f bo))→sp vs H Q E→
   ∃t,kK (oT bY P w K mg base N qual (ao st) f bo A outer s H E).iV (eB st) t∧t {nx:=λ_ H'=>Q .aI H',rt:=Q} (start N vs) H):FnOk P w K mg base bY (k+1) f fd ps sp:=by
 obtain ⟨oc,od,kV,doc,pm,an,bo,ct,z7,rfl,lk,fj⟩:=F.ex;refine NO lk fj S len λA outer s H vs Q E hr zI=>?_;obtain ⟨t,h,q⟩:=n4 bo A outer s H vs Q E hr zI;exact ⟨t,h.iV,q⟩
theorem vx.binds{x qual:Str}{st:Stmt}{f:Addr}{fd:FuncData}{ps:List Str}(F:vx K x qual st f fd)
  (h:∀(kV doc pm:Value)(an:Option Addr)(bo ct:Value)(us:List Value),us.length=ps.length→bindArgs (PySem.W.fnOf x qual (iD st) (eB st) (ao st) .none kV doc pm an bo ct) ⟨us,[]⟩=pure (ps.zip us)):Binds K fd ps []:=by
 obtain ⟨oc,od,kV,doc,pm,an,bo,ct,z7,rfl,lk,fj⟩:=F.ex;exact .all (h kV doc pm an bo ct)
theorem pj{x qual:Str}{st:Stmt}{f:Addr}{oc:Value}{od an:Option Addr}{z7:Array (Option Value)}{kV doc pm bo ct:Value}(l:K.lookup f=some ⟨oc,od, .func (PySem.W.fnOf x qual (iD st) (eB st) (ao st) .none kV doc pm an bo ct),z7⟩)
  (c:PySem.W.codeIn K bo qual=true) (k:PySem.W.keepIn K (.ref f)=true):vx K x qual st f (PySem.W.fnOf x qual (iD st) (eB st) (ao st) .none kV doc pm an bo ct):=⟨⟨oc,od,kV,doc,pm,an,bo,ct,z7,rfl,l,c⟩,k⟩
end
theorem ba{n:Nat}(h:n≤1000):n<sizeLine:=mq h (by decide)
section
variable {X:Cx}
theorem pv(i:Nat){x:Str}{pos:Pos}(hN:X.N[i]? =some x:=by rfl)(hv:qs X.env.scope x:=by first|exact Or.inl rfl|exact Or.inr (Or.inl rfl) |exact Or.inr (Or.inr rfl))(hd:(x==("__debug__":Str))=false:=by decide)
  (fj:(x==("__classdict__":Str))=false:=by decide):PE X (.Name x pos) (rW i):=DH hN hv hd fj
end
theorem dh{A B:Prop}(h:B):if false=true then A else B:=by
 rw [if_neg cB];exact h
theorem eY{A B:Prop}(h:A):if true=true then A else B:=by
 rw [if_pos rfl];exact h
theorem rJ{c A B:Prop} [Decidable c] (h1:c→A) (h2:¬c→B):if c then A else B:=by
 by_cases h:c
 ·rw [if_pos h]
  exact h1 h
 ·rw [if_neg h]
  exact h2 h
def az(H H':Hp):Prop:=∀b o,H b=some o→H' b=some o
theorem az.refl(H:Hp):az H H:=λ_ _ h=>h
theorem az.trans{H H1 H2:Hp}(a:az H H1)(b:az H1 H2):az H H2:=λc o h=>b c o (a c o h)
theorem az.free{H H':Hp}(e:az H H'){l:Addr}(h:H' l=Option.none):H l=Option.none:=by
 cases q:H l with
 |none=>rfl
 |some o=>
  rw [e l o q] at h;cases h
theorem az.seq{K:PySem.W.Frag}{H H':Hp}{a:Addr}{xs:List V}(e:az H H')(h:aD K H a xs):aD K H' a xs:=by
 rcases h with (h| ⟨o,h⟩) |h
 ·exact .inl (.inl (e _ _ h))
 ·exact .inl (.inr ⟨o,e _ _ h⟩)
 ·exact .inr h
def iC(env:Env):List (Str×NameKind)→List (Str×Addr)→List (Str×Addr)
 | [],cs=>cs
 | (n,k)::r,cs=>if k==NameKind.free then iC env r ((n,(env.cells.lookup n).getD 0)::cs) else iC env r cs
theorem f9{scope:Scope}{env:Env}(h:∀x∈scope.names,x.2= .free→∃c,env.cells.lookup x.1=some c):closureFor scope env=pure (iC env scope.names []):=by
 simp only [closureFor]
 have go:∀(names:List (Str×NameKind))(cs:List (Str×Addr)),(∀x∈names,x.2= .free→∃c,env.cells.lookup x.1=some c)→
   (forIn names cs λx __s=>if (x.snd==NameKind.free)=true then (do let a ←cellOf env x.fst;pure (ForInStep.yield ((x.fst,a)::__s))) else pure (ForInStep.yield __s))=(pure (iC env names cs):Sem _):=by
  intro names
  induction names with
  |nil=>intro cs _;rfl
  |cons x r ih=>
   intro cs h;obtain ⟨n,k⟩:=x;rw [List.forIn_cons,iC];have hr:=λcs=>ih cs λy hy=>h y (cm _ hy);cases hk:k==NameKind.free with
   |false=>
    simp only [hk,eH,if_false];exact hr cs
   |true=>
    have fP:k= .free:=by simpa using hk
    obtain ⟨c,hc⟩:=h (n,k) b7 fP;simp only at hc;simp only [if_true,cellOf,hc];exact hr _
 rw [go _ _ h];rfl
theorem eL{env:Env}:∀(names:List (Str×NameKind))(cs:List (Str×Addr)),(∀x∈names,x.2= .free→∃c,env.cells.lookup x.1=some c)→(∀x c,cs.lookup x=some c→env.cells.lookup x=some c)→
  ∀x c,(iC env names cs).lookup x=some c→env.cells.lookup x=some c
 | [],cs,_,hc=>hc
 | (n,k)::r,cs,h,hc=>by
  rw [iC]
  split
  ·rename_i hk
   refine eL r _ (λy hy=>h y (cm _ hy)) λx c e=>?_;obtain ⟨c',pk⟩:=h (n,k) b7 (by simpa using hk)
   rw [qj] at e
   split at e
   ·rename_i hx
    have vK:x=n:=by simpa using hx
    subst vK;simp only at pk;rw [pk] at e ⊢;exact e
   ·exact hc x c e
  ·exact eL r cs (λy hy=>h y (cm _ hy)) hc
theorem mv{env:Env}:∀(names:List (Str×NameKind))(cs:List (Str×Addr))(x:Str),((x,NameKind.free)∈names∨∃c,cs.lookup x=some c)→∃c,(iC env names cs).lookup x=some c
 | [],cs,x,h=>by
  rcases h with h|h
  ·cases h
  ·exact h
 | (n,k)::r,cs,x,h=>by
  rw [iC]
  split
  ·rename_i hk
   refine mv r _ x ?_
   by_cases e:x=n
   ·subst e;exact .inr ⟨(env.cells.lookup x).getD 0,by simp [qj]⟩
   ·have ne:(x==n)=false:=by simpa using e
    rcases h with h| ⟨c,h⟩
    ·rcases cy.mp h with z|z
     ·cases z;exact absurd rfl e
     ·exact .inl z
    ·exact .inr ⟨c,by rw [qj,ne];exact h⟩
  ·rename_i hk
   refine mv r cs x ?_
   rcases h with h|h
   ·rcases cy.mp h with z|z
    ·cases z;exact absurd rfl hk
    ·exact .inl z
   ·exact .inr h
def lV(src:List (Option Nat))(σ:St):St:=src.map λo=>o.bind λi=>(σ[i]?).bind id
def dg(scope:Scope)(XN:List Str):List (Option Nat)→List Str→Prop
 | [],[]=>True
 |none::r,_::n=>dg scope XN r n
 |some i::r,x::n=>XN[i]? =some x∧scope.names.lookup x=some .free∧dg scope XN r n
 |_,_=>False
theorem dg.len{scope:Scope}{XN:List Str}:∀{src:List (Option Nat)}{NC:List Str},dg scope XN src NC→src.length=NC.length
 | [],[],_=>rfl
 |none::r,_::n,h=>by have:=dg.len (src:=r) (NC:=n) h;simp [this]
 |some i::r,_::n,h=>by have:=dg.len (src:=r) (NC:=n) h.2.2;simp [this]
 | [],_::_,h=>h.elim
 |none::_,[],h=>h.elim
 |some _::_,[],h=>h.elim
theorem dg.at{scope:Scope}{XN:List Str}:∀{src:List (Option Nat)}{NC:List Str}{j i:Nat}{x:Str},dg scope XN src NC→src[j]? =some (some i)→NC[j]? =some x→XN[i]? =some x∧scope.names.lookup x=some .free
 | [],[],_,_,_,_,h,_=>by simp at h
 |none::r,_::n,0,_,_,_,h,_=>by simp at h
 |none::r,_::n,j+1,i,x,h,h1,h2=>dg.at (src:=r) (NC:=n) (j:=j) h (by simpa using h1) (by simpa using h2)
 |some k::r,y::n,0,i,x,h,h1,h2=>by
  have e1:k=i:=by simpa using h1
  have e2:y=x:=by simpa using h2
  subst e1 e2;exact ⟨h.1,h.2.1⟩
 |some k::r,_::n,j+1,i,x,h,h1,h2=>dg.at (src:=r) (NC:=n) (j:=j) h.2.2 (by simpa using h1) (by simpa using h2)
 | [],_::_,_,_,_,h,_,_=>h.elim
 |none::_,[],_,_,_,h,_,_=>h.elim
 |some _::_,[],_,_,_,h,_,_=>h.elim
structure bE (X:Cx) (scope:Scope):Prop where
 kind:scope.kind= .function
 names:∀x∈scope.names,x.2= .local→scope.names.lookup x.1=some .local
 nocell:∀x∈scope.names,x.2≠ .cell
 free:∀x∈scope.names,x.2= .free→X.env.kindOf x.1=some .cell∨X.env.kindOf x.1=some .free
theorem gW{env:Env}:∀(names:List (Str×NameKind))(x:Str),
  (names.map λ(n,k)=>if (k==NameKind.free&&env.scope.kind== .function&&env.kindOf n==some .cell) then (n,NameKind.cell) else (n,k)).lookup x=
   (names.lookup x).map λk=>if (k==NameKind.free&&env.scope.kind== .function&&env.kindOf x==some .cell) then NameKind.cell else k
 | [],_=>rfl
 | (n,k)::r,x=>by
  have ih:=gW (env:=env) r x;show List.lookup x ((if (k==NameKind.free&&env.scope.kind== .function&&env.kindOf n==some .cell)=true then (n,NameKind.cell) else (n,k))::_)=_;cases hx:x==n with
  |true=>
   have e:x=n:=by simpa using hx
   subst e
   by_cases hc:(k==NameKind.free&&env.scope.kind== .function&&env.kindOf x==some .cell)=true
   ·rw [if_pos hc,qj,qj]
    simp only [hx];show some NameKind.cell=some (if _ then _ else _);rw [if_pos hc]
   ·rw [if_neg hc,qj,qj]
    simp only [hx];show some k=some (if _ then _ else _);rw [if_neg hc]
  |false=>
   by_cases hc:(k==NameKind.free&&env.scope.kind== .function&&env.kindOf n==some .cell)=true
   ·rw [if_pos hc];simp only [qj,hx];exact ih
   ·rw [if_neg hc];simp only [qj,hx];exact ih
theorem mem_lookup{names:List (Str×NameKind)}{x:Str}{k:NameKind}(h:names.lookup x=some k):(x,k)∈names:=PySem.mem_of_lookup h
def dG(X:Cx)(scope:Scope)(NC:List Str)(ex:List Addr)(s:Shared)(H:Hp):Cx:=
 {X with N:=NC,s₀:=s,H₀:=H,env:=compEnvC scope (iC X.env scope.names []) s.heap.objs.size X.env,outer:=X.stack,stack:=X.stack,ex:=ex,fn:=λ_=>false,pn:= [],xe:=λ_ _=>False}
section
variable {X:Cx} {pins:List (Addr×Obj)} {σ:St} {H:Hp} {s:Shared} {scope:Scope} {NC:List Str} {ex:List Addr} {src:List (Option Nat)}
theorem bE.cells(c:bE X scope)(ok:X.Ok):∀x∈scope.names,x.2= .free→∃c,X.env.cells.lookup x.1=some c:=λx hx e=>ok.has x.1 (c.free x hx e)
theorem bE.OM(c:bE X scope){C:Addr}{x:Str}{k:NameKind}(h:(compEnvC scope (iC X.env scope.names []) C X.env).kindOf x=some k)(hk:k= .cell∨k= .free):scope.names.lookup x=some .free:=by
 have h':(relabel scope X.env).names.lookup x=some k:=h;unfold relabel at h';rw [gW] at h';cases e:scope.names.lookup x with
 |none=>rw [e] at h';cases h'
 |some k'=>
  have nc:=c.nocell _ (mem_lookup e);rw [e] at h';have h2:(if (k'==NameKind.free&&X.env.scope.kind== .function&&X.env.kindOf x==some .cell) then NameKind.cell else k')=k:=Option.some.inj h'
  by_cases hf:k'= .free
  ·rw [hf]
  ·have hb:(k'==NameKind.free)=false:=by simpa using hf
   rw [hb,Bool.false_and,Bool.false_and,if_neg cB] at h2
   rcases hk with z|z
   ·rw [h2] at nc;exact absurd z nc
   ·rw [h2] at hf;exact absurd z hf
theorem F3(I:Inv X pins σ H s)(c:bE X scope)(hf:∀b∈ex,fz X pins H b)(bq:∀b∈ex,b<s.heap.objs.size):(dG X scope NC ex s H).Ok where
 mod:=I.ok.mod
 kind:=c.kind
 glob:=I.ok.glob
 blt:=I.ok.blt
 above:=aT _
 inj:=λx y d h1 h2=>I.ok.inj x y d (eL _ _ (c.cells I.ok) (λ_ _ z=>by cases z) x d h1) (eL _ _ (c.cells I.ok) (λ_ _ z=>by cases z) y d h2)
 has:=λx hx=>mv _ _ x (.inl (mem_lookup (by rcases hx with h|h<;>exact c.OM h (by simp))))
 cab:=λ_ _ z=>by cases z
 hd:=I.ok.hd
 frames:=I.ok.frames
 stk:= .inl rfl
 exf:=λb hb=>⟨bI (bq b hb),λx d e=>(hf b hb).2.2.2.2.1 x d (eL _ _ (c.cells I.ok) (λ_ _ z=>by cases z) x d e)⟩
 bs:=I.bs
 bsz:=jP I.ok.bsz I.sz
 noex:=λb o e hb=>by
  rcases (hf b hb).2.2.2.1 with z|z
  ·exact I.ok.noex b o e z
  ·exact absurd (f6 (Heap.lt_size e) (jP I.ok.bsz z)) (nJ _)
 exfs:=λb hb z=>(cy.mp (I.yP b z)).elim (hf b hb).2.1 (hf b hb).2.2.1
 funs:=I.stack
 frf:=I.As
theorem vZ{h1:Heap}{tk:Nat}{ob:Obj}(I:Inv X pins σ H s)(c:bE X scope)(fC:dg scope X.N src NC)(hf:∀b∈ex,fz X pins H b)(bq:∀b∈ex,b<s.heap.objs.size)
  (xY:h1.Ns s.heap.objs.size (λ_=>none)) (yc:Heap.SameBut s.heap.objs.size (s.heap.push ob) h1):
  Inv (dG X scope NC ex s H) [] (lV src σ) H {s with heap:=h1,toks:=tk}:=by
 have old:∀b o,s.heap.get? b=some o→h1.get? b=some o:=λb o e=>yc.extBut b o (bI (Heap.lt_size e)) (Heap.get?_push_of_some _ e);have cl:∀x d,(iC X.env scope.names []).lookup x=some d→X.env.cells.lookup x=some d:=λx d=>eL _ _ (c.cells I.ok) (λ_ _ z=>by cases z) x d
 have cellK:∀d v,s.heap.IsCell d v→h1.IsCell d v:=λd v ⟨o,ho,hd⟩=>⟨o,old d o ho,hd⟩;refine ⟨F3 I c hf bq,rfl,I.bare,Un.kept old,⟨_,xY,λj x v e1 e2 e3=>?_⟩,λx d e=>?_,I.hok.fresh (aT _),λx d e=>I.freeC x d (cl x d e),λp hp=>absurd (show p∈([]:List (Addr×Obj)) from hp) (by simp),I.hok.kept old,?_⟩
 ·have mY:(lV src σ)[j]? =some (some v):=e2
  unfold lV at mY;rw [bH] at mY;cases ej:src[j]? with
  |none=>rw [ej] at mY;cases mY
  |some o=>
   rw [ej] at mY;cases o with
   |none=>cases mY
   |some i=>
    have e4:(σ[i]?).bind id=some v:=Option.some.inj mY
    have e5:σ[i]? =some (some v):=by
     cases q:σ[i]? with
     |none=>rw [q] at e4;cases e4
     |some z=>rw [q] at e4;exact congrArg some e4
    obtain ⟨hN,N7⟩:=fC.at ej e1;have hk:=c.free _ (mem_lookup N7) rfl;obtain ⟨m,hn,hl⟩:=I.loc;obtain ⟨u,r,l⟩:=hl i x v hN e5 (hk.elim (λz=> .inr (.inl z)) (λz=> .inr (.inr z)));refine ⟨u,r, .inr ⟨?_,?_⟩⟩
    ·show (relabel scope X.env).names.lookup x=_∨(relabel scope X.env).names.lookup x=_
     unfold relabel;rw [gW,N7]
     by_cases z:(NameKind.free==NameKind.free&&X.env.scope.kind== .function&&X.env.kindOf x==some .cell)=true
     ·left;simp only [Option.map_some,z,if_true]
     ·right;simp only [Option.map_some,z];rfl
    ·obtain ⟨d,hd⟩:=mv (env:=X.env) scope.names [] x (.inl (mem_lookup N7))
     refine ⟨d,hd,?_⟩
     rcases l with ⟨l,_⟩ | ⟨_,d',e,z⟩
     ·exfalso;rcases hk with z|z<;>(rw [l] at z;cases z)
     ·rw [cl x d hd] at e;cases e;exact cellK d _ z
 ·obtain ⟨v,z⟩:=I.cell x d (cl x d e)
  exact ⟨v,cellK d v z⟩
 ·show (lV src σ).length=NC.length
  unfold lV;rw [aM];exact fC.len
theorem comp_back{H':Hp}{ay:St}{s':Shared}{h2:Heap}{yG:List (Addr×Obj)}(I:Inv X pins σ H s)(hf:∀b∈ex,fz X pins H b)(J:Inv (dG X scope NC ex s H) yG ay H' s')
  (yc:Heap.SameBut s.heap.objs.size s'.heap h2):Inv X pins σ H' {s' with heap:=h2}:=by
 have up:∀b o,b≠s.heap.objs.size→s'.heap.get? b=some o→h2.get? b=some o:=λb o hb e=>yc.extBut b o hb e;have ne:∀b o,s.heap.get? b=some o→b≠s.heap.objs.size:=λb o e=>bI (Heap.lt_size e);have u:=J.base;refine I.M5 (ch:=ex) (show s'.os=s.os from J.os) ⟨λb o e n hb hx=>up b o (ne b o e) (u.keep b o e n hb hx),λb o e n hb hx=>?_,u.free,λb o e hx=>?_,u.tups,u.frzs,u.tbls⟩ ?_ J.bare λb hb=>?_
 ·obtain ⟨sl,q⟩:=u.slot b o e n hb hx
  exact ⟨sl,up b _ (ne b o e) q⟩
 ·obtain ⟨o',q⟩:=u.there b o e hx
  exact ⟨o',up b o' (ne b o e) q⟩
 ·intro b o e
  have nC:∀b o,H' b=some o→b≠s.heap.objs.size:=λb o e z=>by
   have:=J.free
   rw [z] at e;have e':H' s.heap.objs.size=none:=this;rw [e'] at e;cases e
  refine (J.hok b o e).rV (λd v hd q=>up d v ?_ q) (λ_ q=>q) λ_ _ q=>q
  rcases hd with z|z
  ·rw [z];exact nC b o e
  ·exact nC d _ z
 ·obtain ⟨_,f1,_,f3,f4,f5⟩:=hf b hb
  exact ⟨f3,f1,f4,f5⟩
end
def nK(X:Cx)(ifs:List Expr)(t:TT):Prop:=
 ∀(pins:List (Addr×Obj))(s:Shared)(σ:St)(H:Hp)(Q:Bool→Hp→Prop),Inv X pins σ H s→t σ H Q→
  wpAny (model X.prog X.w) X.A (forIn ifs true λc r=>if r=true then do let ok ←isTrue c X.env (eval c X.env);pure (ForInStep.yield ok) else pure (ForInStep.yield r)) (TP X pins σ Q) X.xe s
def D5:TT:=λ_ H Q=>Q true H
theorem lI{X:Cx}:nK X [] D5:=λ_ _ _ H _ I h=>wpAny_tests_nil ⟨H,I,h⟩
theorem Ab{X:Cx}{c:Expr}{t:TT}(h:PT X c t):nK X [c] t:=λpins s σ H Q I q=>wpAny_tests_one (h pins s σ H Q I q)
def PM(J:It)(g:TG)(tt:TT)(te:TE)(D:Addr)(Q:VK)(σ:St)(H:Hp):Prop:=
 ∃W:Nat→Nat→St→Hp→Prop,(∃m,W 0 m σ H)∧∀i m cn H2,W i m cn H2→
  (J.stop i H2∧Q (.ref D) H2)∨
  (J.go i H2∧∃N:St→Hp→Prop,(∀ay H',N ay H'→∃m',m'<m∧W (i+1) m' ay H')∧∀x H3,J.yld i H2 x H3→g x cn H3 λcO H4=>tt cO H4 λb H5=>
   if b=true then te cO H5 λv H6=>∃ys,H6 D=some (.lst ys)∧ys.length<sizeLine∧N cO (upd H6 D (.lst (ys++ [v]))) else N cO H5)
def Jk(wi:TI)(g:TG)(tt:TT)(te:TE)(src:List (Option Nat)):TE:=λσ H Q=>wi σ H λJ H1=>∀D,H1 D=none→PM J g tt te D Q (lV src σ) (upd H1 D (.lst []))
section
variable {X:Cx} {elt iter tg:Expr} {ifs:List Expr} {scope:Scope} {pos:Pos} {wi:TI} {g:TG} {tt:TT} {te:TE} {src:List (Option Nat)} {NC:List Str}
theorem rj{pins:List (Addr×Obj)}{σ:St}{s2:Shared}{H2:Hp}{it:Addr}{fp:List Addr}{tn:Nat→Heap→Prop}{J:It}{RR:Value→Addr→Result→Shared→Prop}{E:Value→Shared→Prop}{Q:VK}
  (hc:X.calm=true) (c:bE X scope) (fC:dg scope X.N src NC) (I2:Inv X pins σ H2 s2) (T:Turn X.prog X.w X.K tg J fp it tn) (kg:tn 0 s2.heap) (f2:∀b∈fp,fz X pins H2 b)
  (hg:∀s H,PG (dG X scope NC fp s H) tg g) (ht:∀s H,nK (dG X scope NC fp s H) ifs tt) (he:∀s H,PE (dG X scope NC fp s H) elt te)
  (hW:∀D,H2 D=none→∃W:Nat→Nat→St→Hp→Prop,(∃m,W 0 m (lV src σ) (upd H2 D (.lst [])))∧∀i m cn H2,W i m cn H2→
   (J.stop i H2∧Q (.ref D) H2)∨
   (J.go i H2∧∃N:St→Hp→Prop,(∀ay H',N ay H'→∃m',m'<m∧W (i+1) m' ay H')∧∀x H3,J.yld i H2 x H3→g x cn H3 λcO H4=>tt cO H4 λb H5=>
    if b=true then te cO H5 λv H6=>∃ys,H6 D=some (.lst ys)∧ys.length<sizeLine∧N cO (upd H6 D (.lst (ys++ [v]))) else N cO H5))
  (XQ:∀D s3 H3 ay H' s',Inv X pins σ H3 s3→(∀b∈fp,fz X pins H3 b)→Inv (dG X scope NC fp s3 H3) [] ay H' s'→Q (.ref D) H'→RR (.ref D) s3.heap.objs.size (.ok .next) s'):
  wpAny (model X.prog X.w) X.A (newList []) (λacc Vz=>wpAny (model X.prog X.w) X.A (newFunctionEnv scope X.env.globals (iC X.env scope.names []) [] X.env.qual none .none (some X.env)) (λrh Aw=>
   codeAny (model X.prog X.w) X.A (.compStart (.ListComp elt [⟨tg,iter,ifs,0⟩] scope pos) 0 (.ref it) acc {rh with scope:=relabel scope X.env}) (RR acc rh.locals) Aw) E Vz) E s2:=by
 obtain ⟨W,⟨m0,w0⟩,turn⟩:=hW s2.heap.objs.size I2.fresh;have I3:Inv X pins σ (upd H2 s2.heap.objs.size (.lst [])) {s2 with heap:=s2.heap.push {cls:= .type "list",data:= .seq ([]:List Value).toArray}}:=I2.HK (its:= []) (t':=s2.toks) .nil (cW _)
 have OO:∀b∈fp,b<s2.heap.objs.size:=λb hb=>by
  obtain ⟨o,e,_⟩:=T.obj _ _ kg b hb;exact Heap.lt_size e
 have f3:∀b∈fp,fz X pins (upd H2 s2.heap.objs.size (.lst [])) b:=λb hb=>⟨by rw [ab (bI (OO b hb))];exact (f2 b hb).1,(f2 b hb).2⟩
 refine wpAny_newObj_type ?_
 suffices key:∀s3:Shared,Inv X pins σ (upd H2 s2.heap.objs.size (.lst [])) s3→(∀b o,s2.heap.get? b=some o→s3.heap.get? b=some o)→
   wpAny (model X.prog X.w) X.A (newFunctionEnv scope X.env.globals (iC X.env scope.names []) [] X.env.qual none .none (some X.env)) (λrh Aw=>
    codeAny (model X.prog X.w) X.A (.compStart (.ListComp elt [⟨tg,iter,ifs,0⟩] scope pos) 0 (.ref it) (.ref s2.heap.objs.size) {rh with scope:=relabel scope X.env}) (RR (.ref s2.heap.objs.size) rh.locals) Aw) E s3 from
  key _ I3 λb o e=>Heap.get?_push_of_some _ e
 intro s3 I3 Pu;have sL:tn 0 s3.heap:=T.keep _ _ _ kg λb _ o e=>Pu b o e
 have BV:∀b∈fp,b<s3.heap.objs.size:=λb hb=>by
  obtain ⟨o,e,_⟩:=T.obj _ _ sL b hb;exact Heap.lt_size e
 generalize RD:upd H2 s2.heap.objs.size (.lst [])=H3 at I3 f3 w0;refine wpAny_newFunctionEnv c.nocell (by intro y hy;simp at hy) (λh1 xY yc=>?_) c.kind
 have I4:=vZ (src:=src) (NC:=NC) (ex:=fp) (tk:=s3.toks+([]:List (Str×Value)).length) I3 c fC f3 BV xY yc;have Jg:tn 0 h1:=T.keep _ _ _ sL λb hb o e=>yc.extBut b o (bI (BV b hb)) (Heap.get?_push_of_some _ e);generalize hX:dG X scope NC fp s3 H3=XC at I4
 have stat:∀{H':Hp},(∀b∈fp,H' b=none)→∀b∈fp,fz XC [] H' b:=λ {H'} hn b hb=>by
  subst hX;refine ⟨hn b hb,bI (BV b hb),λz=>?_, .inl hb,λx d e=>?_,λp hp=>absurd (show p∈([]:List (Addr×Obj)) from hp) (by simp)⟩
  ·exact (I4.ok.exfs b hb) z
  ·exact (I4.ok.exf b hb).2 x d e
 have loop:codeAny (model X.prog X.w) X.A (.compLoop (.ListComp elt [⟨tg,iter,ifs,0⟩] scope pos) 0 (.ref it) (.ref s2.heap.objs.size) XC.env) (RR (.ref s2.heap.objs.size) s3.heap.objs.size)
   {s3 with heap:=h1,toks:=s3.toks+([]:List (Str×Value)).length}:=by
  refine codeAny_loop rfl (λn s'=>∃i ay H',Inv XC [] ay H' s'∧tn i s'.heap∧(∀b∈fp,H' b=none)∧W i n ay H') (λn s' hI=>?_) m0 ⟨0,_,_,I4,Jg,λb hb=>(f3 b hb).1,w0⟩;obtain ⟨i,ay,H',I5,sM,nV,w5⟩:=hI;show wpAny _ X.A ((compTurn (.ListComp elt [⟨tg,iter,ifs,0⟩] scope pos) 0 (.ref it) (.ref s2.heap.objs.size) XC.env).onRaise (λx=>do noteFrame x XC.env;theTreesLotGoes x)) _ _ s'
  refine wpAny_noted ?_;rw [compTurn_list]
  have iV:∀{α:Type}{t:Sem α}{Q:α→Shared→Prop}{E:Value→Shared→Prop}{s:Shared},wpAny (model XC.prog XC.w) XC.A t Q XC.xe s→wpAny (model X.prog X.w) X.A t Q E s:=λ {α t Q E s} h=>by
   subst hX;exact wpAny_mono h (λ_ _ q=>q) λ_ _ f=>f.elim
  have EM:XC.calm=true:=by subst hX;exact hc
  have eP:XC.prog=X.prog:=by subst hX;rfl
  have ew:XC.w=X.w:=by subst hX;rfl
  have eK:XC.K=X.K:=by subst hX;rfl
  have eA:XC.A=X.A:=by subst hX;rfl
  have N9:PG XC tg g:=by subst hX;exact hg _ _
  have Oy:nK XC ifs tt:=by subst hX;exact ht _ _
  have N5:PE XC elt te:=by subst hX;exact he _ _
  refine wpAny_bind (wpAny_standAt (wpAny_bind ?_))
  rcases turn i n ay H' w5 with ⟨stop,qn⟩ | ⟨go,N,hN,step⟩
  ·have hd:=T.done XC eP ew eK EM i [] s' ay H' (notedBy (model X.prog X.w) X.A XC.env λe s'=>RR (.ref s2.heap.objs.size) s3.heap.objs.size (.error e) s') I5 (stat nV) sM stop
   rw [eA] at hd;refine thn hd λr s6 ⟨hr,I6⟩=>?_;subst hr;refine wpAny_pure ?_;subst hX;exact XQ _ s3 H3 ay H' s6 I3 f3 I6 qn
  ·have hd:=T.item XC eP ew eK EM i [] s' ay H' (notedBy (model X.prog X.w) X.A XC.env λe s'=>RR (.ref s2.heap.objs.size) s3.heap.objs.size (.error e) s') I5 (stat nV) sM go
   rw [eA] at hd;refine thn hd λr s6 ⟨u,hr,h6⟩=>?_;subst hr;refine wpAny_bind (thn h6 λ_ s7 ⟨x,H7,I7,r7,y7,uR,GO⟩=>?_);have FJ:=I7.pinned (stat GO) (T.obj _ _ uR)
   have again:∀{fJ:St}{H8:Hp}{s8:Shared},Inv XC ([]++j7 fp s7.heap) fJ H8 s8→N fJ H8→∃m,m<n∧∃i ay H',Inv XC [] ay H' s8∧tn i s8.heap∧(∀b∈fp,H' b=none)∧W i m ay H':=λ {fJ H8 s8} I8 n8=>by
    obtain ⟨m',hm,w8⟩:=hN fJ H8 n8;refine ⟨m',hm,i+1,fJ,H8,I8.iy,T.keep _ _ _ uR λb hb o e=>(I8.pin (b,o) (dX _ (dX _ (dz hb e)))).1,λb hb=>?_,w8⟩;obtain ⟨o,e,d⟩:=T.obj _ _ uR b hb;exact (I8.pin (b,o) (dX _ (dX _ (dz hb e)))).2.1
   refine wpAny_bind (iV (thn (N9 _ s7 ay H7 x u _ FJ r7 (step x H7 y7)) λ_ s8 ⟨fJ,H8,I8,q8⟩=>?_));refine wpAny_bind (iV (thn (Oy _ s8 fJ H8 _ I8 q8) λb s9 ⟨H9,I9,q9⟩=>?_));cases b with
   |false=>
    rw [if_neg cB] at q9;exact wpAny_pure ⟨by subst hX;rfl,again I9 q9⟩
   |true=>
    rw [if_pos rfl] at q9;refine wpAny_bind (wpAny_bind (iV (thn (N5 _ s9 fJ H9 _ I9 q9) λy yI ⟨v,xw,MW,Pa,ys,hD,hz,O8⟩=>?_)));refine wpAny_bind (iV (thn (ft _ yI fJ xw (.ref s2.heap.objs.size) [v] _ [y] (λ_ H'=>N fJ H') MW rfl (.cons Pa .nil) ⟨_,ys,v,rfl,rfl,hD,hz,O8⟩) λ_ Cs ⟨_,Ed,FI,_,O9⟩=>?_));exact wpAny_pure (wpAny_pure ⟨by subst hX;rfl,again FI O9⟩)
 subst hX;exact codeAny_compStart_list loop (T.self _ 0 _ _ _ Jg loop)
theorem Cc(hc:X.calm=true)(c:bE X scope)(fC:dg scope X.N src NC)(hi:PI X tg iter wi)
  (hg:∀ex s H,PG (dG X scope NC ex s H) tg g) (ht:∀ex s H,nK (dG X scope NC ex s H) ifs tt) (he:∀ex s H,PE (dG X scope NC ex s H) elt te)
  (hs:∀x,foldedSetIterable iter X.env x=pure x:=by intro _;rfl):PE X (.ListComp elt [⟨tg,iter,ifs,0⟩] scope pos) (Jk wi g tt te src):=by
 intro pins s σ H Q I h;rw [eval_ListComp];refine wpAny_comprehension_free (use:=none) rfl hs (f9 (c.cells I.ok)) c.kind c.names (thn (hi pins s σ H _ I h) λv s1 h1=>thn h1 λsA s2 h2=>?_);obtain ⟨it,fp,tn,J,H2,rfl,I2,T,kg,f2,hW⟩:=h2;refine rj (RR:=λacc C=>compPost (model X.prog X.w) X.A X.xe none (EP X pins σ Q) acc C) (Q:=Q) hc c fC I2 T kg f2 (hg fp) (ht fp) (he fp) hW ?_;intro D s3 H3 ay H' s' I3 f3 J' q;obtain ⟨m,hn,_⟩:=J'.loc;exact ⟨m,hn,λh' sb=>⟨.ref D,H',comp_back I3 f3 J' sb,rfl,q⟩⟩
def Lz(wi:TI)(g:TG)(tt:TT)(te:TE)(src:List (Option Nat))(i:Nat):TS:=λD σ H=>Jk wi g tt te src σ H λv H'=>D.nx (σ.set i (some v)) H'
theorem jI{i:Nat}{x:Str}{px lU:Pos}(hc:X.calm=true)(hN:X.N.Nodup)(eC:X.N[i]? =some x)(hx:Loc X.env.scope x)(c:bE X scope)(fC:dg scope X.N src NC)(hi:PI X tg iter wi)
  (hg:∀ex s H,PG (dG X scope NC ex s H) tg g) (ht:∀ex s H,nK (dG X scope NC ex s H) ifs tt) (he:∀ex s H,PE (dG X scope NC ex s H) elt te)
  (n6:swapsWith (.ListComp elt [⟨tg,iter,ifs,0⟩] scope pos) (some (.Name x px)) lU.line X.env=pure true)
  (hf:X.fn x=true∨X.env.scope.names.lookup x=some .local:=by first|exact .inl rfl|exact .inr rfl|assumption)
  (hs:∀x,foldedSetIterable iter X.env x=pure x:=by intro _;rfl):PS X (.Assign [.Name x px] (.ListComp elt [⟨tg,iter,ifs,0⟩] scope pos) lU) (Lz wi g tt te src i):=by
 intro pins s σ H D I h;rw [exec_Assign_Name_used _ _ _ _ n6];refine wpAny_bind (wpAny_standAt (wpAny_bind ?_));show wpAny _ X.A (do let _ ←comprehension (.ListComp elt [⟨tg,iter,ifs,0⟩] scope pos) scope X.env _ (newList []) false (eval iter X.env) (some (assign (.Name x px) X.env))) _ _ s
 refine wpAny_bind (wpAny_mono (wpAny_comprehension_free (use:=some (assign (.Name x px) X.env)) (Q:=λ_ s'=>SP X pins D .next s') rfl hs (f9 (c.cells I.ok)) c.kind c.names
  (thn (hi pins s σ H _ I h) λv s1 h1=>thn h1 λsA s2 h2=>?_)) (λ_ s' hq=>wpAny_pure (wpAny_pure hq)) λ_ _ e=>e)
 obtain ⟨it,fp,tn,J,H2,rfl,I2,T,kg,f2,hW⟩:=h2;refine rj (RR:=λacc C=>compPost (model X.prog X.w) X.A X.xe (some (assign (.Name x px) X.env)) (λ_ s'=>SP X pins D .next s') acc C) (Q:=λv H'=>D.nx (σ.set i (some v)) H') hc c fC I2 T kg f2 (hg fp) (ht fp) (he fp) hW ?_;intro a s3 H3 ay H' s' I3 f3 J' q;obtain ⟨m,hn,_⟩:=J'.loc;have IX:Inv X pins σ H' s':=comp_back I3 f3 J' (.refl ..);show wpAny _ X.A (assign (.Name x px) X.env (.ref a)) _ _ _;have nL:s3.heap.objs.size≠X.env.locals:=Nat.ne_of_gt I3.lt
 have nc:∀y d,X.env.cells.lookup y=some d→d≠s3.heap.objs.size:=λy d e z=>by
  obtain ⟨v,hv⟩:=I3.cell y d e
  have:=hv.lt
  rw [z] at this;exact absurd this (nJ _)
 have np:∀p∈X.pn++pins,p.1≠s3.heap.objs.size:=λp hp z=>by
  have:=Heap.lt_size (I3.pin p hp).1
  rw [z] at this;exact absurd this (nJ _)
 obtain ⟨oC,es,ep,Yt,J3,rC⟩:=id hn;have RE:H' s3.heap.objs.size=none:=J'.free
 have IP:Inv X ((s3.heap.objs.size,oC)::pins) σ H' s':=IX.pU λp hp=>by
  rcases cy.mp hp with z|z
  ·rw [z]
   exact ⟨Yt,RE,nL,I3.MD (aT _),λv w=>by rw [J3] at w;cases w⟩
  ·exact IX.pin p (dX _ z)
 refine wpAny_assign_Name (jK (x:=x) IP hN eC hx (v:= .ref a) rfl (λs5 I5=>?_) hf);have XG:=(I5.pin (s3.heap.objs.size,oC) (dX _ b7)).1;refine ⟨m,⟨oC,es,ep,XG,J3,rC⟩,λh6 sb=>?_⟩;have MX:Inv X pins (σ.set i (some (.ref a))) H' s5:=I5.pU λp hp=>I5.pin p (dX _ (cm _ hp));exact ⟨_,H',MX.turned (t':=s5.toks) (it:=s3.heap.objs.size) (λb o hb e=>sb.extBut b o hb e) RE nL (.inr I3.sz) nc np,q⟩
end
theorem yh{J:It}{g:TG}{tt:TT}{te:TE}{D:Addr}{σ:St}{H:Hp}{Q:VK}(n:Nat)(Pv:Nat→St→Hp→Prop)(h0:Pv 0 σ H)
  (Yd:∀i σ H,i<n→Pv i σ H→J.go i H) (Ow:∀i σ H,n≤i→Pv i σ H→J.stop i H)
  (hs:∀i x σ H H3,i<n→Pv i σ H→J.yld i H x H3→g x σ H3 λcO H4=>tt cO H4 λb H5=>
   if b=true then te cO H5 λv H6=>∃ys,H6 D=some (.lst ys)∧ys.length<sizeLine∧Pv (i+1) cO (upd H6 D (.lst (ys++ [v]))) else Pv (i+1) cO H5)
  (hd:∀σ H,Pv n σ H→Q (.ref D) H):PM J g tt te D Q σ H:=by
 refine ⟨λi m σ H=>m=n-i∧i≤n∧Pv i σ H,⟨n,by simp,cW _,h0⟩,?_⟩
 rintro i m σ H ⟨rfl,hi,p⟩
 by_cases bq:i<n
 ·exact .inr ⟨Yd i σ H bq p,Pv (i+1),λay H' p'=>⟨n-(i+1),by omega,rfl,bq,p'⟩,λx H3 y=>hs i x σ H H3 bq p y⟩
 ·have e:i=n:=by omega
  subst e;exact .inl ⟨Ow _ σ H (aT _) p,hd σ H p⟩
section
variable {X:Cx} {pins:List (Addr×Obj)} {σ:St} {H:Hp} {s:Shared} {h':Heap} {fp:List Addr}
theorem Inv.AA{t':Nat}(I:Inv X pins σ H s)(hf:∀b∈fp,fz X pins H b)(k:∀b o,b∉fp→s.heap.get? b=some o→h'.get? b=some o):Inv X pins σ H {s with heap:=h',toks:=t'}:=by
 refine I.step (g':=s.gens) (d':=s.drawn) (ch:=fp) (λb hb=>?_) (λb o _ _ hc e _=>k b o hc e) (λb o _ _ hc e _=>⟨o.slots,k b o hc e⟩) (λ_ _ _ _ n=>n)
  (λb o hc e=>⟨o,k b o hc e⟩) (λ_ _ e=>e) (λ_ _ _ e=>e) (λb ps e=>⟨#[],by rw [e];simp⟩) (λm hm=>?_) (λb u e=>?_) I.bare
 ·obtain ⟨_,f1,_,f3,f4,f5⟩:=hf b hb
  exact ⟨f3,f1,f4,f5⟩
 ·obtain ⟨o,es,ep,ho,r⟩:=hm
  exact ⟨o,es,ep,k _ o (λz=>(hf _ z).2.1 rfl) ho,r⟩
 ·have nf:∀b u,H b=some u→b∉fp:=λb u e z=>by rw [(hf b z).1] at e;cases e
  refine (I.hok b u e).rV (λc v hc q=>k c v ?_ q) (λ_ q=>q) λ_ _ q=>q
  rcases hc with z|z
  ·rw [z];exact nf b u e
  ·exact nf c _ z
theorem Inv.Jo{t':Nat}{t:Addr}{o:HO}(I:Inv X pins σ H s)(hf:∀b∈fp,fz X pins H b)(k:∀b o,b∉fp→s.heap.get? b=some o→h'.get? b=some o)(ht:s.heap.objs.size≤t)
  (new:cC X.prog X.w (upd H t o) h' t o):Inv X pins σ (upd H t o) {s with heap:=h',toks:=t'}:=by
 have nt:H t=none:=I.hok.fresh ht;have up:∀b u,H b=some u→upd H t o b=some u:=λb u e=>by rw [ab (ah e nt)];exact e
 refine I.step (g':=s.gens) (d':=s.drawn) (ch:=fp) (λb hb=>?_) (λb o _ _ hc e _=>k b o hc e) (λb o _ _ hc e _=>⟨o.slots,k b o hc e⟩) (λb o _ e n=>?_)
  (λb o hc e=>⟨o,k b o hc e⟩) (λb xs e=>up b _ e) (λb _ _ e=>up b _ e) (λb ps e=>⟨#[],by rw [up b _ e];simp⟩) (λm hm=>?_) (λb u e=>?_) I.bare
 ·obtain ⟨_,f1,_,f3,f4,f5⟩:=hf b hb
  exact ⟨f3,f1,f4,f5⟩
 ·rw [ab (bI (f6 (Heap.lt_size e) ht))];exact n
 ·obtain ⟨o,es,ep,ho,r⟩:=hm
  exact ⟨o,es,ep,k _ o (λz=>(hf _ z).2.1 rfl) ho,r⟩
 ·by_cases hb:b=t
  ·subst hb
   rw [aa] at e;cases e;exact new
  ·rw [ab hb] at e
   have nf:∀b u,H b=some u→b∉fp:=λb u e z=>by rw [(hf b z).1] at e;cases e
   refine (I.hok b u e).rV (λc v hc q=>k c v ?_ q) (λb' q=>up b' _ q) λb' _ q=>up b' _ q
   rcases hc with z|z
   ·rw [z];exact nf b u e
   ·exact nf c _ z
end
def Ee(K:PySem.W.Frag)(a:Addr):It:=
 ⟨λi H=>∃xs x,aD K H a xs∧xs[i]? =some x,λi H y H'=>∃t x,y= .ref t∧H t=none∧H'=upd H t (.tup [.int i,x])∧∀xs,aD K H a xs→xs[i]? =some x,λi H=>∃xs,aD K H a xs∧xs.length≤i⟩
theorem zN{h:Heap}{t:Addr}{u v:Value}(e:h.get? t=some {cls:= .type "tuple",data:= .seq #[u,v]}):IsTup h t [u,v].toArray:=⟨_,e,rfl,_,rfl⟩
theorem CI{P:Program}{w:World}{K:PySem.W.Frag}{es:List Expr}{k1}{tp:Pos}(a e it:Addr)(ne:e≠it):
  Turn P w K (.Tuple es k1 tp) (Ee K a) [e,it] e (λi h=>(∃old,IsEnum h e it i old)∧h.IsListIter it a i) where
 mem:=by simp
 obj:=λi h st b hb=>by
  obtain ⟨⟨old,he⟩,o,e2,c,d⟩:=st
  rcases cy.mp hb with z|z
  ·subst z
   exact ⟨_,he,λv w=>by cases w⟩
  ·have z':b=it:=by simpa using z
   subst z';exact ⟨o,e2,λv z=>by rw [d] at z;cases z⟩
 keep:=λi h h' st k=>by
  obtain ⟨⟨old,he⟩,kg⟩:=st;exact ⟨⟨old,k e (by simp) _ he⟩,kg.at λo q=>k it (by simp) o q⟩
 item:=by
  intro X hP hw hK hc i pins s σ H E I hf st hg;subst hP hw hK;obtain ⟨xs,x,hq,hx⟩:=hg;obtain ⟨its,rv,p,hz⟩:=I.list hq;obtain ⟨u,hu,ru⟩:=rv.get hx;obtain ⟨⟨old,he⟩,hit⟩:=st;refine wpAny_pyNext_enum_item he hit p.isList (x:=u) (by simpa using hu) ne λh' t4 Sa YE aag kk=>?_
  have k2:∀b o,b∉ [e,it]→s.heap.get? b=some o→h'.get? b=some o:=λb o hb q=>kk b o (λz=>hb (by simp [z])) (λz=>hb (by simp [z])) q
  have I1:Inv X pins σ (upd H s.heap.objs.size (.tup [.int i,x])) {s with heap:=h',toks:=s.toks+1}:=
   I.Jo hf k2 (aT _) ⟨by show 2≤sizeLine;decide,[.int i s.toks,u], .cons ⟨_,rfl⟩ (.cons ru .nil),zN YE⟩
  refine ⟨_,rfl,wpAny_letOwnedTupleGo_enum t4 λh2 X7 sb=>?_⟩
  have lt:∀b∈ [e,it],b<s.heap.objs.size:=λb hb=>by
   rcases cy.mp hb with z|z
   ·rw [z];exact Heap.lt_size he
   ·obtain ⟨o,e2,_⟩:=hit
    have z':b=it:=by simpa using z
    rw [z'];exact Heap.lt_size e2
  have RV:∀b∈ [e,it],fz X pins (upd H s.heap.objs.size (.tup [.int i,x])) b:=λb hb=>⟨by rw [ab (bI (lt b hb))];exact (hf b hb).1,(hf b hb).2⟩
  refine ⟨.ref s.heap.objs.size,_,I1.AA (t':=s.toks+1) RV (λb o hb q=>sb.extBut b o (λz=>hb (by simp [z])) q),rfl,⟨_,x,rfl,I.hok.fresh (aT _),rfl,λys hy=>by rw [I.wN hy hq];exact hx⟩,⟨⟨u,?_⟩,Sa.extBut sb.extBut (Ne.symm ne)⟩,λb hb=>(RV b hb).1⟩
  have z:((i+1:Nat):Int)=(i:Int)+1:=by omega
  rw [z];exact X7
 done:=by
  intro X hP hw hK hc i pins s σ H E I hf st hg;subst hP hw hK;obtain ⟨xs,hq,hx⟩:=hg;obtain ⟨its,rv,p,hz⟩:=I.list hq;have hl:=rv.length;obtain ⟨⟨old,he⟩,hit⟩:=st;exact wpAny_pyNext_enum_end (I.ok.hd hc) he hit p.isList (by simp;omega) λh' eb=>⟨rfl,I.AA (t':=s.toks) hf λb o hb q=>eb b o (λz=>hb (by simp [z])) q⟩
 self:=λ_ _ _ _ _ st h=>by
  obtain ⟨⟨old,he⟩,_⟩:=st;exact wpAny_pyIter_enum he h
section
variable {X:Cx}
def OF(K:PySem.W.Frag)(ta:TA):TI:=λσ H R=>ta σ H λvs H1=>∃a,vs= [.ref a]∧(∃xs,H1 a=some (.lst xs))∧R (Ee K a) H1
theorem uC{a:Expr}{ta:TA}{p pos:Pos}{es:List Expr}{k1}{tp:Pos}(hg:Gl X "enumerate")(hm:X.mg "enumerate"=none)(ha:PA X [a] ta)(hs:starEach [a] X.env= [(false,eval a X.env)]:=by rfl):
  PI X (.Tuple es k1 tp) (.Call (.Name "enumerate" p) [a] [] pos) (OF X.K ta):=by
 intro pins s σ H R I h;refine Call_ (j0 I hg hm boot_enumerate (PyProof.Rows.callWith_type1 (thn (ha pos pins s σ H _ I h) λus s1 ⟨vs,H1,I1,r1,q1⟩=>?_) hs rfl));obtain ⟨l,e,⟨xs,hl⟩,q⟩:=q1;subst e;obtain ⟨u,rfl,ru⟩:=r1.one;cases ru;obtain ⟨z,its,n,rv,hlen,e⟩:=I1.lA hl;refine call_enumerate_1 e λh' he hit fk kk=>?_;refine wpAny_pyIter_enum he ?_;have gP:s1.heap.objs.size+1≠s1.heap.objs.size:=Nat.succ_ne_self _;refine ⟨s1.heap.objs.size+1,[s1.heap.objs.size+1,s1.heap.objs.size],_,_,H1,rfl,I1.kept (t':=s1.toks) kk,CI l _ _ gP,⟨⟨_,he⟩,hit⟩,λb hb=>?_,q⟩
 have tZ:s1.heap.objs.size≤b:=by
  rcases cy.mp hb with z|z
  ·rw [z];exact mr _
  ·have z':b=s1.heap.objs.size:=by simpa using z
   rw [z'];exact aT _
 exact I1.GL tZ (I1.hok.fresh tZ)
end
end L2
namespace Wb
abbrev W:=List (List Nat)
def row(w:W)(p:Nat):List Nat:=w.getD p []
inductive Reach (w:W):Nat→Nat→Prop
 |refl (p):Reach w p p
 |step {p q r}:Reach w p q→r∈row w q→Reach w p r
structure Good (w:W):Prop where
 rng:∀p q,q∈row w p→q<w.length
 irr:∀p,p∉row w p
 nod:∀p,(row w p).Nodup
 sym:∀p q,q∈row w p→p∈row w q
 con:∀p,p<w.length→Reach w 0 p
theorem gx{w:W}{p q:Nat}(h:q∈row w p):p<w.length:=by
 apply Classical.byContradiction;intro hn;unfold row at h;rw [fW,iO (by omega)] at h
 simp at h
theorem Ah{w:W}{p:Nat}(h:p<w.length):w[p]? =some (row w p):=by
 unfold row;rw [fW,cN h];rfl
theorem Lh{w:W}{p:Nat}{r:List Nat}(h:w[p]? =some r):row w p=r:=by
 unfold row;rw [fW,h];rfl
theorem IL{w:W}{p:Nat}(h:w.length≤p):row w p= []:=by
 unfold row;rw [fW,iO h];rfl
theorem Reach.trans{w:W}{p q r:Nat}(h:Reach w p q)(h':Reach w q r):Reach w p r:=by
 induction h' with
 |refl=>exact h
 |step _ hr ih=>exact .step ih hr
theorem Reach.symm{w:W}(hs:∀p q,q∈row w p→p∈row w q){p q:Nat}(h:Reach w p q):Reach w q p:=by
 induction h with
 |refl=>exact .refl _
 |step _ hr ih=>exact (Reach.step (.refl _) (hs _ _ hr)).trans ih
theorem Reach.mono{w w':W}(hm:∀p q,q∈row w p→q∈row w' p){p q:Nat}(h:Reach w p q):Reach w' p q:=by
 induction h with
 |refl=>exact .refl _
 |step _ hr ih=>exact .step ih (hm _ _ hr)
def ins{α:Type}(xs:List α)(i:Nat)(x:α):List α:=xs.take i++x::xs.drop i
theorem mI{α:Type}(xs:List α)(i:Nat)(x:α):(ins xs i x).Perm (x::xs):=by
 unfold ins;have h:= @List.perm_middle _ x (xs.take i) (xs.drop i);rw [nH] at h;exact h
theorem b9{α:Type}{xs:List α}{i:Nat}{x a:α}:a∈ins xs i x↔a=x∨a∈xs:=by
 rw [(mI xs i x).mem_iff,cy]
theorem ot{α:Type}{xs:List α}{i:Nat}{x:α}(h:xs.Nodup)(hx:x∉xs):(ins xs i x).Nodup:=by
 rw [(mI xs i x).nodup_iff,iP];exact ⟨hx,h⟩
theorem ud{α:Type}(xs:List α)(i:Nat)(x:α):(ins xs i x).length=xs.length+1:=by
 rw [(mI xs i x).length_eq];rfl
theorem ins_map{α β:Type}(f:α→β)(xs:List α)(i:Nat)(x:α):(ins xs i x).map f=ins (xs.map f) i (f x):=by
 unfold ins;simp [List.map_take,List.map_drop]
theorem gI{w:W}{p x:Nat}{r:List Nat}(h:p<w.length):row (w.set p r) x=if p=x then r else row w x:=by
 unfold row;rw [fW,qg]
 by_cases e:p=x
 ·rw [if_pos e,if_pos e,if_pos h];rfl
 ·rw [if_neg e,if_neg e,fW]
theorem w6{w:W}{r:List Nat}{x:Nat}:row (w++ [r]) x=if x=w.length then r else row w x:=by
 unfold row;rw [fW,List.getElem?_append]
 split
 ·rw [if_neg (by omega),fW]
 ·split
  ·rename_i h e;subst e;simp
  ·rename_i h e
   rw [fW,iO (by simp;omega),iO (by omega)]
theorem EB:Good [[]]:=by
 have hr:∀p,row [[]] p= []:=λp=>by
  unfold row;cases p with
  |zero=>rfl
  |succ n=>simp
 refine ⟨λp q h=>?_,λp h=>?_,λp=>?_,λp q h=>?_,λp h=>?_⟩
 ·rw [hr] at h;cases h
 ·rw [hr] at h;cases h
 ·rw [hr];exact jO
 ·rw [hr] at h;cases h
 ·have:p=0:=by simp at h;exact h
  subst this;exact .refl _
def leaf(w:W)(p i:Nat):W:=(w.set p (ins (row w p) i w.length))++ [[p]]
theorem qG(w:W)(p i:Nat):(leaf w p i).length=w.length+1:=by unfold leaf;simp
theorem Fx{w:W}{p i x:Nat}(h:p<w.length):row (leaf w p i) x=if x=w.length then [p] else if p=x then ins (row w p) i w.length else row w x:=by
 unfold leaf;rw [w6,fe,gI h]
theorem Bq{w:W}{p i:Nat}(g:Good w)(h:p<w.length):Good (leaf w p i):=by
 have hr:=λx=>Fx (i:=i) (x:=x) h;have nl:∀x,w.length∉row w x:=λx hx=>nJ _ (g.rng _ _ hx)
 have mono:∀x q,q∈row w x→q∈row (leaf w p i) x:=λx q hq=>by
  have:=gx hq
  rw [hr,if_neg (by omega)]
  split
  ·rename_i e;subst e;exact b9.mpr (.inr hq)
  ·exact hq
 refine ⟨λx q hx=>?_,λx hx=>?_,λx=>?_,λx q hx=>?_,λx hx=>?_⟩
 ·rw [hr] at hx;rw [qG]
  split at hx
  ·simp at hx;omega
  ·split at hx
   ·rcases b9.mp hx with e|e
    ·omega
    ·have:=g.rng _ _ e;omega
   ·have:=g.rng _ _ hx;omega
 ·rw [hr] at hx
  split at hx
  ·simp at hx;omega
  ·split at hx
   ·rcases b9.mp hx with e|e
    ·omega
    ·rename_i e2;subst e2;exact g.irr _ e
   ·exact g.irr _ hx
 ·rw [hr];split
  ·simp
  ·split
   ·exact ot (g.nod _) (nl _)
   ·exact g.nod _
 ·rw [hr] at hx
  split at hx
  ·have e:q=p:=by simpa using hx
   subst e
   rename_i e
   rw [hr,if_neg (by omega),if_pos rfl,e]
   exact b9.mpr (.inl rfl)
  ·split at hx
   ·rename_i e;subst e
    rcases b9.mp hx with e|e
    ·rw [hr,if_pos e];simp
    ·exact mono _ _ (g.sym _ _ e)
   ·exact mono _ _ (g.sym _ _ hx)
 ·rw [qG] at hx
  by_cases e:x=w.length
  ·refine Reach.step ((g.con p h).mono mono) ?_
   rw [hr,if_neg (by omega),if_pos rfl,e]
   exact b9.mpr (.inl rfl)
  ·exact (g.con x (by omega)).mono mono
def yS(w:W)(p i u j:Nat):W:=(w.set p (ins (row w p) i u)).set u (ins (row w u) j p)
theorem uU(w:W)(p i u j:Nat):(yS w p i u j).length=w.length:=by unfold yS;simp
theorem IM{w:W}{p i u j x:Nat}(hp:p<w.length)(hu:u<w.length):row (yS w p i u j) x=if u=x then ins (row w u) j p else if p=x then ins (row w p) i u else row w x:=by
 unfold yS;rw [gI (by simpa using hu),gI hp]
theorem ED{w:W}{p i u j:Nat}(g:Good w)(hp:p<w.length)(hu:u<w.length)(ne:u≠p)(nt:u∉row w p):Good (yS w p i u j):=by
 have hr:=λx=>IM (i:=i) (j:=j) (x:=x) hp hu;have nt':p∉row w u:=λh=>nt (g.sym _ _ h)
 have mono:∀x q,q∈row w x→q∈row (yS w p i u j) x:=λx q hq=>by
  rw [hr]
  split
  ·rename_i e;subst e;exact b9.mpr (.inr hq)
  ·split
   ·rename_i e;subst e;exact b9.mpr (.inr hq)
   ·exact hq
 refine ⟨λx q hx=>?_,λx hx=>?_,λx=>?_,λx q hx=>?_,λx hx=>?_⟩
 ·rw [hr] at hx;rw [uU]
  split at hx
  ·rcases b9.mp hx with e|e
   ·omega
   ·exact g.rng _ _ e
  ·split at hx
   ·rcases b9.mp hx with e|e
    ·omega
    ·exact g.rng _ _ e
   ·exact g.rng _ _ hx
 ·rw [hr] at hx
  split at hx
  ·rename_i e2;subst e2
   rcases b9.mp hx with e|e
   ·exact ne e
   ·exact g.irr _ e
  ·split at hx
   ·rename_i e2;subst e2
    rcases b9.mp hx with e|e
    ·exact ne e.symm
    ·exact g.irr _ e
   ·exact g.irr _ hx
 ·rw [hr];split
  ·exact ot (g.nod _) nt'
  ·split
   ·exact ot (g.nod _) nt
   ·exact g.nod _
 ·rw [hr] at hx
  split at hx
  ·rename_i e2;subst e2
   rcases b9.mp hx with e|e
   ·subst e;rw [hr,if_neg ne,if_pos rfl];exact b9.mpr (.inl rfl)
   ·exact mono _ _ (g.sym _ _ e)
  ·split at hx
   ·rename_i e2;subst e2
    rcases b9.mp hx with e|e
    ·subst e;rw [hr,if_pos rfl];exact b9.mpr (.inl rfl)
    ·exact mono _ _ (g.sym _ _ e)
   ·exact mono _ _ (g.sym _ _ hx)
 ·rw [uU] at hx;exact (g.con x hx).mono mono
theorem EC{w w':W}{ord:Nat→Nat}(g:Good w)(hl:w'.length=w.length)(into:∀p,p<w.length→ord p<w.length)
  (inj:∀p q,p<w.length→q<w.length→ord p=ord q→p=q) (Av:∀y,y<w.length→∃p,p<w.length∧ord p=y)
  (gG:∀p,p<w.length→(row w' (ord p)).Perm ((row w p).map ord)):Good w':=by
 have mem:∀p q,p<w.length→(q∈row w' (ord p)↔∃a,a∈row w p∧ord a=q):=λp q hp=>by
  rw [(gG p hp).mem_iff,bX]
 have reach:∀{p q},Reach w p q→Reach w' (ord p) (ord q):=λ {p q} h=>by
  induction h with
  |refl=>exact .refl _
  |step _ hr ih=>exact .step ih ((mem _ _ (gx hr)).mpr ⟨_,hr,rfl⟩)
 refine ⟨λy q hy=>?_,λy hy=>?_,λy=>?_,λy q hy=>?_,λy hy=>?_⟩
 ·obtain ⟨p,hp,rfl⟩:=Av y (by have:=gx hy;omega)
  obtain ⟨a,ha,rfl⟩:=(mem p q hp).mp hy;rw [hl];exact into a (g.rng _ _ ha)
 ·obtain ⟨p,hp,rfl⟩:=Av y (by have:=gx hy;omega)
  obtain ⟨a,ha,e⟩:=(mem p _ hp).mp hy
  have:=inj a p (g.rng _ _ ha) hp e
  subst this;exact g.irr _ ha
 ·by_cases hy:y<w.length
  ·obtain ⟨p,hp,rfl⟩:=Av y hy
   rw [(gG p hp).nodup_iff];unfold List.Nodup;rw [jM];refine List.Pairwise.imp_of_mem ?_ (g.nod p);intro a b ha hb ne e;exact ne (inj a b (g.rng _ _ ha) (g.rng _ _ hb) e)
  ·rw [IL (by omega)];exact jO
 ·obtain ⟨p,hp,rfl⟩:=Av y (by have:=gx hy;omega)
  obtain ⟨a,ha,rfl⟩:=(mem p q hp).mp hy;exact (mem a _ (g.rng _ _ ha)).mpr ⟨p,g.sym _ _ ha,rfl⟩
 ·rw [hl] at hy
  obtain ⟨p,hp,rfl⟩:=Av y hy;obtain ⟨z,hz,e0⟩:=Av 0 (by omega)
  have h1:=reach (((g.con z hz).symm g.sym).trans (g.con p hp));rw [e0] at h1;exact h1
def gX(l:List Nat)(x:Nat):Nat:=l.getD ((l.idxOf x+1)%l.length) 0
def uv(w:W)(d:Nat×Nat):Nat×Nat:=(d.2,gX (row w d.2) d.1)
def bL(w:W)(d:Nat×Nat):Prop:=d.2∈row w d.1
theorem kj{l:List Nat}{x:Nat}(h:x∈l):l[(l.idxOf x+1)%l.length]? =some (gX l x):=by
 have hp:0<l.length:=r8 h;unfold gX;rw [fW,cN (qo _ hp)];rfl
theorem CB{l:List Nat}{x:Nat}(h:x∈l):gX l x∈l:=cT (kj h)
theorem HN{a b n:Nat}(ha:a<n)(hb:b<n)(e:(a+1)%n=(b+1)%n):a=b:=by
 by_cases h1:a+1=n
 ·by_cases h2:b+1=n
  ·omega
  ·rw [h1,Nat.mod_self,ve (by omega)] at e;omega
 ·by_cases h2:b+1=n
  ·rw [h2,Nat.mod_self,ve (by omega)] at e;omega
  ·rw [ve (by omega),ve (by omega)] at e;omega
theorem CA{l:List Nat}{x y:Nat}(nd:l.Nodup)(hx:x∈l)(hy:y∈l)(e:gX l x=gX l y):x=y:=by
 have hp:0<l.length:=r8 hx;have h1:=kj hx;have h2:=kj hy;rw [e] at h1;have lx:=vk.mpr hx;have ly:=vk.mpr hy;obtain ⟨a1,b1⟩:=bV.mp h1;obtain ⟨a2,b2⟩:=bV.mp h2;have q:=(List.getElem_inj nd).mp (b1.trans b2.symm);have q2:=HN lx ly q;have e1:=AM lx;have e2:=AM ly;rw [←e1,←e2];simp only [q2]
theorem Fd{w:W}{d:Nat×Nat}(g:Good w)(h:bL w d):bL w (uv w d):=CB (g.sym _ _ h)
theorem HW{w:W}{d e:Nat×Nat}(g:Good w)(h:bL w d)(h':bL w e)(q:uv w d=uv w e):d=e:=by
 have e2:d.2=e.2:=congrArg Prod.fst q;have e1:gX (row w d.2) d.1=gX (row w e.2) e.1:=congrArg Prod.snd q;rw [←e2] at e1;have h1:d.1∈row w d.2:=g.sym _ _ h;have h2:e.1∈row w d.2:=by rw [e2];exact g.sym _ _ h'
 exact Prod.ext (CA (g.nod _) h1 h2 e1) e2
def aK(w:W):List (Nat×Nat):=(List.range w.length).flatMap λp=>(row w p).map λq=>(p,q)
theorem bF{w:W}{d:Nat×Nat}:d∈aK w↔bL w d:=by
 unfold aK bL;rw [List.mem_flatMap]
 constructor
 ·rintro ⟨p,_,h⟩
  obtain ⟨q,hq,rfl⟩:=bX.mp h;exact hq
 ·intro h
  exact ⟨d.1,fE.mpr (gx h),bX.mpr ⟨d.2,h,rfl⟩⟩
theorem aN{α:Type} [DecidableEq α]:∀{l m:List α},l.Nodup→(∀x∈l,x∈m)→l.length≤m.length
 | [],_,_,_=>cW _
 |a::r,m,nd,h=>by
  have BY:=iP.mp nd;have am:=h a b7;have ih:=aN (l:=r) (m:=m.erase a) BY.2 λx hx=>(List.mem_erase_of_ne (λ(e:x=a)=>BY.1 (by rw [←e];exact hx))).mpr (h x (cm _ hx))
  rw [List.length_erase_of_mem am] at ih
  have:=r8 am
  simp only [cx];omega
theorem eF{w:W}(g:Good w)(p:Nat):(row w p).length≤w.length:=by
 have:=aN (m:=List.range w.length) (g.nod p) λx hx=>fE.mpr (g.rng _ _ hx)
 simpa using this
theorem wo{α β:Type}{f:α→List β}{k:Nat}:∀{l:List α},(∀x∈l,(f x).length≤k)→(l.flatMap f).length≤l.length*k
 | [],_=>by simp
 |a::r,h=>by
  have ih:=wo (f:=f) (k:=k) (l:=r) λx hx=>h x (cm _ hx)
  have:=h a b7
  rw [xl,dE,cx,Nat.succ_mul];omega
theorem gb{w:W}(g:Good w):(aK w).length≤w.length*w.length:=by
 have:=wo (f:=λp=>(row w p).map λq=>(p,q)) (k:=w.length) (l:=List.range w.length) λx _=>by rw [aM];exact eF g x
 rw [qh] at this;exact this
def cA(w:W):Nat→Nat×Nat→Nat×Nat
 |0,d=>d
 |n+1,d=>uv w (cA w n d)
theorem gh{w:W}{d:Nat×Nat}(g:Good w)(h:bL w d):∀n,bL w (cA w n d)
 |0=>h
 |n+1=>Fd g (gh g h n)
theorem ue{w:W}{d:Nat×Nat}(m:Nat):∀n,cA w (n+m) d=cA w n (cA w m d)
 |0=>by rw [ql];rfl
 |n+1=>by rw [Nat.succ_add];show uv w (cA w (n+m) d)=uv w (cA w n (cA w m d));rw [ue m n]
theorem zO{w:W}{d e:Nat×Nat}(g:Good w)(h:bL w d)(h':bL w e):∀n,cA w n d=cA w n e→d=e
 |0,q=>q
 |n+1,q=>zO g h h' n (HW g (gh g h n) (gh g h' n) q)
def walk(w:W)(d:Nat×Nat)(k:Nat):List (Nat×Nat):=(List.range k).map λi=>cA w i d
theorem uY(w:W)(d:Nat×Nat)(k:Nat):walk w d (k+1)=walk w d k++ [cA w k d]:=by
 unfold walk;rw [List.range_succ,dY];rfl
theorem jL(w:W)(d:Nat×Nat)(k:Nat):(walk w d k).length=k:=by unfold walk;simp
theorem oO{w:W}{d:Nat×Nat}(g:Good w)(h:bL w d){k:Nat}:∀e∈walk w d k,bL w e:=λe he=>by
 obtain ⟨i,_,rfl⟩:=bX.mp he;exact gh g h i
theorem rX{w:W}{d:Nat×Nat}(g:Good w)(h:bL w d){k:Nat}(hk:∀j,0<j→j<k→cA w j d≠d):(walk w d k).Nodup:=by
 unfold walk List.Nodup;rw [jM];refine List.Pairwise.imp_of_mem ?_ List.pairwise_lt_range;intro i j hi hj lt e;have xW:=fE.mp hj;have e2:cA w i d=cA w i (cA w (j-i) d):=by rw [←ue (j-i) i,show i+(j-i)=j by omega];exact e
 exact hk (j-i) (by omega) (by omega) (zO g h (gh g h _) i e2).symm
theorem uX{w:W}{d:Nat×Nat}(g:Good w)(h:bL w d){k:Nat}(hk:∀j,0<j→j<k→cA w j d≠d):k≤(aK w).length:=by
 have:=aN (m:=aK w) (rX g h hk) λe he=>bF.mpr (oO g h e he)
 rwa [jL] at this
theorem zf{w:W}(g:Good w){S:Nat→Prop}(h0:S 0)(hc:∀p q,S p→q∈row w p→S q):∀p,p<w.length→S p:=λp hp=>by
 have:∀{a b},Reach w a b→S a→S b:=λ {a b} h ha=>by
  induction h with
  |refl=>exact ha
  |step _ hr ih=>exact hc _ _ ih hr
 exact this (g.con p hp) h0
def lexLe(a b:Nat×Nat):Prop:=a.1<b.1∨(a.1=b.1∧a.2≤b.2)
theorem qJ{a b:Nat×Nat}(h:lexLe a b)(h':lexLe b a):a=b:=by
 unfold lexLe at h h';exact Prod.ext (by omega) (by omega)
def jb(rows:Nat→List Nat)(n:Nat):List (Nat×Nat):=(List.range n).flatMap λp=>((rows p).filter λq=>decide (p<q)).map λq=>(p,q)
theorem lF{α β:Type}{R:β→β→Prop}{f:α→List β}:∀{l:List α},(∀x∈l,(f x).Pairwise R)→l.Pairwise (λa b=>∀x∈f a,∀y∈f b,R x y)→(l.flatMap f).Pairwise R
 | [],_,_=>List.Pairwise.nil
 |a::r,h,p=>by
  have p':=List.pairwise_cons.mp p;rw [xl,y0];refine ⟨h a b7,lF (λx hx=>h x (cm _ hx)) p'.2,λx hx y hy=>?_⟩;obtain ⟨b,hb,EX⟩:=List.mem_flatMap.mp hy;exact p'.1 b hb x hx y EX
end Wb
namespace L2
open PySem PySem.Spec PyProof.Rows
section
variable {X:Cx}
theorem Vals.ins{x:V}{u:Value}(r:RelV x u){xs:List V}{us:List Value}(i:Nat)(h:Vals xs us):Vals (Wb.ins xs i x) (Wb.ins us i u):=(h.take i).append (.cons r (h.drop i))
def IH:V→List V→Hp→VK→Prop:=λx vs H Q=>∃l xs i y,x= .ref l∧vs= [.int i,y]∧H l=some (.lst xs)∧0≤i∧i≤xs.length∧xs.length<sizeLine∧Q .aI (upd H l (.lst (Wb.ins xs i.toNat y)))
theorem j4:AW X "list.insert" IH:=by
 intro pins s σ H x vs v us Q I rx rv h;obtain ⟨l,xs,i,y,rfl,rfl,hH,h0,h1,hz,q⟩:=h;cases rx;obtain ⟨u1,u2,rfl,⟨t,rfl⟩,ru⟩:=rv.two;obtain ⟨z,its,n,r,hl,e⟩:=I.lA hH;have bq:=j1
 have RW:¬(!Builtin.List.listFitsIndex i)=true:=by
  rw [fitsIndex_both (by omega) (by omega)]
  exact cB
 refine call_meets F.slot_list_insert ⟨_,e,rfl⟩ F.entry_list_insert (F.args_list_insert_3 _ _ _) (AutoSeq1.list_insert_list_int_val_1 l its.toArray n i t u2 RW (by rw [dr];omega)) ⟨e,?_⟩
 refine ⟨.aI,_,I.wO (its':=Wb.ins its i.toNat u2) hH e ?_ (r.ins ru i.toNat) ?_,rfl,q⟩
 ·have hi:¬i<0:=by omega
  have hm:min i.toNat its.length=i.toNat:=by omega
  simp only [hi,if_false,dr,hm];apply Array.toList_inj.mp;unfold Wb.ins;simp;exact nG (by rw [vt];omega)
 ·rw [Wb.ud];omega
def Lc(K:PySem.W.Frag):V→List V→Hp→VK→Prop:=λx vs H Q=>∃(l:Addr)(xs:List V)(y:V)(j:Nat)(z:V),x= .ref l∧vs= [y]∧H l=some (.lst xs)∧fO y=true∧xs.all fO=true∧xs[j]? =some z∧nS z y=true∧
 (∀(m:Nat) z,m<j→xs[m]? =some z→nS z y=false)∧Q (.int j) H
theorem mL:AW X "list.index" (Lc X.K):=by
 intro pins s σ H x vs v us Q I rx rv h;obtain ⟨l,xs,y,j,z,rfl,rfl,hH,fy,fs,hz,ez,zG,q⟩:=h;cases rx;obtain ⟨u,rfl,ru⟩:=rv.one;obtain ⟨fk,its,n,r,hl,e⟩:=I.lA hH;obtain ⟨w,hw,oI⟩:=r.get hz
 have hj:j<its.toArray.size:=by
  obtain ⟨h1,_⟩:=bV.mp hw;simpa using h1
 have flat:∀(m:Nat) z,xs[m]? =some z→fO z=true:=λm z h=>(vg.mp fs) z (cT h)
 have YH:its.toArray[j]=w:=by
  obtain ⟨h1,h2⟩:=bV.mp hw;simpa using h2
 have bq:=j1
 have xW:j<xs.length:=by
  obtain ⟨h1,_⟩:=bV.mp hz;exact h1
 refine call_meets F.slot_list_index ⟨_,e,rfl⟩ F.entry_list_index (F.args_list_index_2 _ _) (SeqAt.list_indexAt l its.toArray n none #[] u (mZ y) j hj (by omega) ?_ ?_) ⟨e,λw hw=>iw ru fy r fs w (by simpa using hw),?_⟩
 ·rw [YH,sS oI (flat j z hz)];exact ez
 ·intro m hm Oh
  have BB:m<its.length:=by simpa using hm
  obtain ⟨zm,OE⟩:∃zm,xs[m]? =some zm:=⟨_,cN (by omega)⟩
  obtain ⟨wm,YI,rwm⟩:=r.get OE
  have Xl:its.toArray[m]=wm:=by
   obtain ⟨h1,h2⟩:=bV.mp YI;simpa using h2
  rw [Xl,sS rwm (flat m zm OE)];exact zG m zm Oh OE
 ·exact ⟨.int j,H,I.tok _,⟨_,rfl⟩,q⟩
end
mutual
inductive Dp (K:PySem.W.Frag) (H:Hp):V→PyData→Prop
 |aI:Dp K H .aI .none
 |bl (b:Bool):Dp K H (.bl b) (.bool b)
 |int (i:Int):Dp K H (.int i) (.int i)
 |str (x:Str) (h:PyData.strOk x=true):Dp K H (.str x) (.str x)
 |lst {a:Addr} {xs:List V} {ds:List PyData}:aD K H a xs→dP K H xs ds→Dp K H (.ref a) (.list ds)
 |tup {a:Addr} {xs:List V} {ds:List PyData}:cZ K H a xs→dP K H xs ds→Dp K H (.ref a) (.tuple ds)
inductive dP (K:PySem.W.Frag) (H:Hp):List V→List PyData→Prop
 |nil:dP K H [] []
 |cons {v:V} {vs:List V} {d:PyData} {ds:List PyData}:Dp K H v d→dP K H vs ds→dP K H (v::vs) (d::ds)
end
section
variable {X:Cx} {pins:List (Addr×Obj)} {σ:St} {H:Hp} {s:Shared}
mutual
theorem Dp.reads(I:Inv X pins σ H s):∀{v:V}{d:PyData}{u:Value},Dp X.K H v d→RelV v u→(∃as,Reads s.heap u d as)∧d.canLay0=true
 |_,_,_, .aI,r=>by cases r;exact ⟨⟨_, .none⟩,rfl⟩
 |_,_,_, .bl b,r=>by cases r;exact ⟨⟨_, .bool b⟩,rfl⟩
 |_,_,_, .int i,r=>by obtain ⟨t,rfl⟩:=r;exact ⟨⟨_, .int i t⟩,rfl⟩
 |_,_,_, .str x h,r=>by obtain ⟨t,rfl⟩:=r;exact ⟨⟨_, .str x t⟩,by simpa [PyData.canLay0] using h⟩
 |_,_,_, .lst h a,r=>by
  cases r;obtain ⟨its,rv,pl,hz⟩:=I.list h;obtain ⟨⟨as,ra⟩,c⟩:=dP.reads I a rv;obtain ⟨o,ho,hc,n,hd⟩:=pl.isList;exact ⟨⟨_, .list ho hc hd (by simpa using ra)⟩,by simpa [PyData.canLay0] using c⟩
 |_,_,_, .tup h a,r=>by
  cases r;obtain ⟨its,rv,pl,hz⟩:=I.tuple h;obtain ⟨⟨as,ra⟩,c⟩:=dP.reads I a rv;obtain ⟨o,ho,hc,n,hd⟩:=pl;exact ⟨⟨_, .tuple ho hc hd (by simpa using ra)⟩,by simpa [PyData.canLay0] using c⟩
theorem dP.reads(I:Inv X pins σ H s):∀{vs:List V}{ds:List PyData}{us:List Value},dP X.K H vs ds→Vals vs us→(∃as,ReadsAll s.heap us ds as)∧PyData.canLayAll0 ds=true
 |_,_,_, .nil, .nil=>⟨⟨_, .nil⟩,by simp [PyData.canLayAll0]⟩
 |_,_,_, .cons a as, .cons r rs=>by
  obtain ⟨⟨x,h1⟩,c1⟩:=Dp.reads I a r;obtain ⟨⟨y,h2⟩,c2⟩:=dP.reads I as rs;exact ⟨⟨_, .cons h1 h2⟩,by simp [PyData.canLayAll0,c1,c2]⟩
end
end
section
variable {X:Cx}
def UZ(K:PySem.W.Frag):R2:=λx y H Q=>∃d e,Dp K H x d∧Dp K H y e∧d.depth≤64∧Q (.bl (PyData.eqv d e)) H
def U0(K:PySem.W.Frag):R2:=λx y H Q=>∃d e,Dp K H x d∧Dp K H y e∧d.depth≤64∧Q (.bl (!PyData.eqv d e)) H
theorem KP(hu:X.A.units+64<cLine):OpR X (compareOp .Eq) (UZ X.K):=by
 intro pins s σ H x y v u Q I rx ry h;obtain ⟨d,e,hd,he,hz,q⟩:=h;obtain ⟨⟨as,r1⟩,c1⟩:=hd.reads I rx;obtain ⟨⟨bs,r2⟩,c2⟩:=he.reads I ry;exact SeqAt.compareEq_reads r1 r2 c1 c2 (by have:=Nat.min_le_left d.depth e.depth;omega) ⟨.bl _,H,I,rfl,q⟩
theorem yE(hu:X.A.units+64<cLine):OpR X (compareOp .NotEq) (U0 X.K):=by
 intro pins s σ H x y v u Q I rx ry h;obtain ⟨d,e,hd,he,hz,q⟩:=h;obtain ⟨⟨as,r1⟩,c1⟩:=hd.reads I rx;obtain ⟨⟨bs,r2⟩,c2⟩:=he.reads I ry;exact SeqAt.compareNe_reads r1 r2 c1 c2 (by have:=Nat.min_le_left d.depth e.depth;omega) ⟨.bl _,H,I,rfl,q⟩
end
def nD(n:Nat):PyData:= .int n
def nj(r:List Nat):PyData:= .list (r.map nD)
def kG(d:Nat×Nat):PyData:= .tuple [.int d.1, .int d.2]
theorem gE{α:Type}{f:α→PyData}(hf:∀a b,PyData.eqv (f a) (f b)=true↔a=b):∀xs ys:List α,PyData.eqvAll (xs.map f) (ys.map f)=true↔xs=ys
 | [],[]=>by simp [PyData.eqvAll]
 | [],_::_=>by simp [PyData.eqvAll]
 |_::_,[]=>by simp [PyData.eqvAll]
 |a::xs,b::ys=>by
  have ih:=gE hf xs ys;simp [PyData.eqvAll,hf,ih]
theorem JW(a b:Nat):PyData.eqv (nD a) (nD b)=true↔a=b:=by
 simp [nD,PyData.eqv];omega
theorem Ew(a b:List Nat):PyData.eqv (nj a) (nj b)=true↔a=b:=by
 unfold nj;rw [PyData.eqv];exact gE JW a b
theorem wg(a b:Nat×Nat):PyData.eqv (kG a) (kG b)=true↔a=b:=by
 unfold kG;obtain ⟨a1,a2⟩:=a;obtain ⟨b1,b2⟩:=b;simp [PyData.eqv,PyData.eqvAll];omega
theorem e8{α:Type}{f:α→PyData}{k:Nat}(hf:∀a,(f a).depth≤k):∀xs:List α,PyData.depthAll (xs.map f)≤k
 | []=>by simp [PyData.depthAll]
 |a::xs=>by
  have:=hf a
  have ih:=e8 hf xs;simp [PyData.depthAll];omega
theorem zk(a:List Nat):(nj a).depth≤2:=by
 unfold nj;rw [PyData.depth]
 have:=e8 (f:=nD) (k:=1) (λn=>by simp [nD,PyData.depth]) a
 omega
theorem rp(a:Nat×Nat):(kG a).depth≤2:=by simp [kG,PyData.depth,PyData.depthAll]
def lY(w:List (List Nat)):PyData:= .list (w.map nj)
theorem mF(a b:List (List Nat)):PyData.eqv (lY a) (lY b)=true↔a=b:=by
 unfold lY;rw [PyData.eqv];exact gE Ew a b
theorem rq(a:List (List Nat)):(lY a).depth≤3:=by
 unfold lY;rw [PyData.depth]
 have:=e8 (f:=nj) (k:=2) zk a
 omega
end L2
namespace L2
open PySem PySem.Spec PyProof.Rows
section
variable {X:Cx}
theorem Eh(hc:X.calm=true):bQ X (.builtin "all") (λxs H Q=>∃(p:Addr)(bs:List Bool),xs= [.ref p]∧H p=some (.lst (bs.map V.bl))∧Q (.bl (bs.all id)) H):=by
 intro pins s σ H xs us Q I rv h;obtain ⟨p,bs,rfl,hp,q⟩:=h;obtain ⟨u,rfl,ru⟩:=rv.one;cases ru;obtain ⟨its,r,pl,hz⟩:=I.list (aD.of hp);have hl:=r.length;rw [aM] at hl;refine call_all_walk (wpAny_pyIter_list pl.isList ?_)
 have gP:p≠s.heap.objs.size:=by
  obtain ⟨o,ho,_⟩:=pl.isList;exact bI (Heap.lt_size ho)
 have sA:∀i:Nat,i<its.length→∃b,bs[i]? =some b∧its[i]? =some (.bool b):=λi hi=>by
  obtain ⟨b,hb⟩:∃b,bs[i]? =some b:=⟨_,cN (by omega)⟩
  obtain ⟨w,hw,oI⟩:=r.get (i:=i) (x:= .bl b) (by rw [bH,hb];rfl)
  cases oI;exact ⟨b,hb,hw⟩
 refine ⟨_,_,_,its.toArray.size,_,_,λi=>bs.getD i false,rfl,Walks.list (show X.A.in1.handled=none from I.ok.hd hc) s.heap.objs.size p gP its.toArray,⟨⟨_,Heap.get?_push_size _ rfl,rfl,rfl⟩,pl.isList.push _⟩,?_,λh' tk kk=>?_⟩
 ·intro i v s Q E hv hq
  have qC:its[i]? =some v:=by simpa using hv
  have hi:i<its.length:=by
   obtain ⟨h1,_⟩:=bV.mp qC;exact h1
  obtain ⟨b,hb,hw⟩:=sA i hi;rw [hw] at qC;cases qC;refine wpAny_truthy_bool ?_;have vI:Q (bs.getD i false) s:=hq;rw [fW,hb] at vI;exact vI
 ·have kept:∀b o,s.heap.get? b=some o→h'.get? b=some o:=λb o e=>kk b o (by simp;exact bI (Heap.lt_size e)) (Heap.get?_push_of_some _ e)
  have e:(List.range its.toArray.size).all (λi=>bs.getD i false)=bs.all id:=by
   rw [dr,←hl];rw [vh,vg,vg]
   constructor
   ·intro h x hx
    obtain ⟨i,hi,rfl⟩:=List.mem_iff_getElem.mp hx
    have:=h i (fE.mpr hi)
    rw [fW,cN hi] at this;exact this
   ·intro h i hi
    have eC:=fE.mp hi;rw [fW,cN eC];exact h _ (jN eC)
  rw [e];exact ⟨.bl _,H,I.kept kept,rfl,q⟩
theorem xF:bQ X (.builtin "isinstance") (λxs H Q=>∃(x:V)(n:String)(t:Value)(b:Bool),xs= [x, .ty n]∧iW X.K H x t∧PySem.W.kitOne X.K t (.type n)=some b∧Q (.bl b) H):=by
 intro pins s σ H xs us Q I rv h;obtain ⟨x,n,t,b,rfl,ty,e,q⟩:=h;obtain ⟨u1,u2,rfl,r1,r2⟩:=rv.two;cases r2;exact BM I r1 ty e λtk=>⟨.bl b,H,I.tok _,rfl,q⟩
end
theorem tN(elt t0 i0 t1 i1:Expr)(f0 f1:List Expr)(scope:Scope)(pos:Pos)(it acc:Value)(env:Env):
  compTurn (.ListComp elt [⟨t0,i0,f0,0⟩,⟨t1,i1,f1,0⟩] scope pos) 0 it acc env=(do
   standAt i0.pos
   match ←pyNext it with
   |none=>pure (.done .next)
   |some v=>
    letOwnedTupleGo t0 it v
    assign t0 env v
    let ok ←forIn f0 true λc r=>if r=true then do let ok ←isTrue c env (eval c env);pure (ForInStep.yield ok) else pure (ForInStep.yield r)
    if ok=true then
     let x ←eval i1 env
     standAt i1.pos
     let x ←foldedSetIterable i1 env x
     let Hx ←holding [x] (pyIter x)
     let _ ←runOwn (.compStart (.ListComp elt [⟨t0,i0,f0,0⟩,⟨t1,i1,f1,0⟩] scope pos) 1 Hx acc env) env
     again (.compLoop (.ListComp elt [⟨t0,i0,f0,0⟩,⟨t1,i1,f1,0⟩] scope pos) 0 it acc env)
    else again (.compLoop (.ListComp elt [⟨t0,i0,f0,0⟩,⟨t1,i1,f1,0⟩] scope pos) 0 it acc env)):=by rfl
theorem tO(elt t0 i0 t1 i1:Expr)(f0 f1:List Expr)(scope:Scope)(pos:Pos)(it acc:Value)(env:Env):
  compTurn (.ListComp elt [⟨t0,i0,f0,0⟩,⟨t1,i1,f1,0⟩] scope pos) 1 it acc env=(do
   standAt i1.pos
   match ←pyNext it with
   |none=>pure (.done .next)
   |some v=>
    letOwnedTupleGo t1 it v
    assign t1 env v
    let ok ←forIn f1 true λc r=>if r=true then do let ok ←isTrue c env (eval c env);pure (ForInStep.yield ok) else pure (ForInStep.yield r)
    if ok=true then
     (do let _ ←call (.builtin "list.append") [acc,←eval elt env])
     again (.compLoop (.ListComp elt [⟨t0,i0,f0,0⟩,⟨t1,i1,f1,0⟩] scope pos) 1 it acc env)
    else again (.compLoop (.ListComp elt [⟨t0,i0,f0,0⟩,⟨t1,i1,f1,0⟩] scope pos) 1 it acc env)):=by rfl
section
variable {X XC:Cx} {elt i0 t0 i1 t1:Expr} {f0 f1:List Expr} {scope:Scope} {pos:Pos} {wi fV:TI} {g g1:TG} {tt cX:TT} {te:TE} {src:List (Option Nat)} {NC:List Str}
theorem sq{it acc:Value}{env:Env}{R:Result→Shared→Prop}{s:Shared}{A:Around}
  (h0:codeAny (model X.prog X.w) A (.compLoop (.ListComp elt [⟨t0,i0,f0,0⟩,⟨t1,i1,f1,0⟩] scope pos) 1 it acc env) R s)
  (hp:∀(Q:Value→Shared→Prop)(E:Value→Shared→Prop),Q it s→wpAny (model X.prog X.w) A (pyIter it) Q E s):
  codeAny (model X.prog X.w) A (.compStart (.ListComp elt [⟨t0,i0,f0,0⟩,⟨t1,i1,f1,0⟩] scope pos) 1 it acc env) R s:=by
 refine codeAny_of_tree ?_;show wpAny _ _ ((compStart (.ListComp elt [⟨t0,i0,f0,0⟩,⟨t1,i1,f1,0⟩] scope pos) 1 it acc env).onRaise (λx=>do noteFrame x env;standAt theWindowsPlace)) _ _ s
 refine wpAny_notedAt ?_;unfold compStart;show wpAny _ _ (ask>>=_) _ _ s;refine wpAny_bind (wpAny_askSetting (wpAny_ite ?_))
 split
 ·first
   |exact wpAny_bind (wpAny_pure (wpAny_pure ⟨rfl,h0⟩))
   |exact wpAny_pure ⟨rfl,h0⟩
 ·refine wpAny_bind (wpAny_rule ?_)
  show wpAny _ _ (standAt i1.pos>>=_) _ _ s;exact wpAny_bind (wpAny_standAt (wpAny_bind (hp _ _ (wpAny_pure ⟨rfl,h0⟩))))
theorem zg{pins:List (Addr×Obj)}{s:Shared}{σ:St}{H:Hp}{it D:Addr}{fp:List Addr}{tn:Nat→Heap→Prop}{J:It}{R:Result→Shared→Prop}{N:St→Hp→Prop}
  (Kd:XC.xe=λ_ _=>False) (hc:XC.calm=true) (I:Inv XC pins σ H s) (T:Turn XC.prog XC.w XC.K t1 J fp it tn) (st:tn 0 s.heap) (f2:∀b∈fp,fz XC pins H b)
  (hg:PG XC t1 g1) (ht:nK XC f1 cX) (he:PE XC elt te)
  (hW:∃W:Nat→Nat→St→Hp→Prop,(∃m,W 0 m σ H)∧∀i m cn H2,W i m cn H2→(J.stop i H2∧N cn H2)∨
   (J.go i H2∧∃N1:St→Hp→Prop,(∀ay H',N1 ay H'→∃m',m'<m∧W (i+1) m' ay H')∧∀x H3,J.yld i H2 x H3→g1 x cn H3 λcO H4=>cX cO H4 λb H5=>
    if b=true then te cO H5 λv H6=>∃ys,H6 D=some (.lst ys)∧ys.length<sizeLine∧N1 cO (upd H6 D (.lst (ys++ [v]))) else N1 cO H5))
  (hR:∀ay H' s',Inv XC pins ay H' s'→N ay H'→R (.ok .next) s'):
  codeAny (model XC.prog XC.w) XC.A (.compStart (.ListComp elt [⟨t0,i0,f0,0⟩,⟨t1,i1,f1,0⟩] scope pos) 1 (.ref it) (.ref D) XC.env) R s:=by
 obtain ⟨W,⟨m0,w0⟩,turn⟩:=hW
 have iV:∀{α:Type}{t:Sem α}{Q:α→Shared→Prop}{E:Value→Shared→Prop}{s:Shared},wpAny (model XC.prog XC.w) XC.A t Q XC.xe s→wpAny (model XC.prog XC.w) XC.A t Q E s:=λ {α t Q E s} h=>
  wpAny_mono h (λ_ _ q=>q) λ_ _ f=>by rw [Kd] at f;exact f.elim
 have stat:∀{H':Hp},(∀b∈fp,H' b=none)→∀b∈fp,fz XC pins H' b:=λhn b hb=>⟨hn b hb,(f2 b hb).2⟩
 have loop:codeAny (model XC.prog XC.w) XC.A (.compLoop (.ListComp elt [⟨t0,i0,f0,0⟩,⟨t1,i1,f1,0⟩] scope pos) 1 (.ref it) (.ref D) XC.env) R s:=by
  refine codeAny_loop rfl (λn s'=>∃i ay H',Inv XC pins ay H' s'∧tn i s'.heap∧(∀b∈fp,H' b=none)∧W i n ay H') (λn s' hI=>?_) m0 ⟨0,σ,H,I,st,λb hb=>(f2 b hb).1,w0⟩;obtain ⟨i,ay,H',I5,sM,nV,w5⟩:=hI;show wpAny _ XC.A ((compTurn (.ListComp elt [⟨t0,i0,f0,0⟩,⟨t1,i1,f1,0⟩] scope pos) 1 (.ref it) (.ref D) XC.env).onRaise (λx=>do noteFrame x XC.env;theTreesLotGoes x)) _ _ s'
  refine wpAny_noted ?_;rw [tO];refine wpAny_bind (wpAny_standAt (wpAny_bind ?_))
  rcases turn i n ay H' w5 with ⟨stop,qn⟩ | ⟨go,N1,hN,step⟩
  ·refine thn (T.done XC rfl rfl rfl hc i pins s' ay H' _ I5 (stat nV) sM stop) λr s6 ⟨hr,I6⟩=>?_
   subst hr;exact wpAny_pure (hR ay H' s6 I6 qn)
  ·refine thn (T.item XC rfl rfl rfl hc i pins s' ay H' _ I5 (stat nV) sM go) λr s6 ⟨u,hr,h6⟩=>?_
   subst hr;refine wpAny_bind (thn h6 λ_ s7 ⟨x,H7,I7,r7,y7,uR,GO⟩=>?_);have FJ:=I7.pinned (stat GO) (T.obj _ _ uR)
   have nextT:∀{fJ:St}{H8:Hp}{s8:Shared},Inv XC (pins++j7 fp s7.heap) fJ H8 s8→N1 fJ H8→∃m,m<n∧∃i ay H',Inv XC pins ay H' s8∧tn i s8.heap∧(∀b∈fp,H' b=none)∧W i m ay H':=λ {fJ H8 s8} I8 n8=>by
    obtain ⟨m',hm,w8⟩:=hN fJ H8 n8;refine ⟨m',hm,i+1,fJ,H8,I8.iy,T.keep _ _ _ uR λb hb o e=>(I8.pin (b,o) (dX _ (dX _ (dz hb e)))).1,λb hb=>?_,w8⟩;obtain ⟨o,e,d⟩:=T.obj _ _ uR b hb;exact (I8.pin (b,o) (dX _ (dX _ (dz hb e)))).2.1
   refine wpAny_bind (iV (thn (hg _ s7 ay H7 x u _ FJ r7 (step x H7 y7)) λ_ s8 ⟨fJ,H8,I8,q8⟩=>?_));refine wpAny_bind (iV (thn (ht _ s8 fJ H8 _ I8 q8) λb s9 ⟨H9,I9,q9⟩=>?_));cases b with
   |false=>
    rw [if_neg cB] at q9;exact wpAny_pure ⟨rfl,nextT I9 q9⟩
   |true=>
    rw [if_pos rfl] at q9;refine wpAny_bind (wpAny_bind (iV (thn (he _ s9 fJ H9 _ I9 q9) λy yI ⟨v,xw,MW,Pa,ys,hD,hz,O8⟩=>?_)));refine wpAny_bind (iV (thn (ft _ yI fJ xw (.ref D) [v] _ [y] (λ_ H'=>N1 fJ H') MW rfl (.cons Pa .nil) ⟨_,ys,v,rfl,rfl,hD,hz,O8⟩) λ_ Cs ⟨_,Ed,FI,_,O9⟩=>?_));exact wpAny_pure (wpAny_pure ⟨rfl,nextT FI O9⟩)
 exact sq (X:=XC) loop λQ E q=>T.self _ 0 _ _ _ st q
def tIn(g1:TG)(cX:TT)(te:TE)(D:Addr)(J:It)(N:St→Hp→Prop):St→Hp→Prop:=λσ H=>
 ∃W:Nat→Nat→St→Hp→Prop,(∃m,W 0 m σ H)∧∀i m cn H2,W i m cn H2→(J.stop i H2∧N cn H2)∨
  (J.go i H2∧∃N1:St→Hp→Prop,(∀ay H',N1 ay H'→∃m',m'<m∧W (i+1) m' ay H')∧∀x H3,J.yld i H2 x H3→g1 x cn H3 λcO H4=>cX cO H4 λb H5=>
   if b=true then te cO H5 λv H6=>∃ys,H6 D=some (.lst ys)∧ys.length<sizeLine∧N1 cO (upd H6 D (.lst (ys++ [v]))) else N1 cO H5)
def VJ(g:TG)(tt:TT)(fV:TI)(g1:TG)(cX:TT)(te:TE)(D:Addr)(J:It)(Q:VK)(σ:St)(H:Hp):Prop:=
 ∃W:Nat→Nat→St→Hp→Prop,(∃m,W 0 m σ H)∧∀i m cn H2,W i m cn H2→
  (J.stop i H2∧Q (.ref D) H2)∨
  (J.go i H2∧∃N:St→Hp→Prop,(∀ay H',N ay H'→∃m',m'<m∧W (i+1) m' ay H')∧∀x H3,J.yld i H2 x H3→g x cn H3 λcO H4=>tt cO H4 λb H5=>
   if b=true then fV cO H5 λJ1 H6=>tIn g1 cX te D J1 N cO H6 else N cO H5)
def MS(wi:TI)(g:TG)(tt:TT)(fV:TI)(g1:TG)(cX:TT)(te:TE)(src:List (Option Nat)):TE:=λσ H Q=>wi σ H λJ H1=>∀D,H1 D=none→VJ g tt fV g1 cX te D J Q (lV src σ) (upd H1 D (.lst []))
theorem KZ(hc:X.calm=true)(c:bE X scope)(fC:dg scope X.N src NC)(hi:PI X t0 i0 wi)
  (hg:∀ex s H,PG (dG X scope NC ex s H) t0 g) (ht:∀ex s H,nK (dG X scope NC ex s H) f0 tt) (zA:∀ex s H,PI (dG X scope NC ex s H) t1 i1 fV) (N8:∀ex s H,PG (dG X scope NC ex s H) t1 g1)
  (Ox:∀ex s H,nK (dG X scope NC ex s H) f1 cX) (he:∀ex s H,PE (dG X scope NC ex s H) elt te)
  (hs:∀x,foldedSetIterable i0 X.env x=pure x:=by intro _;rfl) (EW:∀env x,foldedSetIterable i1 env x=pure x:=by intro _ _;rfl):
  PE X (.ListComp elt [⟨t0,i0,f0,0⟩,⟨t1,i1,f1,0⟩] scope pos) (MS wi g tt fV g1 cX te src):=by
 intro pins s σ H Q I h;rw [eval_ListComp];refine wpAny_comprehension_free (use:=none) rfl hs (f9 (c.cells I.ok)) c.kind c.names (thn (hi pins s σ H _ I h) λv s1 h1=>thn h1 λsA s2 h2=>?_);obtain ⟨it,fp,tn,J,H2,rfl,I2,T,kg,f2,hW⟩:=h2;obtain ⟨W,⟨m0,w0⟩,turn⟩:=hW s2.heap.objs.size I2.fresh;have I3:Inv X pins σ (upd H2 s2.heap.objs.size (.lst [])) {s2 with heap:=s2.heap.push {cls:= .type "list",data:= .seq ([]:List Value).toArray}}:=I2.HK (its:= []) (t':=s2.toks) .nil (cW _)
 have OO:∀b∈fp,b<s2.heap.objs.size:=λb hb=>by
  obtain ⟨o,e,_⟩:=T.obj _ _ kg b hb;exact Heap.lt_size e
 have f3:∀b∈fp,fz X pins (upd H2 s2.heap.objs.size (.lst [])) b:=λb hb=>⟨by rw [ab (bI (OO b hb))];exact (f2 b hb).1,(f2 b hb).2⟩
 refine wpAny_newObj_type ?_
 suffices key:∀s3:Shared,Inv X pins σ (upd H2 s2.heap.objs.size (.lst [])) s3→(∀b o,s2.heap.get? b=some o→s3.heap.get? b=some o)→
   wpAny (model X.prog X.w) X.A (newFunctionEnv scope X.env.globals (iC X.env scope.names []) [] X.env.qual none .none (some X.env)) (λrh Aw=>
    codeAny (model X.prog X.w) X.A (.compStart (.ListComp elt [⟨t0,i0,f0,0⟩,⟨t1,i1,f1,0⟩] scope pos) 0 (.ref it) (.ref s2.heap.objs.size) {rh with scope:=relabel scope X.env}) (compPost (model X.prog X.w) X.A X.xe none (EP X pins σ Q) (.ref s2.heap.objs.size) rh.locals) Aw) X.xe s3 from
  key _ I3 λb o e=>Heap.get?_push_of_some _ e
 intro s3 I3 Pu;have sL:tn 0 s3.heap:=T.keep _ _ _ kg λb _ o e=>Pu b o e
 have BV:∀b∈fp,b<s3.heap.objs.size:=λb hb=>by
  obtain ⟨o,e,_⟩:=T.obj _ _ sL b hb;exact Heap.lt_size e
 generalize RD:upd H2 s2.heap.objs.size (.lst [])=H3 at I3 f3 w0;refine wpAny_newFunctionEnv c.nocell (by intro y hy;simp at hy) (λh1 xY yc=>?_) c.kind
 have I4:=vZ (src:=src) (NC:=NC) (ex:=fp) (tk:=s3.toks+([]:List (Str×Value)).length) I3 c fC f3 BV xY yc;have Jg:tn 0 h1:=T.keep _ _ _ sL λb hb o e=>yc.extBut b o (bI (BV b hb)) (Heap.get?_push_of_some _ e);generalize hX:dG X scope NC fp s3 H3=XC at I4
 have stat:∀{H':Hp},(∀b∈fp,H' b=none)→∀b∈fp,fz XC [] H' b:=λ {H'} hn b hb=>by
  subst hX;refine ⟨hn b hb,bI (BV b hb),λz=>?_, .inl hb,λx d e=>?_,λp hp=>absurd (show p∈([]:List (Addr×Obj)) from hp) (by simp)⟩
  ·exact (I4.ok.exfs b hb) z
  ·exact (I4.ok.exf b hb).2 x d e
 have EM:XC.calm=true:=by subst hX;exact hc
 have eP:XC.prog=X.prog:=by subst hX;rfl
 have ew:XC.w=X.w:=by subst hX;rfl
 have eK:XC.K=X.K:=by subst hX;rfl
 have eA:XC.A=X.A:=by subst hX;rfl
 have Kd:XC.xe=λ_ _=>False:=by subst hX;rfl
 have N9:PG XC t0 g:=by subst hX;exact hg _ _ _
 have Oy:nK XC f0 tt:=by subst hX;exact ht _ _ _
 have Yf:PI XC t1 i1 fV:=by subst hX;exact zA _ _ _
 have RY:PG XC t1 g1:=by subst hX;exact N8 _ _ _
 have SE:nK XC f1 cX:=by subst hX;exact Ox _ _ _
 have N5:PE XC elt te:=by subst hX;exact he _ _ _
 have iV:∀{α:Type}{t:Sem α}{Q:α→Shared→Prop}{E:Value→Shared→Prop}{s:Shared},wpAny (model XC.prog XC.w) XC.A t Q XC.xe s→wpAny (model X.prog X.w) X.A t Q E s:=λ {α t Q E s} h=>by
  rw [←eP,←ew,←eA];exact wpAny_mono h (λ_ _ q=>q) λ_ _ f=>by rw [Kd] at f;exact f.elim
 have loop:codeAny (model X.prog X.w) X.A (.compLoop (.ListComp elt [⟨t0,i0,f0,0⟩,⟨t1,i1,f1,0⟩] scope pos) 0 (.ref it) (.ref s2.heap.objs.size) XC.env) (compPost (model X.prog X.w) X.A X.xe none (EP X pins σ Q) (.ref s2.heap.objs.size) s3.heap.objs.size)
   {s3 with heap:=h1,toks:=s3.toks+([]:List (Str×Value)).length}:=by
  refine codeAny_loop rfl (λn s'=>∃i ay H',Inv XC [] ay H' s'∧tn i s'.heap∧(∀b∈fp,H' b=none)∧W i n ay H') (λn s' hI=>?_) m0 ⟨0,_,_,I4,Jg,λb hb=>(f3 b hb).1,w0⟩;obtain ⟨i,ay,H',I5,sM,nV,w5⟩:=hI;show wpAny _ X.A ((compTurn (.ListComp elt [⟨t0,i0,f0,0⟩,⟨t1,i1,f1,0⟩] scope pos) 0 (.ref it) (.ref s2.heap.objs.size) XC.env).onRaise (λx=>do noteFrame x XC.env;theTreesLotGoes x)) _ _ s'
  refine wpAny_noted ?_;rw [tN];refine wpAny_bind (wpAny_standAt (wpAny_bind ?_))
  rcases turn i n ay H' w5 with ⟨stop,qn⟩ | ⟨go,N,hN,step⟩
  ·have hd:=T.done XC eP ew eK EM i [] s' ay H' (notedBy (model X.prog X.w) X.A XC.env λe s'=>compPost (model X.prog X.w) X.A X.xe none (EP X pins σ Q) (.ref s2.heap.objs.size) s3.heap.objs.size (.error e) s') I5 (stat nV) sM stop
   rw [eA] at hd;refine thn hd λr s6 ⟨hr,I6⟩=>?_;subst hr;refine wpAny_pure ?_;subst hX;obtain ⟨m,hn,_⟩:=I6.loc;exact ⟨m,hn,λh' sb=>⟨.ref s2.heap.objs.size,H',comp_back I3 f3 I6 sb,rfl,qn⟩⟩
  ·have hd:=T.item XC eP ew eK EM i [] s' ay H' (notedBy (model X.prog X.w) X.A XC.env λe s'=>compPost (model X.prog X.w) X.A X.xe none (EP X pins σ Q) (.ref s2.heap.objs.size) s3.heap.objs.size (.error e) s') I5 (stat nV) sM go
   rw [eA] at hd;refine thn hd λr s6 ⟨u,hr,h6⟩=>?_;subst hr;refine wpAny_bind (thn h6 λ_ s7 ⟨x,H7,I7,r7,y7,uR,GO⟩=>?_);have FJ:=I7.pinned (stat GO) (T.obj _ _ uR)
   have nextT:∀{fJ:St}{H8:Hp}{s8:Shared},Inv XC ([]++j7 fp s7.heap) fJ H8 s8→N fJ H8→∃m,m<n∧∃i ay H',Inv XC [] ay H' s8∧tn i s8.heap∧(∀b∈fp,H' b=none)∧W i m ay H':=λ {fJ H8 s8} I8 n8=>by
    obtain ⟨m',hm,w8⟩:=hN fJ H8 n8;refine ⟨m',hm,i+1,fJ,H8,I8.iy,T.keep _ _ _ uR λb hb o e=>(I8.pin (b,o) (dX _ (dX _ (dz hb e)))).1,λb hb=>?_,w8⟩;obtain ⟨o,e,d⟩:=T.obj _ _ uR b hb;exact (I8.pin (b,o) (dX _ (dX _ (dz hb e)))).2.1
   refine wpAny_bind (iV (thn (N9 _ s7 ay H7 x u _ FJ r7 (step x H7 y7)) λ_ s8 ⟨fJ,H8,I8,q8⟩=>?_));refine wpAny_bind (iV (thn (Oy _ s8 fJ H8 _ I8 q8) λb s9 ⟨H9,I9,q9⟩=>?_));cases b with
   |false=>
    rw [if_neg cB] at q9;exact wpAny_pure ⟨by subst hX;rfl,nextT I9 q9⟩
   |true=>
    rw [if_pos rfl] at q9;refine wpAny_bind (iV (thn (Yf _ s9 fJ H9 _ I9 q9) λv1 yI XA=>?_));refine wpAny_bind (wpAny_standAt (wpAny_bind (wpAny_of_eq (EW _ v1) (wpAny_bind (wpAny_holding (iV (thn XA λsA Cs XB=>?_)))))));obtain ⟨Hx,fp1,tn1,J1,Ed,rfl,FI,T1,Vw,Xm,Yg⟩:=XB;refine wpAny_bind (wpAny_runOwn ?_);have tr:∀(cd:Code)(R:Result→Shared→Prop),codeAny (model XC.prog XC.w) XC.A cd R Cs→codeAny (model X.prog X.w) X.A cd R Cs:=λcd R h=>by rw [eP,ew,eA] at h;exact h
    exact tr _ _ (zg Kd EM FI T1 Vw Xm RY SE N5 Yg λay H' s' V1 n12=>wpAny_pure ⟨by subst hX;rfl,nextT V1 n12⟩)
 subst hX;exact codeAny_compStart_list loop (T.self _ 0 _ _ _ Jg loop)
end
end L2
namespace KS
open PySem PySem.W PyProof.Rows
section
variable {prog:Program} {w:World} {A:Around} {E:Value→Shared→Prop} {s:Shared}
theorem Aq{a:Addr}{vs:List Value}{n:Nat}{G:PySem.Fin→Shared→Prop}(ho:s.heap.get? a=some (seqObj "list" vs.toArray n))(h2:vs.length<2)
  (h:G (.done (.ret .none)) {s with heap:=sortedHeap s.heap a vs vs.toArray}):wpAny (model prog w) A (Builtin.«list.sort» ⟨[.ref a],[]⟩) G E s:=by
 rw [list_sort_plain];have la:a<s.heap.objs.size:=Heap.lt_size ho;refine wpAny_bind (listItems_at ho rfl (wpAny_bind (listUpdate_at ho rfl ?_)));obtain ⟨e1,vH⟩:∃k,(s.heap.update a (Obj.mapSeq λ_=> #[])).get? a=some (seqObj "list" #[] k):=⟨_,get?_update_seq ho (λ_=> #[])⟩;refine wpAny_bind (seqEpoch_at vH rfl (wpAny_bind (wpAny_newTuple (wpAny_bind (wpAny_newList (wpAny_holding ?_))))));have Hl:(((s.heap.update a (Obj.mapSeq λ_=> #[])).push (seqObj "tuple" vs.toArray 0)).push (seqObj "list" #[] 0)).get? a=some (seqObj "list" #[] e1):=Heap.get?_push_of_some _ (Heap.get?_push_of_some _ vH);show wpAny (model prog w) A _ G E {s with heap:=((s.heap.update a (Obj.mapSeq λ_=> #[])).push (seqObj "tuple" vs.toArray 0)).push (seqObj "list" #[] 0)}
 dsimp only;have lz:vs.toArray.size<2:=by simpa using h2
 rw [if_pos lz,if_pos lz];refine wpAny_bind (wpAny_pure ?_);rw [StateT.run_pure];refine wpAny_bind (wpAny_pure ?_);dsimp only
 have ez:(arrOf (SortSt.mk' general' (vs.toArray.zip vs.toArray) #[] 7 none)).map (·.2)=vs.toArray:=by
  show (vs.toArray.zip vs.toArray).map (·.2)=vs.toArray;apply Array.toList_inj.mp;simp [List.map_snd_zip]
 refine wpAny_bind (seqEpoch_at Hl rfl (wpAny_bind (listUpdate_at Hl rfl ?_ (hsz2:=by rw [ez];rw [sizeLine_eq];omega))))
 simp only [bne_self_eq_false,eH,if_false];have h':=h;unfold sortedHeap at h';rw [ez];exact wpAny_pure h'
theorem nA{l:Addr}{vs:List Value}{G:Value→Shared→Prop}(hl:s.heap.IsList l vs.toArray)(h2:vs.length<2)(h:G (.ref (s.heap.objs.size+1)) {s with heap:=sortedAll s.heap vs vs.toArray}):
  wpAny (model prog w) A (call (.builtin "sorted") [.ref l]) G E s:=by
 refine Calls.call_function_entry kind_sorted plain_sorted entry_sorted (args_sorted1 (.ref l)) ?_;unfold Builtin.«sorted»;have l2:vs.length≤sizeLine:=by rw [sizeLine_eq];omega
 refine wpAny_bind (m:=checkCount "sorted" 1 1 _) (wpAny_pure (wpAny_bind (collect_list hl (wpAny_bind (wpAny_newList ?_ l2)) l2)));have z1:((s.heap.push (seqObj "list" #[] 0)).update s.heap.objs.size (Obj.mapSeq (·++vs.toArray))).objs.size=s.heap.objs.size+1:=by rw [Heap.size_update,size_push']
 have z2:(((s.heap.push (seqObj "list" #[] 0)).update s.heap.objs.size (Obj.mapSeq (·++vs.toArray))).push (seqObj "list" vs.toArray 0)).get? (s.heap.objs.size+1)=some (seqObj "list" vs.toArray 0):=by
  rw [←z1];exact Heap.get?_push_size _ rfl
 show wpAny (model prog w) _ _ _ E {s with heap:=((s.heap.push (seqObj "list" #[] 0)).update s.heap.objs.size (Obj.mapSeq (·++vs.toArray))).push (seqObj "list" vs.toArray 0)}
 rw [z1];exact wpAny_bind (wpAny_holding (wpAny_call_entry slot_list_sort ⟨_,z2,rfl⟩ entry_list_sort (Aq z2 h2 ⟨_,rfl,wpAny_pure ⟨_,rfl,h⟩⟩) (args_list_sort _)))
end
end KS
namespace L2
open PySem PySem.Spec PyProof.Rows
section
variable {X:Cx} {pins:List (Addr×Obj)} {σ:St} {H:Hp} {s:Shared} {h':Heap}
end
def fS(k:Nat×Nat):List V:= [.int (k.1:Nat), .int (k.2:Nat)]
def nM(H:Hp)(L:List (Addr×(Nat×Nat))):Prop:=∀p∈L,H p.1=some (.tup (fS p.2))
def iH(a b:Nat×Nat):Bool:=if a.1=b.1 then decide (a.2<b.2) else decide (a.1<b.1)
theorem qI(x y:Nat×Nat):iH x y=true↔x.1<y.1∨(x.1=y.1∧x.2<y.2):=by
 unfold iH
 by_cases e:x.1=y.1
 ·rw [if_pos e,decide_eq_true_iff]
  omega
 ·rw [if_neg e,decide_eq_true_iff]
  omega
theorem E2(x y z:Nat×Nat)(h:iH x z=true):iH x y=true∨iH y z=true:=by
 rw [qI] at*;rw [qI];omega
theorem HF(x y z:Nat×Nat)(h:iH x y=true)(h':iH y z=true):iH x z=true:=by
 rw [qI] at*;omega
theorem uj{a b:Nat×Nat}(h:iH b a=false):Wb.lexLe a b:=by
 unfold iH at h;unfold Wb.lexLe
 by_cases e:b.1=a.1
 ·rw [if_pos e] at h
  have:=of_decide_eq_false h
  right;omega
 ·rw [if_neg e] at h
  have:=of_decide_eq_false h
  left;omega
theorem Kl{prog:Program}{w:World}{A:Around}{E:Value→Shared→Prop}{s:Shared}{x y:Addr}{a1 a2 b1 b2:Int}{t1 t2 u1 u2:Tok}{C:Bool→Shared→Prop}
  (hx:IsTup s.heap x [.int a1 t1, .int a2 t2].toArray) (hy:IsTup s.heap y [.int b1 u1, .int b2 u2].toArray)
  (h:C (if a1=b1 then decide (a2<b2) else decide (a1<b1)) s):wpAny (model prog w) A (keyLt' (tuples' true) (.ref x) (.ref y)) C E s:=by
 obtain ⟨ox,Yw,_,nx,dx⟩:=hx;obtain ⟨oy,Yx,_,ny,dy⟩:=hy;refine PySem.W.kat_lt Yw dx Yx dy ?_;refine PySem.W.kat_cons (SeqAt.EqAt.int_int a1 t1 b1 u1 prog w _ _ ?_)
 by_cases e1:a1=b1
 ·rw [if_pos e1] at h
  rw [show (a1==b1)=true by simpa using e1]
  refine PySem.W.kat_yes (PySem.W.kat_cons (SeqAt.EqAt.int_int a2 t2 b2 u2 prog w _ _ ?_))
  by_cases e2:a2=b2
  ·rw [show (a2==b2)=true by simpa using e2]
   refine PySem.W.kat_yes (PySem.W.kat_nil ?_);rw [show decide (a2<b2)=false by simp;omega] at h
   simpa using h
  ·rw [show (a2==b2)=false by simpa using e2]
   refine PySem.W.kat_no (PySem.W.kat_one _ _ ?_);exact lt_int h
 ·rw [if_neg e1] at h
  rw [show (a1==b1)=false by simpa using e1]
  exact PySem.W.kat_no (oneLt_int h)
section
variable {X:Cx}
theorem oN:∀{as:List Addr}{us:List Value},Vals (as.map V.ref) us→us=as.map Value.ref
 | [],_, .nil=>rfl
 |a::as,_, .cons r t=>by cases r;rw [oN t];rfl
theorem oH:∀as:List Addr,Vals (as.map V.ref) (as.map Value.ref)
 | []=> .nil
 |a::as=> .cons rfl (oH as)
theorem Fh{pins:List (Addr×Obj)}{σ:St}{H:Hp}{s:Shared}{a:Addr}{k:Nat×Nat}(I:Inv X pins σ H s)(h:H a=some (.tup (fS k))):
  ∃t u,IsTup s.heap a [.int (k.1:Nat) t, .int (k.2:Nat) u].toArray:=by
 obtain ⟨its,r,p,_⟩:=I.tuple (cZ.of h);obtain ⟨u1,u2,rfl,⟨t,rfl⟩,⟨u,rfl⟩⟩:=Vals.two r;exact ⟨t,u,p⟩
end
end L2
set_option maxHeartbeats 4000000
namespace L2
open PySem
theorem bE.of{X:Cx}{scope:Scope}(sc:Scope)(e:X.env.scope=sc)(k:scope.kind= .function)(a:∀x∈scope.names,x.2= .local→scope.names.lookup x.1=some .local)(b:∀x∈scope.names,x.2≠ .cell)
  (c:∀x∈scope.names,x.2= .free→sc.names.lookup x.1=some .cell∨sc.names.lookup x.1=some .free):bE X scope:=⟨k,a,b,λx hx hf=>by rw [←e] at c;exact c x hx hf⟩
theorem wx{K:PySem.W.Frag}{a:Addr}{xs:List V}{g:TG}{tb:TS}{D:Ends}{σ:St}{H:Hp}(Pv:Nat→St→Hp→Prop)(h0:Pv 0 σ H)(hl:∀i σ H,i≤xs.length→Pv i σ H→aD K H a xs)
  (hs:∀(i:Nat) x t σ H,xs[i]? =some x→H t=none→Pv i σ H→g (.ref t) σ (upd H t (.tup [.int (i:Int),x])) λcn H2=>tb {D with nx:=Pv (i+1),ct:=Pv (i+1),bk:=D.nx} cn H2) (hd:∀σ H,Pv xs.length σ H→D.nx σ H):
  ∃W:Nat→Nat→St→Hp→Prop,(∃m,W 0 m σ H)∧∀i m σ H,W i m σ H→
   ((Ee K a).stop i H∧D.nx σ H)∨((Ee K a).go i H∧∃N:St→Hp→Prop,(∀ay H',N ay H'→∃m',m'<m∧W (i+1) m' ay H')∧∀x H',(Ee K a).yld i H x H'→g x σ H' λcn H2=>tb {D with nx:=N,ct:=N,bk:=D.nx} cn H2):=by
 refine ⟨λi m σ H=>m=xs.length-i∧i≤xs.length∧Pv i σ H,⟨xs.length,by simp,cW _,h0⟩,?_⟩
 rintro i m σ H ⟨rfl,hi,p⟩;have q:=hl i σ H hi p
 by_cases bq:i<xs.length
 ·refine .inr ⟨⟨xs,xs[i],q,by simp [bq]⟩,Pv (i+1),λay H' p'=>⟨xs.length-(i+1),by omega,rfl,bq,p'⟩,λx H' y=>?_⟩
  obtain ⟨t,v,rfl,ht,rfl,hv⟩:=y;exact hs i v t σ H (hv xs q) ht p
 ·have e:i=xs.length:=by omega
  subst e;exact .inl ⟨⟨xs,q,aT _⟩,hd σ H p⟩
theorem wH{X:Cx}{K:PySem.W.Frag}(e:X.K=K:=by rfl):xy X (DM K):=by rw [←e];exact bg
theorem zR{X:Cx}{K:PySem.W.Frag}(e:X.K=K:=by rfl):xy X (MP K):=by rw [←e];exact Dx
theorem B9{X:Cx}{K:PySem.W.Frag}(e:X.K=K:=by rfl):OpR X (compareOp .NotIn) (Lb K true):=by rw [←e];exact ni
structure bM (K:PySem.W.Frag) (mg:Str→Option Value) (x:Str) (st:Stmt) (ps:List Str) where
 f:Addr
 fd:FuncData
 F:vx K x x st f fd
 b:Binds K fd ps []
 m:mg x=some (.ref f)
theorem av{H:Hp}{p:Addr}(h:H p=none)(o:HO):az H (upd H p o):=λb u q=>by rw [ab (ah q h)];exact q
theorem small{n:Nat}(h:n≤1000):n≤sizeLine:=Nat.le_of_lt (ba h)
end L2
namespace TS
open PySem PyProof.Rows
def dH:Bool→Keyed→Array Keyed→Nat→Nat→Nat→StateT SortSt Sem (Option Nat):=sortPriv%PySem.Builtin.gallop
def mK:Array Keyed→Array Keyed→StateT SortSt Sem (Array Keyed):=sortPriv%PySem.Builtin.mergeLo
def mJ:Array Keyed→Array Keyed→StateT SortSt Sem (Array Keyed):=sortPriv%PySem.Builtin.mergeHi
def setMinGallop':Nat→StateT SortSt Sem Unit:=sortPriv%PySem.Builtin.setMinGallop
def iB(left:Bool)(key:Keyed)(arr:Array Keyed)(base i:Nat):StateT SortSt Sem (Option Bool):=do
 let x ←elem' arr (base+i)
 if left then lt' x key else return (←lt' key x).map (!·)
theorem zx(left:Bool)(key:Keyed)(arr:Array Keyed)(base n hint:Nat):dH left key arr base n hint=(do
 let mut lastofs:=0
 let mut ofs:=1
 let mut lo:=0
 let mut hi:=0
 let some right ←iB left key arr base hint|return none
 if right then
  let pM:=n-hint
  for _ in [0:n] do
   if ofs≥pM then break
   let some more ←iB left key arr base (hint+ofs) |return none
   if !more then break
   lastofs:=ofs
   ofs:=2*ofs+1
  lo:=hint+lastofs+1
  hi:=hint+min ofs pM
 else
  let pM:=hint+1
  for _ in [0:n] do
   if ofs≥pM then break
   let some found ←iB left key arr base (hint-ofs) |return none
   if found then break
   lastofs:=ofs
   ofs:=2*ofs+1
  lo:=hint+1-min ofs pM
  hi:=hint-lastofs
 for _ in [0:n] do
  if lo≥hi then break
  let m:=lo+(hi-lo) / 2
  let some more ←iB left key arr base m|return none
  if more then lo:=m+1 else hi:=m
 return some hi):=rfl
def fG(O:KeyOrd)(key:Keyed→O.α)(S:Keyed→Prop)(k0:SortKind)(M:Model)(A:Around)(E:Value→Shared→Prop)(s:Shared):Prop:=
 ∀(x y:Keyed)(st:SortSt)(Q:Option Bool→SortSt→Prop),S x→S y→kindOf st=k0→Q (some (O.blt (key x) (key y))) st→wpS M A E s (lt' x y) Q st
section
variable {O:KeyOrd} {key:Keyed→O.α} {S:Keyed→Prop} {k0:SortKind} {M:Model} {A:Around} {E:Value→Shared→Prop} {s:Shared} {st:SortSt}
def cQ(O:KeyOrd)(key:Keyed→O.α)(left:Bool)(k x:Keyed):Bool:=if left then O.blt (key x) (key k) else !O.blt (key k) (key x)
theorem aQ{arr:Array Keyed}{i:Nat}{x:Keyed}{Q:Keyed→SortSt→Prop}(h:arr[i]? =some x)(q:Q x st):wpS M A E s (elem' arr i) Q st:=by
 rw [elem'_eq,h];exact wpS_pure q
theorem jd(C:fG O key S k0 M A E s){left:Bool}{k x:Keyed}{arr:Array Keyed}{base i:Nat}{Q:Option Bool→SortSt→Prop}(hx:arr[base+i]? =some x)(sk:S k)(sx:S x)(hk:kindOf st=k0)
  (q:Q (some (cQ O key left k x)) st):wpS M A E s (iB left k arr base i) Q st:=by
 unfold iB;refine wpS_bind (aQ hx ?_);unfold cQ at q;cases left with
 |true=>exact C _ _ _ _ sx sk hk q
 |false=>exact wpS_bind (C _ _ _ _ sk sx hk (wpS_pure q))
structure Seg (S:Keyed→Prop) (arr:Array Keyed) (base n:Nat) (g:Nat→Keyed):Prop where
 at_:∀i,i<n→arr[base+i]? =some (g i)
 mem:∀i,i<n→S (g i)
theorem fD(C:fG O key S k0 M A E s){left:Bool}{k:Keyed}{arr:Array Keyed}{base n hint:Nat}{g:Nat→Keyed}{Q:Option Nat→SortSt→Prop}(G:Seg S arr base n g)(sk:S k)(hk:kindOf st=k0)(hh:hint<n)
  (mono:∀i j,i≤j→j<n→cQ O key left k (g j)=true→cQ O key left k (g i)=true)
  (q:∀p,p≤n→(∀i,i<p→cQ O key left k (g i)=true)→(∀i,p≤i→i<n→cQ O key left k (g i)=false)→Q (some p) st):wpS M A E s (dH left k arr base n hint) Q st:=by
 rw [zx];refine wpS_bind (jd C (G.at_ _ hh) sk (G.mem _ hh) hk ?_)
 have B0:∀i j,i≤j→j<n→cQ O key left k (g i)=false→cQ O key left k (g j)=false:=λi j cR hj h=>by
  cases e:cQ O key left k (g j) with
  |false=>rfl
  |true=>rw [mono i j cR hj e] at h;cases h
 have fin:∀lo hi,lo≤hi→hi≤n→(∀i,i<lo→cQ O key left k (g i)=true)→(∀i,hi≤i→i<n→cQ O key left k (g i)=false)→
   wpS M A E s (do
    let mut lo:=lo
    let mut hi:=hi
    for _ in [0:n] do
     if lo≥hi then break
     let m:=lo+(hi-lo) / 2
     let some more ←iB left k arr base m|return none
     if more then lo:=m+1 else hi:=m
    return some hi) Q st:=by
  intro lo hi hle hn h1 h2;dsimp only
  refine wpS_bind (wpS_mono (wpS_forRange (I:=λx c ag=>ag=st∧∃lo hi,c=(none,lo,hi)∧lo≤hi∧hi≤n∧hi-lo≤n-x∧(∀i,i<lo→cQ O key left k (g i)=true)∧(∀i,hi≤i→i<n→cQ O key left k (g i)=false))
   (Q:=λc ag=>ag=st∧∃hi,c=(none,hi,hi)∧hi≤n∧(∀i,i<hi→cQ O key left k (g i)=true)∧(∀i,hi≤i→i<n→cQ O key left k (g i)=false)) ?step ?fin ⟨rfl,lo,hi,rfl,hle,hn,by omega,h1,h2⟩) ?post)
  case fin=>
   rintro c ag ⟨rfl,lo,hi,rfl,a1,a2,a3,a4,a5⟩
   have:lo=hi:=by omega
   subst this;exact ⟨rfl,lo,rfl,a2,a4,a5⟩
  case step=>
   rintro x c ag _ hx ⟨rfl,lo,hi,rfl,a1,a2,a3,a4,a5⟩;dsimp only
   by_cases lg:lo≥hi
   ·rw [if_pos lg]
    have:lo=hi:=by omega
    subst this;exact wpS_pure ⟨rfl,lo,rfl,a2,a4,a5⟩
   ·rw [if_neg lg]
    have hm:lo+(hi-lo) / 2<n:=by omega
    refine wpS_bind (jd C (G.at_ _ hm) sk (G.mem _ hm) hk ?_);cases e:cQ O key left k (g (lo+(hi-lo) / 2)) with
    |true=>
     dsimp only;rw [if_pos rfl];exact wpS_pure ⟨rfl,_,_,rfl,by omega,a2,by omega,λi hi=>mono _ _ (by omega) hm e,a5⟩
    |false=>
     dsimp only;rw [if_neg (by decide)]
     exact wpS_pure ⟨rfl,_,_,rfl,by omega,by omega,by omega,a4,λi h1 h2=>B0 _ _ h1 h2 e⟩
  case post=>
   rintro c ag ⟨rfl,hi,rfl,b1,b2,b3⟩;exact wpS_pure (q _ b1 b2 b3)
 dsimp only;cases e0:cQ O key left k (g hint) with
 |true=>
  rw [if_pos rfl]
  refine wpS_bind (wpS_mono (wpS_forRange (I:=λx c ag=>ag=st∧∃la o,c=(none,la,o)∧la<o∧x<o∧hint+la<n∧cQ O key left k (g (hint+la))=true)
   (Q:=λc ag=>ag=st∧∃la o,c=(none,la,o)∧la<o∧hint+la<n∧cQ O key left k (g (hint+la))=true∧(n-hint≤o∨(hint+o<n∧cQ O key left k (g (hint+o))=false))) ?step ?fin2 ⟨rfl,0,1,rfl,by omega,by omega,by omega,e0⟩) ?post)
  case fin2=>
   rintro c ag ⟨rfl,la,o,rfl,a1,a2,a3,a4⟩;exact ⟨rfl,la,o,rfl,a1,a3,a4, .inl (by omega)⟩
  case step=>
   rintro x c ag _ hx ⟨rfl,la,o,rfl,a1,a2,a3,a4⟩;dsimp only
   by_cases lg:o≥n-hint
   ·rw [if_pos lg]
    exact wpS_pure ⟨rfl,la,o,rfl,a1,a3,a4, .inl lg⟩
   ·rw [if_neg lg]
    have hm:hint+o<n:=by omega
    refine wpS_bind (jd C (G.at_ _ hm) sk (G.mem _ hm) hk ?_);cases e:cQ O key left k (g (hint+o)) with
    |true=>
     dsimp only;rw [if_neg (by decide)]
     exact wpS_pure ⟨rfl,_,_,rfl,by omega,by omega,hm,e⟩
    |false=>
     dsimp only;rw [if_pos (by decide)]
     exact wpS_pure ⟨rfl,la,o,rfl,a1,a3,a4, .inr ⟨hm,e⟩⟩
  case post=>
   rintro c ag ⟨rfl,la,o,rfl,b1,b2,b3,b4⟩;refine fin (hint+la+1) (hint+min o (n-hint)) (by omega) (by omega) (λi hi=>mono _ _ (by omega) b2 b3) (λi h1 h2=>?_)
   rcases b4 with b4| ⟨b4,b5⟩
   ·omega
   ·exact B0 _ _ (by omega) h2 b5
 |false=>
  rw [if_neg (by decide)]
  refine wpS_bind (wpS_mono (wpS_forRange (I:=λx c ag=>ag=st∧∃la o,c=(none,la,o)∧la<o∧x<o∧la≤hint∧cQ O key left k (g (hint-la))=false)
   (Q:=λc ag=>ag=st∧∃la o,c=(none,la,o)∧la<o∧la≤hint∧cQ O key left k (g (hint-la))=false∧(hint+1≤o∨(o≤hint∧cQ O key left k (g (hint-o))=true))) ?step ?fin2 ⟨rfl,0,1,rfl,by omega,by omega,by omega,e0⟩) ?post)
  case fin2=>
   rintro c ag ⟨rfl,la,o,rfl,a1,a2,a3,a4⟩;exact ⟨rfl,la,o,rfl,a1,a3,a4, .inl (by omega)⟩
  case step=>
   rintro x c ag _ hx ⟨rfl,la,o,rfl,a1,a2,a3,a4⟩;dsimp only
   by_cases lg:o≥hint+1
   ·rw [if_pos lg]
    exact wpS_pure ⟨rfl,la,o,rfl,a1,a3,a4, .inl lg⟩
   ·rw [if_neg lg]
    have hm:hint-o<n:=by omega
    refine wpS_bind (jd C (G.at_ _ hm) sk (G.mem _ hm) hk ?_);cases e:cQ O key left k (g (hint-o)) with
    |true=>
     dsimp only;rw [if_pos rfl];exact wpS_pure ⟨rfl,la,o,rfl,a1,a3,a4, .inr ⟨by omega,e⟩⟩
    |false=>
     dsimp only;rw [if_neg (by decide)]
     exact wpS_pure ⟨rfl,_,_,rfl,by omega,by omega,by omega,e⟩
  case post=>
   rintro c ag ⟨rfl,la,o,rfl,b1,b2,b3,b4⟩;refine fin (hint+1-min o (hint+1)) (hint-la) (by omega) (by omega) (λi hi=>?_) (λi h1 h2=>B0 _ _ h1 h2 b3)
   rcases b4 with b4| ⟨b4,b5⟩
   ·omega
   ·exact mono _ _ (by omega) (by omega) b5
end
section
variable {O:KeyOrd} {key:Keyed→O.α} {S:Keyed→Prop} {k0:SortKind} {M:Model} {A:Around} {E:Value→Shared→Prop} {s:Shared} {st br:SortSt}
def ky(O:KeyOrd)(key:Keyed→O.α)(xs:Array Keyed)(i:Nat):O.α:=key (xs[i]?.getD (.none, .none))
theorem gk{xs ys:Array Keyed}{i j:Nat}(h:xs[i]? =ys[j]?):ky O key xs i=ky O key ys j:=by unfold ky;rw [h]
def hV(O:KeyOrd)(key:Keyed→O.α)(xs:Array Keyed)(a b:Nat):Prop:=∀i j,a≤i→i≤j→j<b→O.kle (ky O key xs i) (ky O key xs j)
def Ec(O:KeyOrd)(key:Keyed→O.α)(xs:Array Keyed)(a b:Nat):Prop:=∀i j,a≤i→i≤j→j<b→O.kle (ky O key xs j) (ky O key xs i)
structure fH (br st:SortSt) (lo hi:Nat):Prop where
 perm:(arrOf st).Perm (arrOf br)
 kind:kindOf st=kindOf br
 failed:failedOf st=failedOf br
 pend:pendingOf st=pendingOf br
 out:∀i,i<lo∨hi≤i→(arrOf st)[i]? =(arrOf br)[i]?
theorem fH.refl(st:SortSt)(lo hi:Nat):fH st st lo hi:=⟨.refl _,rfl,rfl,rfl,λ_ _=>rfl⟩
theorem fH.trans{yO kg:SortSt}{lo hi:Nat}(a:fH br yO lo hi)(b:fH yO kg lo hi):fH br kg lo hi:=
 ⟨b.perm.trans a.perm,b.kind.trans a.kind,b.failed.trans a.failed,b.pend.trans a.pend,λi h=>(b.out i h).trans (a.out i h)⟩
theorem fH.size{lo hi:Nat}(a:fH br st lo hi):(arrOf st).size=(arrOf br).size:=a.perm.size_eq
theorem fH.mirror{lo hi i j:Nat}(eC:lo≤i)(hj:j≤hi)(hs:j≤(arrOf st).size):fH st (setArr st (mirror (arrOf st) i j ((j-i) / 2))) lo hi:=
 ⟨mirror_perm _ _ _ _,rfl,rfl,rfl,λk h=>by
  show (PyProof.Rows.mirror (arrOf st) i j ((j-i) / 2))[k]? =_;rw [getElem?_mirror_all hs,if_neg (by omega)]⟩
theorem fH.bubble{lo hi src d:Nat}(hd:d≤src)(h1:lo≤src-d)(h2:src<hi)(hs:src<(arrOf st).size):fH st (setArr st (bubble (arrOf st) src d)) lo hi:=
 ⟨bubble_perm _ _ _,rfl,rfl,rfl,λk h=>by
  show (PyProof.Rows.bubble (arrOf st) src d)[k]? =_;rw [getElem?_bubble hs d hd,if_neg (by omega),if_neg (by omega)]⟩
theorem og{xs:Array Keyed}{i j:Nat}(hj:j≤xs.size)(k:Nat):ky O key (mirror xs i j ((j-i) / 2)) k=if i≤k∧k<j then ky O key xs (i+j-1-k) else ky O key xs k:=by
 have e:=getElem?_mirror_all (i:=i) hj k
 by_cases h1:i≤k∧k<j
 ·rw [if_pos h1] at e ⊢;exact gk e
 ·rw [if_neg h1] at e ⊢;exact gk e
theorem fb{xs:Array Keyed}{i j:Nat}(hj:j≤xs.size)(heq:∀k,i≤k→k<j→ky O key xs k=ky O key xs (j-1))(k:Nat):ky O key (mirror xs i j ((j-i) / 2)) k=ky O key xs k:=by
 rw [og hj]
 split
 ·rw [heq _ (by omega) (by omega),heq k (by omega) (by omega)]
 ·rfl
theorem uf{xs:Array Keyed}{src d:Nat}(hs:src<xs.size)(hd:d≤src)(k:Nat):
  ky O key (bubble xs src d) k=if k=src-d then ky O key xs src else if src-d<k∧k≤src then ky O key xs (k-1) else ky O key xs k:=by
 have e:=getElem?_bubble hs d hd k
 by_cases h1:k=src-d
 ·rw [if_pos h1] at e ⊢;exact gk e
 ·rw [if_neg h1] at e ⊢
  by_cases h2:src-d<k∧k≤src
  ·rw [if_pos h2] at e ⊢;exact gk e
  ·rw [if_neg h2] at e ⊢;exact gk e
structure Ok (S:Keyed→Prop) (k0:SortKind) (st:SortSt):Prop where
 mem:∀p,p∈(arrOf st).toList→S p
 kind:kindOf st=k0
theorem Ok.step{lo hi:Nat}(o:Ok S k0 br)(a:fH br st lo hi):Ok S k0 st:=
 ⟨λp hp=>o.mem p ((D8.mp a.perm).mem_iff.mp hp),a.kind.trans o.kind⟩
theorem Ok.at{i:Nat}(o:Ok S k0 st)(hi:i<(arrOf st).size):(arrOf st)[i]? =some ((arrOf st)[i]?.getD (.none, .none))∧S ((arrOf st)[i]?.getD (.none, .none)):=by
 have e:(arrOf st)[i]? =some (arrOf st)[i]:=getElem?_pos _ i hi;rw [e];exact ⟨rfl,o.mem _ (by simp)⟩
theorem mh(C:fG O key S k0 M A E s){i j:Nat}{Q:Option Bool→SortSt→Prop}(o:Ok S k0 st)(hi:i<(arrOf st).size)(hj:j<(arrOf st).size)
  (q:Q (some (O.blt (ky O key (arrOf st) i) (ky O key (arrOf st) j))) st):wpS M A E s (ltAt' i j) Q st:=by
 rw [ltAt'_eq];obtain ⟨e1,s1⟩:=o.at hi;obtain ⟨e2,s2⟩:=o.at hj;refine wpS_bind (wpS_get (wpS_bind (aQ e1 (wpS_bind (aQ e2 (C _ _ _ _ s1 s2 o.kind q))))))
theorem wpS_binarySort(C:fG O key S k0 M A E s){lo n ok:Nat}{Q:Bool→SortSt→Prop}(o:Ok S k0 st)(hn:lo+n≤(arrOf st).size)(hok:ok≤n)(hs:hV O key (arrOf st) lo (lo+ok))
  (h:∀ag,fH st ag lo (lo+n)→hV O key (arrOf ag) lo (lo+n)→Q true ag):wpS M A E s (binarySort' lo n ok) Q st:=by
 rw [binarySort'_eq]
 refine wpS_bind (wpS_mono (wpS_forRange (I:=λk c ag=>c=(none,())∧fH st ag lo (lo+n)∧hV O key (arrOf ag) lo (lo+min k n))
  (Q:=λc ag=>c=(none,())∧fH st ag lo (lo+n)∧hV O key (arrOf ag) lo (lo+n)) ?step ?fin ?init) ?post)
 case post=>
  rintro c ag ⟨rfl,iS,eU⟩;exact wpS_pure (h ag iS eU)
 case init=>
  refine ⟨rfl, .refl _ _ _,λi j hi cR hj=>?_⟩
  by_cases h1:ok=0
  ·have:i=j:=by omega
   subst this;exact KeyOrd.kle_refl _
  ·exact hs i j hi cR (by omega)
 case fin=>
  rintro c ag ⟨hc,iS,eU⟩;refine ⟨hc,iS,?_⟩
  rwa [show min (max (max ok 1) n) n=n by omega] at eU
 case step=>
  rintro k c ag hak hkn ⟨rfl,iS,eU⟩;rw [show min k n=k by omega] at eU
  have o':=o.step iS;have fk:=iS.size;have hk:lo+k<(arrOf ag).size:=by omega
  refine wpS_bind (wpS_mono (wpS_forRange (I:=λx c cc=>cc=ag∧∃l r,c=(none,l,r)∧l≤r∧r≤k∧r-l≤k-x∧
    (∀i,i<l→O.kle (ky O key (arrOf ag) (lo+i)) (ky O key (arrOf ag) (lo+k)))∧(∀i,r≤i→i<k→O.klt (ky O key (arrOf ag) (lo+k)) (ky O key (arrOf ag) (lo+i))))
   (Q:=λc cc=>cc=ag∧∃l r,c=(none,l,r)∧l≤k∧
    (∀i,i<l→O.kle (ky O key (arrOf ag) (lo+i)) (ky O key (arrOf ag) (lo+k)))∧(∀i,l≤i→i<k→O.klt (ky O key (arrOf ag) (lo+k)) (ky O key (arrOf ag) (lo+i)))) ?istep ?ifin ?iinit) ?ipost)
  case iinit=>exact ⟨rfl,0,k,rfl,by omega,by omega,by omega,λi hi=>by omega,λi h1 h2=>by omega⟩
  case ifin=>
   rintro c cc ⟨rfl,l,r,rfl,Yn,Ou,hm,zE,Bx⟩
   have:l=r:=by omega
   subst this;exact ⟨rfl,l,l,rfl,Ou,zE,Bx⟩
  case istep=>
   rintro x c cc _ hxk ⟨rfl,l,r,rfl,Yn,Ou,hm,zE,Bx⟩;dsimp only
   by_cases lg:l≥r
   ·rw [if_pos lg]
    have:l=r:=by omega
    subst this;exact wpS_pure ⟨rfl,l,l,rfl,Ou,zE,Bx⟩
   ·rw [if_neg lg]
    refine wpS_bind (mh C o' hk (by omega) ?_)
    cases lh:O.blt (ky O key (arrOf cc) (lo+k)) (ky O key (arrOf cc) (lo+(l+r) / 2))
    case true=>
     simp only [if_true];refine wpS_pure ⟨rfl,l,(l+r) / 2,rfl,by omega,by omega,by omega,zE,λi h1 h2=>?_⟩
     exact KeyOrd.klt_of_klt_of_kle lh (eU _ _ (by omega) (by omega) (by omega))
    case false=>
     simp only [eH,if_false];refine wpS_pure ⟨rfl,(l+r) / 2+1,r,rfl,by omega,by omega,by omega,λi h1=>?_,Bx⟩
     exact KeyOrd.kle_trans (eU (lo+i) (lo+(l+r) / 2) (by omega) (by omega) (by omega)) (show O.kle _ _ from lh)
  case ipost=>
   rintro c cc ⟨rfl,l,r,rfl,hlk,zE,Bx⟩;show wpS _ _ _ _ (do moveDown' (lo+k) (lo+l);pure (ForInStep.yield (none,()))) _ _
   rw [moveDown'_eq];have ed:lo+k-(lo+l)=k-l:=by omega
   refine wpS_bind (wpS_modify (wpS_pure ⟨rfl,iS.trans (fH.bubble (by omega) (by omega) (by omega) hk),?_⟩))
   rw [show min (k+1) n=k+1 by omega]
   intro i j hi cR hj;show O.kle (ky O key (bubble (arrOf cc) (lo+k) (lo+k-(lo+l))) i) (ky O key (bubble (arrOf cc) (lo+k) (lo+k-(lo+l))) j);rw [uf hk (by omega),uf hk (by omega),show lo+k-(lo+k-(lo+l))=lo+l by omega]
   have Si:∀a,lo≤a→a<lo+l→O.kle (ky O key (arrOf cc) a) (ky O key (arrOf cc) (lo+k)):=λa h1 h2=>by
    have:=zE (a-lo) (by omega);rwa [show lo+(a-lo)=a by omega] at this
   have R0:∀a,lo+l≤a→a<lo+k→O.klt (ky O key (arrOf cc) (lo+k)) (ky O key (arrOf cc) a):=λa h1 h2=>by
    have:=Bx (a-lo) (by omega) (by omega);rwa [show lo+(a-lo)=a by omega] at this
   repeat' split
   all_goals first
    | (exfalso;omega)
    |exact KeyOrd.kle_refl _
    |exact Si _ (by omega) (by omega)
    |exact KeyOrd.kle_of_klt (R0 _ (by omega) (by omega))
    |exact eU _ _ (by omega) (by omega) (by omega)
end
def y6(lo a aO:Nat):StateT SortSt Sem AscSt:=
 forIn [a:aO] ((none,a):AscSt) λ_ __s=>do
  let __x ←ltAt' (lo+__s.snd) (lo+__s.snd-1)
  match __x with
  |some uM=>if uM=true then pure (ForInStep.done (none,__s.snd)) else pure (ForInStep.yield (none,__s.snd+1))
  |_=>pure (ForInStep.done (some none,__s.snd))
def tailL(lo n aO:Nat):StateT SortSt Sem (Option Nat):=do
 reverseSlice' lo (lo+n)
 let __s ←y6 lo n aO
 match __s.fst with
 |some r=>pure r
 |none=>pure (some __s.snd)
def xM(lo n aO:Nat):StateT SortSt Sem DescSt:=
 forIn [n:aO] ((none,n,0):DescSt) λ_ __s=>do
  let __x ←ltAt' (lo+__s.snd.fst) (lo+__s.snd.fst-1)
  match __x with
  |some uM=>
   if uM=true then
    if __s.snd.snd>0 then do
     reverseSlice' (lo+__s.snd.fst-(__s.snd.snd+1)) (lo+__s.snd.fst)
     pure (ForInStep.yield (none,__s.snd.fst+1,0))
    else pure (ForInStep.yield (none,__s.snd.fst+1,0))
   else do
    let __x ←ltAt' (lo+__s.snd.fst-1) (lo+__s.snd.fst)
    match __x with
    |some Kq=>
     if Kq=true then pure (ForInStep.done (none,__s.snd.fst,__s.snd.snd))
     else pure (ForInStep.yield (none,__s.snd.fst+1,__s.snd.snd+1))
    |_=>pure (ForInStep.done (some none,__s.snd.fst,__s.snd.snd))
  |_=>pure (ForInStep.done (some none,__s.snd.fst,__s.snd.snd))
def descP(lo n aO:Nat):StateT SortSt Sem (Option Nat):=do
 liftM (rule "list.sort.descending-run")
 let __s ←xM lo (n+1) aO
 match __s.fst with
 |some r=>pure r
 |none=>
  if __s.snd.snd>0 then do
   reverseSlice' (lo+__s.snd.fst-(__s.snd.snd+1)) (lo+__s.snd.fst)
   tailL lo __s.snd.fst aO
  else tailL lo __s.snd.fst aO
theorem vB(lo aO:Nat):countRun' lo aO=(do
  let __s ←y6 lo 1 aO
  match __s.fst with
  |some r=>pure r
  |none=>
   if (__s.snd==aO)=true then pure (some __s.snd)
   else if __s.snd>1 then do
    let __x ←ltAt' lo (lo+__s.snd-1)
    match __x with
    |some MQ=>if MQ=true then pure (some __s.snd) else do
      reverseSlice' lo (lo+__s.snd)
      descP lo __s.snd aO
    |_=>pure none
   else descP lo __s.snd aO):=by
 rw [countRun'_eq];dsimp only;unfold descP tailL xM y6
 congr 1
 funext __s
 obtain ⟨r,n⟩:=__s;cases r with
 |some r=>rfl
 |none=>
  dsimp only
  split
  ·rfl
  ·split
   ·congr 1
    funext x
    cases x with
    |none=>rfl
    |some MQ=>
     dsimp only
     split
     ·rfl
     ·congr 1
      funext _r
      (congr 1;funext _u;congr 1;congr 1;funext s2;obtain ⟨r2,n2,q2⟩:=s2;cases r2 with
 |some r2=>rfl
 |none=>(dsimp only;split;(congr 1;funext _v;(congr 1;funext _w;congr 1;(funext s3;obtain ⟨r3,n3⟩:=s3;cases r3<;>rfl)));(congr 1;funext _w;congr 1;(funext s3;obtain ⟨r3,n3⟩:=s3;cases r3<;>rfl))))
   ·(congr 1;funext _u;congr 1;congr 1;funext s2;obtain ⟨r2,n2,q2⟩:=s2;cases r2 with
 |some r2=>rfl
 |none=>(dsimp only;split;(congr 1;funext _v;(congr 1;funext _w;congr 1;(funext s3;obtain ⟨r3,n3⟩:=s3;cases r3<;>rfl)));(congr 1;funext _w;congr 1;(funext s3;obtain ⟨r3,n3⟩:=s3;cases r3<;>rfl))))
section
variable {O:KeyOrd} {key:Keyed→O.α} {S:Keyed→Prop} {k0:SortKind} {prog:Program} {w:World} {A:Around} {E:Value→Shared→Prop} {s:Shared} {st br:SortSt}
theorem xf(C:fG O key S k0 (model prog w) A E s){lo a aO:Nat}{Q:AscSt→SortSt→Prop}(o:Ok S k0 st)(hn:lo+aO≤(arrOf st).size)(ha:1≤a)(XT:a≤aO)(hs:hV O key (arrOf st) lo (lo+a))
  (h:∀n,a≤n→n≤aO→hV O key (arrOf st) lo (lo+n)→(n=aO∨O.klt (ky O key (arrOf st) (lo+n)) (ky O key (arrOf st) (lo+n-1)))→Q (none,n) st):
  wpS (model prog w) A E s (y6 lo a aO) Q st:=by
 unfold y6;refine wpS_forRange (I:=λx c ag=>ag=st∧c=(none,x)∧hV O key (arrOf st) lo (lo+x)) ?step ?fin ⟨rfl,rfl,hs⟩
 case fin=>
  rintro c ag ⟨rfl,rfl,eU⟩;rw [show max a aO=aO by omega] at eU ⊢
  exact h aO XT (aT _) eU (.inl rfl)
 case step=>
  rintro x c ag RK YJ ⟨rfl,rfl,eU⟩;dsimp only;refine wpS_bind (mh C o (by omega) (by omega) ?_)
  cases lh:O.blt (ky O key (arrOf ag) (lo+x)) (ky O key (arrOf ag) (lo+x-1))
  case true=>
   simp only [if_true];exact wpS_pure (h x RK (by omega) eU (.inr lh))
  case false=>
   simp only [eH,if_false];refine wpS_pure ⟨rfl,rfl,λi j hi cR hj=>?_⟩
   by_cases Hf:j<lo+x
   ·exact eU i j hi cR Hf
   ·have xW:j=lo+x:=by omega
    subst xW
    by_cases eC:i=lo+x
    ·subst eC;exact KeyOrd.kle_refl _
    ·exact KeyOrd.kle_trans (eU i (lo+x-1) hi (by omega) (by omega)) lh
theorem qe{i j:Nat}{Q:Unit→SortSt→Prop}(h:Q () (setArr st (mirror (arrOf st) i j ((j-i) / 2)))):wpS (model prog w) A E s (reverseSlice' i j) Q st:=by
 rw [reverseSlice'_eq];exact wpS_modify h
theorem vd(C:fG O key S k0 (model prog w) A E s){lo n aO:Nat}{Q:Option Nat→SortSt→Prop}(o:Ok S k0 st)(hn:lo+aO≤(arrOf st).size)(h1:1≤n)(xX:n≤aO)(hs:Ec O key (arrOf st) lo (lo+n))
  (h:∀m ag,fH st ag lo (lo+aO)→1≤m→m≤aO→hV O key (arrOf ag) lo (lo+m)→Q (some m) ag):wpS (model prog w) A E s (tailL lo n aO) Q st:=by
 unfold tailL;have fk:lo+n≤(arrOf st).size:=by omega
 refine wpS_bind (qe ?_);have hB:fH st (setArr st (mirror (arrOf st) lo (lo+n) ((lo+n-lo) / 2))) lo (lo+aO):=fH.mirror (aT _) (by omega) fk
 refine wpS_bind (xf C (o.step hB) (by rw [hB.size];exact hn) h1 xX ?_ λm Yo EV YD _=>wpS_pure (h m _ hB (by omega) EV YD))
 intro i j hi cR hj;show O.kle (ky O key (mirror (arrOf st) lo (lo+n) ((lo+n-lo) / 2)) i) (ky O key (mirror (arrOf st) lo (lo+n) ((lo+n-lo) / 2)) j);rw [og fk,og fk,if_pos (by omega),if_pos (by omega)]
 exact hs _ _ (by omega) (by omega) (by omega)
theorem CL(C:fG O key S k0 (model prog w) A E s){lo n aO:Nat}{Q:DescSt→SortSt→Prop}(o:Ok S k0 st)(hn:lo+aO≤(arrOf st).size)(h1:1≤n)(xX:n≤aO)(hs:Ec O key (arrOf st) lo (lo+n))
  (h:∀m lB ag,fH st ag lo (lo+aO)→n≤m→m≤aO→Ec O key (arrOf ag) lo (lo+m)→lB+1≤m→(∀i,lo+m-(lB+1)≤i→i<lo+m→ky O key (arrOf ag) i=ky O key (arrOf ag) (lo+m-1))→Q (none,m,lB) ag):
  wpS (model prog w) A E s (xM lo n aO) Q st:=by
 unfold xM
 refine wpS_forRange (I:=λx c ag=>∃lB,c=(none,x,lB)∧fH st ag lo (lo+aO)∧Ec O key (arrOf ag) lo (lo+x)∧lB+1≤x∧
   (∀i,lo+x-(lB+1)≤i→i<lo+x→ky O key (arrOf ag) i=ky O key (arrOf ag) (lo+x-1))) ?step ?fin ⟨0,rfl, .refl _ _ _,hs,by omega,λi h1 h2=>by congr 1;omega⟩
 case fin=>
  rintro c ag ⟨lB,rfl,iS,eU,hq,he⟩;rw [show max n aO=aO by omega] at eU hq he ⊢
  exact h aO lB ag iS xX (aT _) eU hq he
 case step=>
  rintro x c ag RK YJ ⟨lB,rfl,iS,eU,hq,he⟩;dsimp only;have o':=o.step iS;have hz:=iS.size;have fk:lo+x≤(arrOf ag).size:=by omega
  refine wpS_bind (mh C o' (by omega) (by omega) ?_)
  cases lh:O.blt (ky O key (arrOf ag) (lo+x)) (ky O key (arrOf ag) (lo+x-1))
  case true=>
   simp only [if_true]
   have Ji:∀xs:Array Keyed,(∀k,ky O key xs k=ky O key (arrOf ag) k)→Ec O key xs lo (lo+(x+1)):=by
    intro xs hk i j hi cR hj;rw [hk,hk]
    by_cases Hf:j<lo+x
    ·exact eU i j hi cR Hf
    ·have xW:j=lo+x:=by omega
     subst xW
     by_cases eC:i=lo+x
     ·subst eC;exact KeyOrd.kle_refl _
     ·exact KeyOrd.kle_trans (KeyOrd.kle_of_klt lh) (eU i (lo+x-1) hi (by omega) (by omega))
   by_cases zF:lB>0
   ·rw [if_pos zF]
    refine wpS_bind (qe (wpS_pure ⟨0,rfl,iS.trans (fH.mirror (by omega) (by omega) fk),Ji _ (fb fk he),by omega,λi h1 h2=>by congr 1;omega⟩))
   ·rw [if_neg zF]
    exact wpS_pure ⟨0,rfl,iS,Ji _ (λ_=>rfl),by omega,λi h1 h2=>by congr 1;omega⟩
  case false=>
   simp only [eH,if_false];refine wpS_bind (mh C o' (by omega) (by omega) ?_)
   cases Hi:O.blt (ky O key (arrOf ag) (lo+x-1)) (ky O key (arrOf ag) (lo+x))
   case true=>
    simp only [if_true];exact wpS_pure (h x lB ag iS (by omega) (by omega) eU hq he)
   case false=>
    simp only [eH,if_false];have Mj:ky O key (arrOf ag) (lo+x)=ky O key (arrOf ag) (lo+x-1):=O.total _ _ lh Hi;refine wpS_pure ⟨lB+1,rfl,iS,λi j hi cR hj=>?_,by omega,λi h1 h2=>?_⟩
    ·by_cases Hf:j<lo+x
     ·exact eU i j hi cR Hf
     ·have xW:j=lo+x:=by omega
      subst xW
      by_cases eC:i=lo+x
      ·subst eC;exact KeyOrd.kle_refl _
      ·rw [Mj];exact eU i (lo+x-1) hi (by omega) (by omega)
    ·rw [show lo+(x+1)-1=lo+x by omega]
     by_cases Yh:i=lo+x
     ·subst Yh;rfl
     ·rw [Mj];exact he i (by omega) (by omega)
theorem u3(C:fG O key S k0 (model prog w) A E s){lo n aO:Nat}{Q:Option Nat→SortSt→Prop}(o:Ok S k0 st)(hn:lo+aO≤(arrOf st).size)(xX:n+1≤aO)(hs:Ec O key (arrOf st) lo (lo+(n+1)))
  (h:∀m ag,fH st ag lo (lo+aO)→1≤m→m≤aO→hV O key (arrOf ag) lo (lo+m)→Q (some m) ag):wpS (model prog w) A E s (descP lo n aO) Q st:=by
 unfold descP;refine wpS_bind (wpS_lift (wpAny_rule ⟨rfl,?_⟩));refine wpS_bind (CL C o hn (by omega) xX hs λm lB ag iS Yo EV eU hq he=>?_)
 dsimp only;have hz:=iS.size;have fk:lo+m≤(arrOf ag).size:=by omega
 by_cases zF:lB>0
 ·rw [if_pos zF]
  have NQ:fH ag (setArr ag (mirror (arrOf ag) (lo+m-(lB+1)) (lo+m) ((lo+m-(lo+m-(lB+1))) / 2))) lo (lo+aO):=fH.mirror (by omega) (by omega) fk
  refine wpS_bind (qe (vd C (o.step (iS.trans NQ)) (by rw [NQ.size];omega) (by omega) EV ?_ λm' cc hS=>h m' cc ((iS.trans NQ).trans hS)))
  intro i j hi cR hj;show O.kle (ky O key (mirror (arrOf ag) _ _ _) j) (ky O key (mirror (arrOf ag) _ _ _) i);rw [fb fk he,fb fk he];exact eU i j hi cR hj
 ·rw [if_neg zF]
  exact vd C (o.step iS) (by omega) (by omega) EV eU λm' cc hS=>h m' cc (iS.trans hS)
theorem wpS_countRun(C:fG O key S k0 (model prog w) A E s){lo aO:Nat}{Q:Option Nat→SortSt→Prop}(o:Ok S k0 st)(hn:lo+aO≤(arrOf st).size)(h1:1≤aO)
  (h:∀m ag,fH st ag lo (lo+aO)→1≤m→m≤aO→hV O key (arrOf ag) lo (lo+m)→Q (some m) ag):wpS (model prog w) A E s (countRun' lo aO) Q st:=by
 rw [vB];refine wpS_bind (xf C o hn (aT 1) h1 (λi j hi cR hj=>by have:i=j:=(by omega);subst this;exact KeyOrd.kle_refl _) λn J6 vG Kb Yv=>?_)
 dsimp only
 by_cases xX:n=aO
 ·rw [if_pos (by simpa using xX)]
  exact wpS_pure (h n st (.refl _ _ _) J6 vG Kb)
 ·rw [if_neg (by simpa using xX)]
  have bq:O.klt (ky O key (arrOf st) (lo+n)) (ky O key (arrOf st) (lo+n-1)):=Yv.resolve_left xX
  by_cases RZ:n>1
  ·rw [if_pos RZ]
   refine wpS_bind (mh C o (by omega) (by omega) ?_)
   cases Ov:O.blt (ky O key (arrOf st) lo) (ky O key (arrOf st) (lo+n-1))
   case true=>
    simp only [if_true];exact wpS_pure (h n st (.refl _ _ _) J6 vG Kb)
   case false=>
    simp only [eH,if_false];have fk:lo+n≤(arrOf st).size:=by omega
    have gZ:∀k,lo≤k→k<lo+n→ky O key (arrOf st) k=ky O key (arrOf st) (lo+n-1):=by
     intro k sv hk;have a1:=Kb lo k (by omega) sv hk
     have a2:=Kb k (lo+n-1) sv (by omega) (by omega)
     exact KeyOrd.kle_antisymm a2 (KeyOrd.kle_trans Ov a1)
    have hB:fH st (setArr st (mirror (arrOf st) lo (lo+n) ((lo+n-lo) / 2))) lo (lo+aO):=fH.mirror (aT _) (by omega) fk
    refine wpS_bind (qe (u3 C (o.step hB) (by rw [hB.size];omega) (by omega) ?_ λm' cc hS=>h m' cc (hB.trans hS)))
    intro i j hi cR hj;show O.kle (ky O key (mirror (arrOf st) _ _ _) j) (ky O key (mirror (arrOf st) _ _ _) i);rw [fb fk gZ,fb fk gZ]
    by_cases Yj:j<lo+n
    ·rw [gZ i hi (by omega),gZ j (by omega) Yj];exact KeyOrd.kle_refl _
    ·have xW:j=lo+n:=by omega
     subst xW
     by_cases eC:i=lo+n
     ·subst eC;exact KeyOrd.kle_refl _
     ·rw [gZ i hi (by omega)];exact KeyOrd.kle_of_klt bq
  ·rw [if_neg RZ]
   have Sl:n=1:=by omega
   subst Sl;refine u3 C o hn (by omega) ?_ h
   intro i j hi cR hj
   by_cases eC:i=j
   ·subst eC;exact KeyOrd.kle_refl _
   ·have Ye:i=lo:=by omega
    have Yi:j=lo+1:=by omega
    subst Ye;subst Yi;exact KeyOrd.kle_of_klt bq
end
section lists
variable (O:KeyOrd) (key:Keyed→O.α)
def LE(x y:Keyed):Prop:=O.kle (key x) (key y)
structure MI (l o ra rb:List Keyed):Prop where
 perm:(o++(ra++rb)).Perm l
 so:o.Pairwise (LE O key)
 sa:ra.Pairwise (LE O key)
 sb:rb.Pairwise (LE O key)
 le:∀x∈o,∀y∈ra++rb,LE O key x y
def Res(l r:List Keyed):Prop:=r.Perm l∧r.Pairwise (LE O key)
variable {O key}
theorem MI.j2{l o xs ra rb:List Keyed}(m:MI O key l o (xs++ra) rb)(h:∀x∈xs,∀y∈rb,LE O key x y):MI O key l (o++xs) ra rb:=by
 obtain ⟨sx,sr,sxr⟩:=y0.mp m.sa;refine ⟨by simpa [nI] using m.perm,y0.mpr ⟨m.so,sx,λx hx y hy=>m.le x hx y (by simp [hy])⟩,sr,m.sb,λx hx y hy=>?_⟩
 rcases cM.mp hx with z|z
 ·refine m.le x z y ?_
  rcases cM.mp hy with u|u<;>simp [u]
 ·rcases cM.mp hy with u|u
  ·exact sxr x z y u
  ·exact h x z y u
theorem MI.swap{l o ra rb:List Keyed}(m:MI O key l o ra rb):MI O key l o rb ra:=
 ⟨(List.Perm.append_left o List.perm_append_comm).trans m.perm,m.so,m.sb,m.sa,λx hx y hy=>m.le x hx y (by rcases cM.mp hy with u|u<;>simp [u])⟩
theorem MI.j3{l o xs ra rb:List Keyed}(m:MI O key l o ra (xs++rb))(h:∀x∈xs,∀y∈ra,LE O key x y):MI O key l (o++xs) ra rb:=(m.swap.j2 h).swap
theorem MI.zu{l o ra:List Keyed}(m:MI O key l o ra []):Res O key l (o++ra):=
 ⟨by simpa using m.perm,y0.mpr ⟨m.so,m.sa,λx hx y hy=>m.le x hx y (by simp [hy])⟩⟩
theorem MI.yf{l o ra rb:List Keyed}(m:MI O key l o ra rb)(h:∀y∈rb,∀x∈ra,LE O key y x):Res O key l (o++rb++ra):=by
 have m':MI O key l o ra (rb++ []):=by rw [jh];exact m
 exact (m'.j3 h).zu
end lists
def yl(a b:Array Keyed)(mg ac bc ia:Nat)(out:Array Keyed)(ib:Nat):StateT SortSt Sem (ForInStep (Option (Array Keyed)×Array Keyed×Nat×Nat×Nat×Nat×Nat)):=do
 let __do_lift ←elem' a ia
 let out:Array Keyed:=out.push __do_lift
 let ia:Nat:=ia+1
 if (ia+1==a.size)=true then pure (ForInStep.done (some (out++b.extract ib b.size++a.extract ia a.size),out,ia,ib,mg,ac,bc))
 else if (decide (ac<7)&&decide (bc<7))=true then pure (ForInStep.done (none,out,ia,ib,mg,ac,bc))
 else pure (ForInStep.yield (none,out,ia,ib,mg,ac,bc))
def qM(a b:Array Keyed)(mg ac bc ib:Nat)(out:Array Keyed)(ia:Nat):StateT SortSt Sem (ForInStep (Option (Array Keyed)×Array Keyed×Nat×Nat×Nat×Nat×Nat)):=do
 let __do_lift ←elem' b ib
 let out:Array Keyed:=out.push __do_lift
 let ib:Nat:=ib+1
 if (ib==b.size)=true then pure (ForInStep.done (some (out++a.extract ia a.size++b.extract ib b.size),out,ia,ib,mg,ac,bc))
 else do
  let __do_lift ←elem' a ia
  let __x ←dH true __do_lift b ib (b.size-ib) 0
  match __x with
  |some k=>
   if k>0 then
    if (ib+k==b.size)=true then pure (ForInStep.done (some (out++b.extract ib (ib+k)++a.extract ia a.size++b.extract (ib+k) b.size),out++b.extract ib (ib+k),ia,ib+k,mg,ac,k))
    else yl a b mg ac k ia (out++b.extract ib (ib+k)) (ib+k)
   else yl a b mg ac k ia out ib
  |_=>pure (ForInStep.done (some (out++a.extract ia a.size++b.extract ib b.size),out,ia,ib,mg,ac,bc))
def oj(a b:Array Keyed)(bc ac ia ib:Nat)(out:Array Keyed)(mg:Nat):StateT SortSt Sem (ForInStep (Option (Array Keyed)×Array Keyed×Nat×Nat×Nat×Nat×Nat)):=do
 setMinGallop' mg
 let __do_lift ←elem' b ib
 let __x ←dH false __do_lift a ia (a.size-ia) 0
 match __x with
 |some k=>
  if k>0 then
   if (ia+k+1==a.size)=true then pure (ForInStep.done (some (out++a.extract ia (ia+k)++b.extract ib b.size++a.extract (ia+k) a.size),out++a.extract ia (ia+k),ia+k,ib,mg,k,bc))
   else if (ia+k==a.size)=true then pure (ForInStep.done (some (out++a.extract ia (ia+k)++a.extract (ia+k) a.size++b.extract ib b.size),out++a.extract ia (ia+k),ia+k,ib,mg,k,bc))
   else qM a b mg k bc ib (out++a.extract ia (ia+k)) (ia+k)
  else qM a b mg k bc ib out ia
 |_=>pure (ForInStep.done (some (out++a.extract ia a.size++b.extract ib b.size),out,ia,ib,mg,ac,bc))
def yn(a b:Array Keyed)(__s:Option (Array Keyed)×Array Keyed×Nat×Nat×Nat×Nat×Nat):StateT SortSt Sem (ForInStep (Option (Array Keyed)×Array Keyed×Nat×Nat×Nat×Nat×Nat)):=
 if __s.2.2.2.2.1>1 then oj a b __s.2.2.2.2.2.2 __s.2.2.2.2.2.1 __s.2.2.1 __s.2.2.2.1 __s.2.1 (__s.2.2.2.2.1-1) else oj a b __s.2.2.2.2.2.2 __s.2.2.2.2.2.1 __s.2.2.1 __s.2.2.2.1 __s.2.1 __s.2.2.2.2.1
def ym(a b:Array Keyed)(mg:Nat)(__s:Option (Array Keyed)×Array Keyed×Nat×Nat×Nat×Nat):StateT SortSt Sem (ForInStep (Option (Array Keyed)×Array Keyed×Nat×Nat×Nat×Nat)):=do
 let y ←elem' b __s.2.2.2.1
 let x ←elem' a __s.2.2.1
 let __x ←lt' y x
 match __x with
 |some AZ=>
  if AZ=true then do
   let y ←elem' b __s.2.2.2.1
   if (__s.2.2.2.1+1==b.size)=true then pure (ForInStep.done (some (__s.2.1.push y++a.extract __s.2.2.1 a.size++b.extract (__s.2.2.2.1+1) b.size),__s.2.1.push y,__s.2.2.1,__s.2.2.2.1+1,0,__s.2.2.2.2.2+1))
   else if __s.2.2.2.2.2+1≥mg then pure (ForInStep.done (none,__s.2.1.push y,__s.2.2.1,__s.2.2.2.1+1,0,__s.2.2.2.2.2+1))
   else pure (ForInStep.yield (none,__s.2.1.push y,__s.2.2.1,__s.2.2.2.1+1,0,__s.2.2.2.2.2+1))
  else do
   let x ←elem' a __s.2.2.1
   if (__s.2.2.1+1+1==a.size)=true then pure (ForInStep.done (some (__s.2.1.push x++b.extract __s.2.2.2.1 b.size++a.extract (__s.2.2.1+1) a.size),__s.2.1.push x,__s.2.2.1+1,__s.2.2.2.1,__s.2.2.2.2.1+1,0))
   else if __s.2.2.2.2.1+1≥mg then pure (ForInStep.done (none,__s.2.1.push x,__s.2.2.1+1,__s.2.2.2.1,__s.2.2.2.2.1+1,0))
   else pure (ForInStep.yield (none,__s.2.1.push x,__s.2.2.1+1,__s.2.2.2.1,__s.2.2.2.2.1+1,0))
 |_=>pure (ForInStep.done (some (__s.2.1++a.extract __s.2.2.1 a.size++b.extract __s.2.2.2.1 b.size),__s.2.1,__s.2.2.1,__s.2.2.2.1,__s.2.2.2.2.1,__s.2.2.2.2.2))
def pK(a b:Array Keyed)(__s:Option (Array Keyed)×Array Keyed×Nat×Nat×Nat):StateT SortSt Sem (ForInStep (Option (Array Keyed)×Array Keyed×Nat×Nat×Nat)):=do
 let __t ←forIn [0:a.size+b.size] (none,__s.2.1,__s.2.2.1,__s.2.2.2.1,0,0) λ_ c=>ym a b __s.2.2.2.2 c
 match __t.1 with
 |some r=>pure (ForInStep.done (some r,__t.2.1,__t.2.2.1,__t.2.2.2.1,__s.2.2.2.2))
 |none=>do
  liftM (rule "list.sort.gallop")
  let __u ←forIn [0:a.size+b.size] (none,__t.2.1,__t.2.2.1,__t.2.2.2.1,__s.2.2.2.2+1,__t.2.2.2.2.1,__t.2.2.2.2.2) λ_ c=>yn a b c
  match __u.1 with
  |some r=>pure (ForInStep.done (some r,__u.2.1,__u.2.2.1,__u.2.2.2.1,__u.2.2.2.2.1))
  |none=>do
   setMinGallop' (__u.2.2.2.2.1+1)
   pure (ForInStep.yield (none,__u.2.1,__u.2.2.1,__u.2.2.2.1,__u.2.2.2.2.1+1))
theorem cu{α β:Type}{m m':StateT SortSt Sem α}{f f':α→StateT SortSt Sem β}(h:m=m')(g:∀x,f x=f' x):m>>=f=m'>>=f':=by rw [h,show f=f' from funext g]
theorem xQ{β:Type}{n:Nat}{c0:β}{f f':Nat→β→StateT SortSt Sem (ForInStep β)}(h:∀i c,f i c=f' i c):forIn [0:n] c0 f=forIn [0:n] c0 f':=by rw [show f=f' from funext λi=>funext (h i)]
theorem dU{α:Type}{c:Prop} [Decidable c] {x y x' y':α} (h:c→x=x') (g:¬c→y=y'):(if c then x else y)=if c then x' else y':=by
 by_cases e:c
 ·rw [if_pos e,if_pos e];exact h e
 ·rw [if_neg e,if_neg e];exact g e
theorem vN(a b:Array Keyed):mK a b=(do
 rule "list.sort.merge-lo"
 let total:=a.size+b.size
 let done (out:Array Keyed) (ia ib:Nat):=out++a.extract ia a.size++b.extract ib b.size
 let pF (out:Array Keyed) (ia ib:Nat):=out++b.extract ib b.size++a.extract ia a.size
 let mut out:Array Keyed:= #[←elem' b 0]
 let mut ia:=0
 let mut ib:=1
 if ib==b.size then return done out ia ib
 if ia+1==a.size then return pF out ia ib
 let mut minGallop:=gallopOf (←get)
 for _ in [0:total] do
  let mut acount:=0
  let mut bcount:=0
  for _ in [0:total] do
   let some AZ ←lt' (←elem' b ib) (←elem' a ia) |return done out ia ib
   if AZ then
    out:=out.push (←elem' b ib);ib:=ib+1;bcount:=bcount+1;acount:=0
    if ib==b.size then return done out ia ib
    if bcount≥minGallop then break
   else
    out:=out.push (←elem' a ia);ia:=ia+1;acount:=acount+1;bcount:=0
    if ia+1==a.size then return pF out ia ib
    if acount≥minGallop then break
  rule "list.sort.gallop"
  minGallop:=minGallop+1
  for _ in [0:total] do
   if minGallop>1 then minGallop:=minGallop-1
   setMinGallop' minGallop
   let some k ←dH false (←elem' b ib) a ia (a.size-ia) 0|return done out ia ib
   acount:=k
   if k>0 then
    out:=out++a.extract ia (ia+k);ia:=ia+k
    if ia+1==a.size then return pF out ia ib
    if ia==a.size then return done out ia ib
   out:=out.push (←elem' b ib);ib:=ib+1
   if ib==b.size then return done out ia ib
   let some k ←dH true (←elem' a ia) b ib (b.size-ib) 0|return done out ia ib
   bcount:=k
   if k>0 then
    out:=out++b.extract ib (ib+k);ib:=ib+k
    if ib==b.size then return done out ia ib
   out:=out.push (←elem' a ia);ia:=ia+1
   if ia+1==a.size then return pF out ia ib
   if acount<7&&bcount<7 then break
  minGallop:=minGallop+1
  setMinGallop' minGallop
 unsupported "internal:list.sort.merge-bound"):=rfl
theorem yr(a b:Array Keyed):mK a b=(do
 liftM (rule "list.sort.merge-lo")
 let y ←elem' b 0
 if (1==b.size)=true then pure (#[y]++a.extract 0 a.size++b.extract 1 b.size)
 else if (0+1==a.size)=true then pure (#[y]++b.extract 1 b.size++a.extract 0 a.size)
 else do
  let __do_lift ←get
  let __s ←forIn [0:a.size+b.size] (none, #[y],0,1,gallopOf __do_lift) λ_ c=>pK a b c
  match __s.1 with
  |some r=>pure r
  |none=>liftM (unsupported (α:=Array Keyed) "internal:list.sort.merge-bound")):=by
 rw [vN];dsimp only;refine cu rfl λ_=>cu rfl λy=>?_;refine congrArg (ite _ _) (congrArg (ite _ _) ?_);refine cu rfl λg=>cu (xQ λ_ c=>?_) λu=>?_
 ·unfold pK
  refine cu (xQ λ_ t=>?_) λt=>?_
  ·unfold ym
   refine cu rfl λ_=>cu rfl λ_=>cu rfl λz=>?_;cases z<;>rfl
  ·obtain ⟨t1,t2⟩:=t
   cases t1 with
   |some r=>rfl
   |none=>
    dsimp only;refine cu rfl λ_=>cu (xQ λ_ u=>?_) λu=>?_
    ·unfold yn
     have jp:∀mg,oj a b u.2.2.2.2.2.2 u.2.2.2.2.2.1 u.2.2.1 u.2.2.2.1 u.2.1 mg=oj a b u.2.2.2.2.2.2 u.2.2.2.2.2.1 u.2.2.1 u.2.2.2.1 u.2.1 mg:=λ_=>rfl;refine dU (λ_=>?_) (λ_=>?_)
     all_goals
      unfold oj;refine cu rfl λ_=>cu rfl λ_=>cu rfl λz=>?_;cases z with
      |none=>rfl
      |some k=>
       dsimp only;refine dU (λ_=>?_) (λ_=>?_)
       ·refine dU (λ_=>rfl) (λ_=>dU (λ_=>rfl) (λ_=>?_))
        unfold qM;refine cu rfl λ_=>dU (λ_=>rfl) (λ_=>cu rfl λ_=>cu rfl λz=>?_);cases z with
        |none=>rfl
        |some k=>rfl
       ·unfold qM
        refine cu rfl λ_=>dU (λ_=>rfl) (λ_=>cu rfl λ_=>cu rfl λz=>?_);cases z with
        |none=>rfl
        |some k=>rfl
    ·obtain ⟨u1,u2⟩:=u
     cases u1<;>rfl
 ·obtain ⟨u1,u2⟩:=u
  cases u1<;>rfl
structure GS (st ag:SortSt):Prop where
 arr:arrOf ag=arrOf st
 kind:kindOf ag=kindOf st
 failed:failedOf ag=failedOf st
 pend:pendingOf ag=pendingOf st
theorem GS.refl(st:SortSt):GS st st:=⟨rfl,rfl,rfl,rfl⟩
theorem GS.trans{a b c:SortSt}(x:GS a b)(y:GS b c):GS a c:=⟨y.arr.trans x.arr,y.kind.trans x.kind,y.failed.trans x.failed,y.pend.trans x.pend⟩
theorem p7(g:Nat):setMinGallop' g=modify λs=>SortSt.mk' (kindOf s) (arrOf s) (pendingOf s) g (failedOf s):=rfl
theorem ext_toList(xs:Array Keyed)(i j:Nat):(xs.extract i j).toList=(xs.toList.drop i).take (j-i):=by
 rw [Array.toList_extract]
theorem jw(xs:Array Keyed)(i:Nat):(xs.extract i xs.size).toList=xs.toList.drop i:=by
 rw [ext_toList,nG (by simp)]
theorem drop_cons{xs:Array Keyed}{i:Nat}{x:Keyed}(h:xs[i]? =some x):xs.toList.drop i=x::xs.toList.drop (i+1):=by
 have h':xs.toList[i]? =some x:=by rw [←h];simp
 obtain ⟨bq,e⟩:=bV.mp h';rw [rZ bq,e]
theorem kU(l:List Keyed)(i k:Nat):l.drop i=(l.drop i).take k++l.drop (i+k):=by
 rw [←List.drop_drop,nH]
theorem dk{l:List Keyed}{i k:Nat}{x:Keyed}(h:x∈(l.drop i).take k):∃j,j<k∧i+j<l.length∧l[i+j]? =some x:=by
 obtain ⟨j,hj⟩:=fZ h;rw [List.getElem?_take] at hj
 split at hj
 ·rename_i c
  rw [AN] at hj;exact ⟨j,c,(bV.mp hj).1,hj⟩
 ·cases hj
theorem fo{l:List Keyed}{i:Nat}{x:Keyed}(h:x∈l.drop i):∃j,i+j<l.length∧l[i+j]? =some x:=by
 obtain ⟨j,hj⟩:=fZ h;rw [AN] at hj;exact ⟨j,(bV.mp hj).1,hj⟩
section
variable {O:KeyOrd} {key:Keyed→O.α} {S:Keyed→Prop} {k0:SortKind} {M:Model} {A:Around} {E:Value→Shared→Prop} {s:Shared} {st br:SortSt}
theorem mU{g:Nat}{Q:Unit→SortSt→Prop}(h:∀ag,GS st ag→Q () ag):wpS M A E s (setMinGallop' g) Q st:=by
 rw [p7];exact wpS_modify (h _ ⟨rfl,rfl,rfl,rfl⟩)
structure kL (O:KeyOrd) (key:Keyed→O.α) (S:Keyed→Prop) (a b:Array Keyed):Prop where
 ma:∀x∈a.toList,S x
 mb:∀x∈b.toList,S x
 sa:a.toList.Pairwise (LE O key)
 sb:b.toList.Pairwise (LE O key)
 na:1≤a.size
 nb:1≤b.size
 first:∀y,b[0]? =some y→∀x∈a.toList,LE O key y x
 last:∀x,a[a.size-1]? =some x→∀y∈b.toList,LE O key y x
theorem kL.yf{a b:Array Keyed}(T:kL O key S a b){ia ib:Nat}(h:ia+1=a.size):∀y∈b.toList.drop ib,∀x∈a.toList.drop ia,LE O key y x:=λy hy x hx=>by
 obtain ⟨j,hj,e⟩:=fo hx;rw [bW] at hj
 have:ia+j=a.size-1:=by omega
 rw [this] at e;exact T.last x (by rw [←e];simp) y (List.mem_of_mem_drop hy)
theorem eW{l:List Keyed}(h:l.Pairwise (LE O key)){i j:Nat}{x y:Keyed}(cR:i≤j)(hx:l[i]? =some x)(hy:l[j]? =some y):LE O key x y:=by
 by_cases e:i=j
 ·subst e
  rw [hx] at hy;cases hy;exact KeyOrd.kle_refl _
 ·obtain ⟨h1,e1⟩:=bV.mp hx
  obtain ⟨h2,e2⟩:=bV.mp hy;rw [←e1,←e2];exact vj.mp h i j h1 h2 (by omega)
theorem mS{xs:Array Keyed}(m:∀x∈xs.toList,S x){i n:Nat}(h:i+n≤xs.size):Seg S xs i n (λj=>xs[i+j]?.getD (.none, .none)):=
 ⟨λj hj=>by
  have:i+j<xs.size:=by omega
  rw [getElem?_pos xs (i+j) this];rfl,λj hj=>by
  have:i+j<xs.size:=by omega
  rw [getElem?_pos xs (i+j) this];exact m _ (by simp)⟩
theorem aY{xs:Array Keyed}{i:Nat}(h:i<xs.size):∃x,xs[i]? =some x∧x∈xs.toList∧xs.toList[i]? =some x:=by
 refine ⟨xs[i],getElem?_pos xs i h,by simp,?_⟩
 rw [eG];exact getElem?_pos xs i h
theorem jD{xs:Array Keyed}{i:Nat}{x:Keyed}(h:xs[i]? =some x):xs.toList[i]? =some x:=by rw [eG];exact h
theorem iY{xs:Array Keyed}{i:Nat}{x:Keyed}(h:xs.toList[i]? =some x):xs[i]? =some x:=by rw [←eG];exact h
structure IV (O:KeyOrd) (key:Keyed→O.α) (a b out:Array Keyed) (ia ib:Nat):Prop where
 mi:MI O key (a.toList++b.toList) out.toList (a.toList.drop ia) (b.toList.drop ib)
 ha:ia<a.size
 hb:ib<b.size
theorem IV.qS{a b out:Array Keyed}{ia ib:Nat}{y:Keyed}(v:MI O key (a.toList++b.toList) out.toList (a.toList.drop ia) (b.toList.drop ib))(hy:b[ib]? =some y)(h:∀x∈a.toList.drop ia,LE O key y x):
  MI O key (a.toList++b.toList) (out.push y).toList (a.toList.drop ia) (b.toList.drop (ib+1)):=by
 rw [drop_cons hy] at v;rw [xm];exact MI.j3 (xs:= [y]) v λx hx=>by rw [je.mp hx];exact h
theorem IV.qR{a b out:Array Keyed}{ia ib:Nat}{x:Keyed}(v:MI O key (a.toList++b.toList) out.toList (a.toList.drop ia) (b.toList.drop ib))(hx:a[ia]? =some x)(h:∀y∈b.toList.drop ib,LE O key x y):
  MI O key (a.toList++b.toList) (out.push x).toList (a.toList.drop (ia+1)) (b.toList.drop ib):=by
 rw [drop_cons hx] at v;rw [xm];exact MI.j2 (xs:= [x]) v λx hx=>by rw [je.mp hx];exact h
theorem IV.j3{a b out:Array Keyed}{ia ib k:Nat}(v:MI O key (a.toList++b.toList) out.toList (a.toList.drop ia) (b.toList.drop ib))(h:∀y∈(b.toList.drop ib).take k,∀x∈a.toList.drop ia,LE O key y x):
  MI O key (a.toList++b.toList) (out++b.extract ib (ib+k)).toList (a.toList.drop ia) (b.toList.drop (ib+k)):=by
 rw [kU b.toList ib k] at v;rw [g7,ext_toList,show ib+k-ib=k by omega]
 exact MI.j3 v h
theorem IV.j2{a b out:Array Keyed}{ia ib k:Nat}(v:MI O key (a.toList++b.toList) out.toList (a.toList.drop ia) (b.toList.drop ib))(h:∀x∈(a.toList.drop ia).take k,∀y∈b.toList.drop ib,LE O key x y):
  MI O key (a.toList++b.toList) (out++a.extract ia (ia+k)).toList (a.toList.drop (ia+k)) (b.toList.drop ib):=by
 rw [kU a.toList ia k] at v;rw [g7,ext_toList,show ia+k-ia=k by omega]
 exact MI.j2 v h
theorem IV.qy{a b out:Array Keyed}{ia ib:Nat}(v:MI O key (a.toList++b.toList) out.toList (a.toList.drop ia) (b.toList.drop ib))(h:ib=b.size):Res O key (a.toList++b.toList) (out++a.extract ia a.size++b.extract ib b.size).toList:=by
 have e:b.toList.drop ib= []:=vm (by rw [bW];omega)
 rw [g7,g7,jw,jw,e,jh];rw [e] at v;exact v.zu
theorem IV.qx{a b out:Array Keyed}{ia ib:Nat}(v:MI O key (a.toList++b.toList) out.toList (a.toList.drop ia) (b.toList.drop ib))(h:ia=a.size):Res O key (a.toList++b.toList) (out++a.extract ia a.size++b.extract ib b.size).toList:=by
 have e:a.toList.drop ia= []:=vm (by rw [bW];omega)
 rw [g7,g7,jw,jw,e,jh];rw [e] at v;exact v.swap.zu
theorem IV.last{a b out:Array Keyed}(T:kL O key S a b){ia ib:Nat}(v:MI O key (a.toList++b.toList) out.toList (a.toList.drop ia) (b.toList.drop ib))(h:ia+1=a.size):Res O key (a.toList++b.toList) (out++b.extract ib b.size++a.extract ia a.size).toList:=by
 rw [g7,g7,jw,jw];exact v.yf (T.yf h)
end
section
variable {O:KeyOrd} {key:Keyed→O.α} {S:Keyed→Prop} {k0:SortKind} {M:Model} {A:Around} {E:Value→Shared→Prop} {s:Shared} {st br:SortSt} {a b:Array Keyed}
def Inv(O:KeyOrd)(key:Keyed→O.α)(a b:Array Keyed)(n:Nat)(out:Array Keyed)(ia ib:Nat):Prop:=MI O key (a.toList++b.toList) out.toList (a.toList.drop ia) (b.toList.drop ib)∧ia+1<a.size∧ib<b.size∧n≤ia+ib
def Fin{ρ:Type}(O:KeyOrd)(key:Keyed→O.α)(a b:Array Keyed)(n:Nat)(c:Option (Array Keyed)×Array Keyed×Nat×Nat×ρ):Prop:=
 (∃r,c.1=some r∧Res O key (a.toList++b.toList) r.toList)∨(c.1=none∧Inv O key a b n c.2.1 c.2.2.1 c.2.2.2.1)
def Out{ρ:Type}(O:KeyOrd)(key:Keyed→O.α)(a b:Array Keyed)(n:Nat)(r:ForInStep (Option (Array Keyed)×Array Keyed×Nat×Nat×ρ)):Prop:=match r with
 | .done c=>Fin O key a b n c
 | .yield c=>c.1=none∧Inv O key a b n c.2.1 c.2.2.1 c.2.2.2.1
def PN{ρ:Type}(O:KeyOrd)(key:Keyed→O.α)(a b:Array Keyed)(n:Nat)(r:ForInStep (Option (Array Keyed)×Array Keyed×Nat×Nat×ρ)):Prop:=match r with
 | .done c=>∃r,c.1=some r∧Res O key (a.toList++b.toList) r.toList
 | .yield c=>c.1=none∧Inv O key a b n c.2.1 c.2.2.1 c.2.2.2.1
theorem vc{n mg ac bc ia ib:Nat}{out:Array Keyed}(T:kL O key S a b)(g:GS br st)(v:MI O key (a.toList++b.toList) out.toList (a.toList.drop ia) (b.toList.drop ib))(ha:ia+1<a.size)(hb:ib<b.size)(hn:n≤ia+ib)
  (hx:∀x,a[ia]? =some x→∀y∈b.toList.drop ib,LE O key x y):wpS M A E s (yl a b mg ac bc ia out ib) (λr ag=>GS br ag∧Out O key a b n r) st:=by
 unfold yl;obtain ⟨x,ex,mx,_⟩:=aY (xs:=a) (i:=ia) (by omega)
 refine wpS_bind (aQ ex ?_);have v':=IV.qR v ex (hx x ex);dsimp only
 by_cases h1:ia+1+1=a.size
 ·rw [if_pos (by simpa using h1)]
  exact wpS_pure ⟨g, .inl ⟨_,rfl,IV.last T v' h1⟩⟩
 ·rw [if_neg (by simpa using h1)]
  have iv:Inv O key a b n (out.push x) (ia+1) ib:=⟨v',by omega,hb,by omega⟩
  by_cases h2:(decide (ac<7)&&decide (bc<7))=true
  ·rw [if_pos h2]
   exact wpS_pure ⟨g, .inr ⟨rfl,iv⟩⟩
  ·rw [if_neg h2]
   exact wpS_pure ⟨g,rfl,iv⟩
theorem u9(C:fG O key S k0 M A E s)(hk:kindOf st=k0){n mg ac bc ia ib:Nat}{out:Array Keyed}(T:kL O key S a b)(g:GS br st)(v:MI O key (a.toList++b.toList) out.toList (a.toList.drop ia) (b.toList.drop ib))(ha:ia+1<a.size)(hb:ib<b.size)(hn:n≤ia+ib)
  (hy:∀y,b[ib]? =some y→∀x∈a.toList.drop ia,LE O key y x):wpS M A E s (qM a b mg ac bc ib out ia) (λr ag=>GS br ag∧Out O key a b n r) st:=by
 unfold qM;obtain ⟨y,ey,my,_⟩:=aY (xs:=b) (i:=ib) hb;refine wpS_bind (aQ ey ?_);have v':=IV.qS v ey (hy y ey);dsimp only
 by_cases h1:ib+1=b.size
 ·rw [if_pos (by simpa using h1)]
  exact wpS_pure ⟨g, .inl ⟨_,rfl,IV.qy v' h1⟩⟩
 ·rw [if_neg (by simpa using h1)]
  obtain ⟨x,ex,mx,lx⟩:=aY (xs:=a) (i:=ia) (by omega)
  refine wpS_bind (aQ ex ?_)
  have xle:∀z∈a.toList.drop ia,LE O key x z:=λz hz=>by
   obtain ⟨j,_,ej⟩:=fo hz;exact eW T.sa (by omega) lx ej
  have zb:∀j z,ib+1+j<b.size→b.toList[ib+1+j]? =some z→b[ib+1+j]?.getD (Value.none,Value.none)=z:=λj z hj e=>by rw [iY e];rfl
  refine wpS_bind (fD C (mS T.mb (i:=ib+1) (n:=b.size-(ib+1)) (by omega)) (T.ma x mx) hk (by omega) (λi j cR hj h=>?_) λp hp pt pf=>?_)
  ·obtain ⟨yi,e1,_,l1⟩:=aY (xs:=b) (i:=ib+1+i) (by omega)
   obtain ⟨yj,e2,_,l2⟩:=aY (xs:=b) (i:=ib+1+j) (by omega)
   unfold cQ at h ⊢;rw [if_pos rfl] at h ⊢;rw [e2] at h;rw [e1];exact KeyOrd.klt_of_kle_of_klt (eW T.sb (by omega) l1 l2) h
  ·have lo:∀y∈(b.toList.drop (ib+1)).take p,∀x∈a.toList.drop ia,LE O key y x:=λz hz u hu=>by
    obtain ⟨j,hj,hl,ej⟩:=dk hz;rw [bW] at hl
    have:=pt j hj
    unfold cQ at this;rw [if_pos rfl,zb j z hl ej] at this;exact KeyOrd.kle_trans (KeyOrd.kle_of_klt this) (xle u hu)
   have hi:∀x',a[ia]? =some x'→∀y∈b.toList.drop (ib+1+p),LE O key x' y:=λx' m6 z hz=>by
    rw [ex] at m6;cases m6;obtain ⟨j,hl,ej⟩:=fo hz;rw [bW] at hl
    have:=pf (p+j) (by omega) (by omega)
    unfold cQ at this;rw [if_pos rfl,zb (p+j) z (by omega) (by rw [←ej];congr 1;omega)] at this
    exact this
   dsimp only
   by_cases ua:p>0
   ·rw [if_pos ua]
    have v2:=IV.j3 v' lo
    by_cases h2:ib+1+p=b.size
    ·rw [if_pos (by simpa using h2)]
     exact wpS_pure ⟨g, .inl ⟨_,rfl,IV.qy v2 h2⟩⟩
    ·rw [if_neg (by simpa using h2)]
     exact vc T g v2 ha (by omega) (by omega) hi
   ·rw [if_neg ua]
    have:p=0:=by omega
    subst this;exact vc T g v' ha (by omega) (by omega) hi
theorem u7(C:fG O key S k0 M A E s)(hk:kindOf st=k0){n mg ac bc ia ib:Nat}{out:Array Keyed}(T:kL O key S a b)(g:GS br st)(iv:Inv O key a b n out ia ib):wpS M A E s (oj a b bc ac ia ib out mg) (λr ag=>GS br ag∧Out O key a b n r) st:=by
 obtain ⟨v,ha,hb,hn⟩:=iv;unfold oj;refine wpS_bind (mU λyO g1=>?_);have vE:kindOf yO=k0:=g1.kind.trans hk;have g':=g.trans g1;obtain ⟨y,ey,my,ly⟩:=aY (xs:=b) (i:=ib) hb;refine wpS_bind (aQ ey ?_)
 have yle:∀z∈b.toList.drop ib,LE O key y z:=λz hz=>by
  obtain ⟨j,_,ej⟩:=fo hz;exact eW T.sb (by omega) ly ej
 have m8:∀j z,ia+j<a.size→a.toList[ia+j]? =some z→a[ia+j]?.getD (Value.none,Value.none)=z:=λj z hj e=>by rw [iY e];rfl
 refine wpS_bind (fD C (mS T.ma (i:=ia) (n:=a.size-ia) (by omega)) (T.mb y my) vE (by omega) (λi j cR hj h=>?_) λp hp pt pf=>?_)
 ·obtain ⟨xi,e1,_,l1⟩:=aY (xs:=a) (i:=ia+i) (by omega)
  obtain ⟨xj,e2,_,l2⟩:=aY (xs:=a) (i:=ia+j) (by omega)
  unfold cQ at h ⊢;rw [if_neg (by decide)] at h ⊢
  rw [e2] at h;rw [e1];have h':O.kle (key xj) (key y):=by unfold KeyOrd.kle;simpa using h
  have:=KeyOrd.kle_trans (eW T.sa (by omega) l1 l2) h'
  unfold KeyOrd.kle at this;simpa using this
 ·have lo:∀x∈(a.toList.drop ia).take p,∀y∈b.toList.drop ib,LE O key x y:=λz hz u hu=>by
   obtain ⟨j,hj,hl,ej⟩:=dk hz;rw [bW] at hl
   have:=pt j hj
   unfold cQ at this;rw [if_neg (by decide),m8 j z hl ej] at this
   have h':O.kle (key z) (key y):=by unfold KeyOrd.kle;simpa using this
   exact KeyOrd.kle_trans h' (yle u hu)
  have hi:∀y',b[ib]? =some y'→∀x∈a.toList.drop (ia+p),LE O key y' x:=λy' kY z hz=>by
   rw [ey] at kY;cases kY;obtain ⟨j,hl,ej⟩:=fo hz;rw [bW] at hl
   have:=pf (p+j) (by omega) (by omega)
   unfold cQ at this;rw [if_neg (by decide),m8 (p+j) z (by omega) (by rw [←ej];congr 1;omega)] at this
   exact KeyOrd.kle_of_klt (show O.blt _ _=true by simpa using this)
  dsimp only
  by_cases ua:p>0
  ·rw [if_pos ua]
   have v2:=IV.j2 v lo
   by_cases h2:ia+p+1=a.size
   ·rw [if_pos (by simpa using h2)]
    exact wpS_pure ⟨g', .inl ⟨_,rfl,IV.last T v2 h2⟩⟩
   ·rw [if_neg (by simpa using h2)]
    by_cases h3:ia+p=a.size
    ·rw [if_pos (by simpa using h3)]
     exact wpS_pure ⟨g', .inl ⟨_,rfl,IV.qx v2 h3⟩⟩
    ·rw [if_neg (by simpa using h3)]
     exact u9 C vE T g' v2 (by omega) hb (by omega) hi
  ·rw [if_neg ua]
   have:p=0:=by omega
   subst this;exact u9 C vE T g' v ha hb hn hi
theorem CP(C:fG O key S k0 M A E s)(hk:kindOf st=k0){n:Nat}(T:kL O key S a b)(g:GS br st)(c:Option (Array Keyed)×Array Keyed×Nat×Nat×Nat×Nat×Nat)(iv:Inv O key a b n c.2.1 c.2.2.1 c.2.2.2.1):
  wpS M A E s (yn a b c) (λr ag=>GS br ag∧Out O key a b n r) st:=by
 unfold yn
 by_cases h:c.2.2.2.2.1>1
 ·rw [if_pos h];exact u7 C hk T g iv
 ·rw [if_neg h];exact u7 C hk T g iv
theorem CO(C:fG O key S k0 M A E s)(hk:kindOf st=k0){n mg:Nat}(T:kL O key S a b)(g:GS br st)(c:Option (Array Keyed)×Array Keyed×Nat×Nat×Nat×Nat)(iv:Inv O key a b n c.2.1 c.2.2.1 c.2.2.2.1):
  wpS M A E s (ym a b mg c) (λr ag=>GS br ag∧Out O key a b (n+1) r) st:=by
 obtain ⟨c1,out,ia,ib,ac,bc⟩:=c;obtain ⟨v,ha,hb,hn⟩:=iv;dsimp only at v ha hb hn;unfold ym;dsimp only;obtain ⟨y,ey,my,ly⟩:=aY (xs:=b) (i:=ib) hb;obtain ⟨x,ex,mx,lx⟩:=aY (xs:=a) (i:=ia) (by omega)
 refine wpS_bind (aQ ey (wpS_bind (aQ ex (wpS_bind (C _ _ _ _ (T.mb y my) (T.ma x mx) hk ?_)))));cases e:O.blt (key y) (key x) with
 |true=>
  dsimp only;rw [if_pos rfl];refine wpS_bind (aQ ey ?_)
  have v':=IV.qS v ey λz hz=>by
   obtain ⟨j,_,ej⟩:=fo hz;exact KeyOrd.kle_trans (KeyOrd.kle_of_klt e) (eW T.sa (by omega) lx ej)
  by_cases h1:ib+1=b.size
  ·rw [if_pos (by simpa using h1)]
   exact wpS_pure ⟨g, .inl ⟨_,rfl,IV.qy v' h1⟩⟩
  ·rw [if_neg (by simpa using h1)]
   have iv:Inv O key a b (n+1) (out.push y) ia (ib+1):=⟨v',by omega,by omega,by omega⟩
   by_cases h2:bc+1≥mg
   ·rw [if_pos h2];exact wpS_pure ⟨g, .inr ⟨rfl,iv⟩⟩
   ·rw [if_neg h2];exact wpS_pure ⟨g,rfl,iv⟩
 |false=>
  dsimp only;rw [if_neg (by decide)]
  refine wpS_bind (aQ ex ?_)
  have v':=IV.qR v ex λz hz=>by
   obtain ⟨j,_,ej⟩:=fo hz;exact KeyOrd.kle_trans e (eW T.sb (by omega) ly ej)
  by_cases h1:ia+1+1=a.size
  ·rw [if_pos (by simpa using h1)]
   exact wpS_pure ⟨g, .inl ⟨_,rfl,IV.last T v' h1⟩⟩
  ·rw [if_neg (by simpa using h1)]
   have iv:Inv O key a b (n+1) (out.push x) (ia+1) ib:=⟨v',by omega,by omega,by omega⟩
   by_cases h2:ac+1≥mg
   ·rw [if_pos h2];exact wpS_pure ⟨g, .inr ⟨rfl,iv⟩⟩
   ·rw [if_neg h2];exact wpS_pure ⟨g,rfl,iv⟩
theorem Inv.le{n m:Nat}{out:Array Keyed}{ia ib:Nat}(h:Inv O key a b n out ia ib)(hm:m≤n):Inv O key a b m out ia ib:=⟨h.1,h.2.1,h.2.2.1,jP hm h.2.2.2⟩
theorem yV(C:fG O key S k0 M A E s)(hk:kindOf st=k0){n:Nat}(T:kL O key S a b)(g:GS br st)(sv:kindOf br=k0)(c:Option (Array Keyed)×Array Keyed×Nat×Nat×Nat)(iv:Inv O key a b n c.2.1 c.2.2.1 c.2.2.2.1):
  wpS M A E s (pK a b c) (λr ag=>GS br ag∧PN O key a b (n+1) r) st:=by
 have Mq:0<a.size+b.size:=by have:=T.na;omega
 unfold pK;refine wpS_bind (wpS_mono (wpS_forRange (I:=λ(x:Nat)(c':Option (Array Keyed)×Array Keyed×Nat×Nat×Nat×Nat)(ag:SortSt)=>GS br ag∧c'.1=none∧Inv O key a b (n+min x 1) c'.2.1 c'.2.2.1 c'.2.2.2.1) (Q:=λc' ag=>GS br ag∧Fin O key a b (n+1) c') ?step ?fin ⟨g,rfl,iv.le (by omega)⟩) ?post)
 case fin=>
  rintro c' ag ⟨g',h1,h2⟩;exact ⟨g', .inr ⟨h1,h2.le (by omega)⟩⟩
 case step=>
  rintro x c' ag _ _ ⟨g',h1,h2⟩;refine wpS_mono (CO C (g'.kind.trans sv) T g' c' h2) λr cc ⟨kZ,o⟩=>?_;cases r with
  |done d=>
   refine ⟨kZ,?_⟩
   rcases o with o| ⟨o1,o2⟩
   ·exact .inl o
   ·exact .inr ⟨o1,o2.le (by omega)⟩
  |yield d=>exact ⟨kZ,o.1,o.2.le (by omega)⟩
 case post=>
  rintro ⟨t1,t2⟩ ag ⟨g',o⟩
  rcases o with ⟨r,e,res⟩ | ⟨e,OK⟩
  ·dsimp only at e
   subst e;exact wpS_pure ⟨g',r,rfl,res⟩
  ·dsimp only at e
   subst e;dsimp only;refine wpS_bind (wpS_lift (wpAny_rule ⟨rfl,?_⟩));refine wpS_bind (wpS_mono (wpS_forRange (I:=λ(x:Nat)(c':Option (Array Keyed)×Array Keyed×Nat×Nat×Nat×Nat×Nat)(ag:SortSt)=>GS br ag∧c'.1=none∧Inv O key a b (n+1) c'.2.1 c'.2.2.1 c'.2.2.2.1) (Q:=λc' ag=>GS br ag∧Fin O key a b (n+1) c') ?step2 ?fin2 ⟨g',rfl,OK⟩) ?post2)
   case fin2=>
    rintro c' ag ⟨g',h1,h2⟩;exact ⟨g', .inr ⟨h1,h2⟩⟩
   case step2=>
    rintro x c' ag _ _ ⟨g',h1,h2⟩;refine wpS_mono (CP C (g'.kind.trans sv) T g' c' h2) λr cc ⟨kZ,o⟩=>?_;cases r with
    |done d=>exact ⟨kZ,o⟩
    |yield d=>exact ⟨kZ,o⟩
   case post2=>
    rintro ⟨u1,u2⟩ ag ⟨g',o⟩
    rcases o with ⟨r,e,res⟩ | ⟨e,HA⟩
    ·dsimp only at e
     subst e;exact wpS_pure ⟨g',r,rfl,res⟩
    ·dsimp only at e
     subst e;refine wpS_bind (mU λyO g1=>wpS_pure ⟨g'.trans g1,rfl,HA⟩)
theorem yY(C:fG O key S k0 M A E s)(hk:kindOf st=k0)(T:kL O key S a b){Q:Array Keyed→SortSt→Prop}(q:∀r ag,GS st ag→Res O key (a.toList++b.toList) r.toList→Q r ag):wpS M A E s (mK a b) Q st:=by
 rw [yr];refine wpS_bind (wpS_lift (wpAny_rule ⟨rfl,?_⟩));obtain ⟨y,ey,my,ly⟩:=aY (xs:=b) (i:=0) T.nb;refine wpS_bind (aQ ey ?_);have v0:MI O key (a.toList++b.toList) (#[]:Array Keyed).toList (a.toList.drop 0) (b.toList.drop 0):=⟨by simp,by simp,by simpa using T.sa,by simpa using T.sb,by simp⟩
 have v1:=IV.qS v0 ey (by simpa using T.first y ey)
 have e1:(#[]:Array Keyed).push y= #[y]:=rfl;rw [e1] at v1
 by_cases h1:1=b.size
 ·rw [if_pos (by simpa using h1)]
  exact wpS_pure (q _ _ (GS.refl _) (IV.qy v1 h1))
 ·rw [if_neg (by simpa using h1)]
  by_cases h2:0+1=a.size
  ·rw [if_pos (by simpa using h2)]
   exact wpS_pure (q _ _ (GS.refl _) (IV.last T v1 h2))
  ·rw [if_neg (by simpa using h2)]
   refine wpS_bind (wpS_get ?_);have na:=T.na;have nb:=T.nb;refine wpS_bind (wpS_mono (wpS_forRange (I:=λ(x:Nat)(c':Option (Array Keyed)×Array Keyed×Nat×Nat×Nat)(ag:SortSt)=>GS st ag∧c'.1=none∧Inv O key a b (x+1) c'.2.1 c'.2.2.1 c'.2.2.2.1) (Q:=λc' ag=>GS st ag∧∃r,c'.1=some r∧Res O key (a.toList++b.toList) r.toList) ?step ?fin ⟨GS.refl _,rfl,v1,by show 0+1<a.size;omega,by show 1<b.size;omega,by show 0+1≤0+1;omega⟩) ?post)
   case fin=>
    rintro c' ag ⟨g',h1,h2⟩
    have:=h2.2.2.2
    have:=h2.2.1
    have:=h2.2.2.1
    omega
   case step=>
    rintro x c' ag _ _ ⟨g',h1,h2⟩;refine wpS_mono (yV C (g'.kind.trans hk) T g' hk c' h2) λr cc ⟨kZ,o⟩=>?_;cases r with
    |done d=>exact ⟨kZ,o⟩
    |yield d=>exact ⟨kZ,o⟩
   case post=>
    rintro ⟨c1,c2⟩ ag ⟨g',r,e,res⟩;dsimp only at e;subst e;exact wpS_pure (q r ag g' res)
end
theorem vM(a b:Array Keyed):mJ a b=(do
 rule "list.sort.merge-hi"
 let total:=a.size+b.size
 let done (out:Array Keyed) (na nb:Nat):=a.extract 0 na++b.extract 0 nb++out.reverse
 let mG (out:Array Keyed) (na nb:Nat):=b.extract 0 nb++a.extract 0 na++out.reverse
 let mut na:=a.size-1
 let mut nb:=b.size
 let mut out:Array Keyed:= #[←elem' a na]
 if na==0 then return done out na nb
 if nb==1 then return mG out na nb
 let mut minGallop:=gallopOf (←get)
 for _ in [0:total] do
  let mut acount:=0
  let mut bcount:=0
  for _ in [0:total] do
   let some AY ←lt' (←elem' b (nb-1)) (←elem' a (na-1)) |return done out na nb
   if AY then
    na:=na-1;out:=out.push (←elem' a na);acount:=acount+1;bcount:=0
    if na==0 then return done out na nb
    if acount≥minGallop then break
   else
    nb:=nb-1;out:=out.push (←elem' b nb);bcount:=bcount+1;acount:=0
    if nb==1 then return mG out na nb
    if bcount≥minGallop then break
  rule "list.sort.gallop"
  minGallop:=minGallop+1
  for _ in [0:total] do
   if minGallop>1 then minGallop:=minGallop-1
   setMinGallop' minGallop
   let some at_ ←dH false (←elem' b (nb-1)) a 0 na (na-1) |return done out na nb
   let k:=na-at_
   acount:=k
   if k>0 then
    out:=out++(a.extract at_ na).reverse;na:=at_
    if na==0 then return done out na nb
   nb:=nb-1;out:=out.push (←elem' b nb)
   if nb==1 then return mG out na nb
   let some at_ ←dH true (←elem' a (na-1)) b 0 nb (nb-1) |return done out na nb
   let k:=nb-at_
   bcount:=k
   if k>0 then
    out:=out++(b.extract at_ nb).reverse;nb:=at_
    if nb==1 then return mG out na nb
    if nb==0 then return done out na nb
   na:=na-1;out:=out.push (←elem' a na)
   if na==0 then return done out na nb
   if acount<7&&bcount<7 then break
  minGallop:=minGallop+1
  setMinGallop' minGallop
 unsupported "internal:list.sort.merge-bound"):=rfl
abbrev S7:=Option (Array Keyed)×Nat×Nat×Array Keyed×Nat×Nat×Nat
abbrev S6:=Option (Array Keyed)×Nat×Nat×Array Keyed×Nat×Nat
abbrev S5:=Option (Array Keyed)×Nat×Nat×Array Keyed×Nat
def gO(a b out:Array Keyed)(na nb:Nat):Array Keyed:=a.extract 0 na++b.extract 0 nb++out.reverse
def mH(a b out:Array Keyed)(na nb:Nat):Array Keyed:=b.extract 0 nb++a.extract 0 na++out.reverse
def xT(a b:Array Keyed)(mg ac bc na:Nat)(out:Array Keyed)(nb:Nat):StateT SortSt Sem (ForInStep S7):=do
 let x ←elem' a (na-1)
 if (na-1==0)=true then pure (ForInStep.done (some (gO a b (out.push x) (na-1) nb),na-1,nb,out.push x,mg,ac,bc))
 else if (decide (ac<7)&&decide (bc<7))=true then pure (ForInStep.done (none,na-1,nb,out.push x,mg,ac,bc))
 else pure (ForInStep.yield (none,na-1,nb,out.push x,mg,ac,bc))
def qA(a b:Array Keyed)(mg ac bc nb:Nat)(out:Array Keyed)(na:Nat):StateT SortSt Sem (ForInStep S7):=do
 let y ←elem' b (nb-1)
 if (nb-1==1)=true then pure (ForInStep.done (some (mH a b (out.push y) na (nb-1)),na,nb-1,out.push y,mg,ac,bc))
 else do
  let x ←elem' a (na-1)
  let __x ←dH true x b 0 (nb-1) (nb-1-1)
  match __x with
  |some p=>
   if nb-1-p>0 then
    if (p==1)=true then pure (ForInStep.done (some (mH a b (out.push y++(b.extract p (nb-1)).reverse) na p),na,p,out.push y++(b.extract p (nb-1)).reverse,mg,ac,nb-1-p))
    else if (p==0)=true then pure (ForInStep.done (some (gO a b (out.push y++(b.extract p (nb-1)).reverse) na p),na,p,out.push y++(b.extract p (nb-1)).reverse,mg,ac,nb-1-p))
    else xT a b mg ac (nb-1-p) na (out.push y++(b.extract p (nb-1)).reverse) p
   else xT a b mg ac (nb-1-p) na (out.push y) (nb-1)
  |_=>pure (ForInStep.done (some (gO a b (out.push y) na (nb-1)),na,nb-1,out.push y,mg,ac,bc))
def t5(a b:Array Keyed)(bc ac na nb:Nat)(out:Array Keyed)(mg:Nat):StateT SortSt Sem (ForInStep S7):=do
 setMinGallop' mg
 let y ←elem' b (nb-1)
 let __x ←dH false y a 0 na (na-1)
 match __x with
 |some p=>
  if na-p>0 then
   if (p==0)=true then pure (ForInStep.done (some (gO a b (out++(a.extract p na).reverse) p nb),p,nb,out++(a.extract p na).reverse,mg,na-p,bc))
   else qA a b mg (na-p) bc nb (out++(a.extract p na).reverse) p
  else qA a b mg (na-p) bc nb out na
 |_=>pure (ForInStep.done (some (gO a b out na nb),na,nb,out,mg,ac,bc))
def xV(a b:Array Keyed)(c:S7):StateT SortSt Sem (ForInStep S7):=
 if c.2.2.2.2.1>1 then t5 a b c.2.2.2.2.2.2 c.2.2.2.2.2.1 c.2.1 c.2.2.1 c.2.2.2.1 (c.2.2.2.2.1-1) else t5 a b c.2.2.2.2.2.2 c.2.2.2.2.2.1 c.2.1 c.2.2.1 c.2.2.2.1 c.2.2.2.2.1
def xU(a b:Array Keyed)(mg:Nat)(c:S6):StateT SortSt Sem (ForInStep S6):=do
 let y ←elem' b (c.2.2.1-1)
 let x ←elem' a (c.2.1-1)
 let __x ←lt' y x
 match __x with
 |some AY=>
  if AY=true then do
   let x ←elem' a (c.2.1-1)
   if (c.2.1-1==0)=true then pure (ForInStep.done (some (gO a b (c.2.2.2.1.push x) (c.2.1-1) c.2.2.1),c.2.1-1,c.2.2.1,c.2.2.2.1.push x,c.2.2.2.2.1+1,0))
   else if c.2.2.2.2.1+1≥mg then pure (ForInStep.done (none,c.2.1-1,c.2.2.1,c.2.2.2.1.push x,c.2.2.2.2.1+1,0))
   else pure (ForInStep.yield (none,c.2.1-1,c.2.2.1,c.2.2.2.1.push x,c.2.2.2.2.1+1,0))
  else do
   let y ←elem' b (c.2.2.1-1)
   if (c.2.2.1-1==1)=true then pure (ForInStep.done (some (mH a b (c.2.2.2.1.push y) c.2.1 (c.2.2.1-1)),c.2.1,c.2.2.1-1,c.2.2.2.1.push y,0,c.2.2.2.2.2+1))
   else if c.2.2.2.2.2+1≥mg then pure (ForInStep.done (none,c.2.1,c.2.2.1-1,c.2.2.2.1.push y,0,c.2.2.2.2.2+1))
   else pure (ForInStep.yield (none,c.2.1,c.2.2.1-1,c.2.2.2.1.push y,0,c.2.2.2.2.2+1))
 |_=>pure (ForInStep.done (some (gO a b c.2.2.2.1 c.2.1 c.2.2.1),c.2.1,c.2.2.1,c.2.2.2.1,c.2.2.2.2.1,c.2.2.2.2.2))
def pq(a b:Array Keyed)(__s:S5):StateT SortSt Sem (ForInStep S5):=do
 let __t ←forIn [0:a.size+b.size] ((none,__s.2.1,__s.2.2.1,__s.2.2.2.1,0,0):S6) λ_ c=>xU a b __s.2.2.2.2 c
 match __t.1 with
 |some r=>pure (ForInStep.done (some r,__t.2.1,__t.2.2.1,__t.2.2.2.1,__s.2.2.2.2))
 |none=>do
  liftM (rule "list.sort.gallop")
  let __u ←forIn [0:a.size+b.size] ((none,__t.2.1,__t.2.2.1,__t.2.2.2.1,__s.2.2.2.2+1,__t.2.2.2.2.1,__t.2.2.2.2.2):S7) λ_ c=>xV a b c
  match __u.1 with
  |some r=>pure (ForInStep.done (some r,__u.2.1,__u.2.2.1,__u.2.2.2.1,__u.2.2.2.2.1))
  |none=>do
   setMinGallop' (__u.2.2.2.2.1+1)
   pure (ForInStep.yield (none,__u.2.1,__u.2.2.1,__u.2.2.2.1,__u.2.2.2.2.1+1))
theorem yq(a b:Array Keyed):mJ a b=(do
 liftM (rule "list.sort.merge-hi")
 let x ←elem' a (a.size-1)
 if (a.size-1==0)=true then pure (gO a b #[x] (a.size-1) b.size)
 else if (b.size==1)=true then pure (mH a b #[x] (a.size-1) b.size)
 else do
  let __do_lift ←get
  let __s ←forIn [0:a.size+b.size] ((none,a.size-1,b.size, #[x],gallopOf __do_lift):S5) λ_ c=>pq a b c
  match __s.1 with
  |some r=>pure r
  |none=>liftM (unsupported (α:=Array Keyed) "internal:list.sort.merge-bound")):=by
 rw [vM];dsimp only;refine cu rfl λ_=>cu rfl λy=>?_;refine congrArg (ite _ _) (congrArg (ite _ _) ?_);refine cu rfl λg=>cu (xQ λ_ c=>?_) λu=>?_
 ·unfold pq
  refine cu (xQ λ_ t=>?_) λt=>?_
  ·unfold xU
   refine cu rfl λ_=>cu rfl λ_=>cu rfl λz=>?_;cases z<;>rfl
  ·obtain ⟨t1,t2⟩:=t
   cases t1 with
   |some r=>rfl
   |none=>
    dsimp only;refine cu rfl λ_=>cu (xQ λ_ u=>?_) λu=>?_
    ·unfold xV
     refine dU (λ_=>?_) (λ_=>?_)
     all_goals
      unfold t5;refine cu rfl λ_=>cu rfl λ_=>cu rfl λz=>?_;cases z with
      |none=>rfl
      |some k=>
       dsimp only;refine dU (λ_=>?_) (λ_=>?_)
       ·refine dU (λ_=>rfl) (λ_=>?_)
        unfold qA;refine cu rfl λ_=>dU (λ_=>rfl) (λ_=>cu rfl λ_=>cu rfl λz=>?_);cases z with
        |none=>rfl
        |some k=>rfl
       ·unfold qA
        refine cu rfl λ_=>dU (λ_=>rfl) (λ_=>cu rfl λ_=>cu rfl λz=>?_);cases z with
        |none=>rfl
        |some k=>rfl
    ·obtain ⟨u1,u2⟩:=u
     cases u1<;>rfl
 ·obtain ⟨u1,u2⟩:=u
  cases u1<;>rfl
def Mc(O:KeyOrd):KeyOrd:={α:=O.α,blt:=λa b=>O.blt b a,irrefl:=O.irrefl,trans:=λa b c h1 h2=>O.trans _ _ _ h2 h1,negTrans:=λa b c h=>(O.negTrans c b a h).symm,total:=λa b h1 h2=>O.total a b h2 h1}
section
variable {O:KeyOrd} {key:Keyed→O.α} {S:Keyed→Prop} {k0:SortKind} {M:Model} {A:Around} {E:Value→Shared→Prop} {s:Shared} {st br:SortSt} {a b:Array Keyed}
abbrev MJ(O:KeyOrd)(key:Keyed→O.α)(a b out:Array Keyed)(na nb:Nat):Prop:=MI (Mc O) key (a.toList++b.toList) out.toList (a.toList.take na).reverse (b.toList.take nb).reverse
theorem qT{l r:List Keyed}(h:Res (Mc O) key l r.reverse):Res O key l r:=
 ⟨(List.reverse_perm r).symm.trans h.1,by
   have:=List.pairwise_reverse.mp h.2
   exact this.imp λh=>h⟩
theorem wj(xs:Array Keyed)(n:Nat):(xs.extract 0 n).toList=xs.toList.take n:=by rw [ext_toList];simp
theorem xb{xs:Array Keyed}{n:Nat}{x:Keyed}(hn:1≤n)(h:xs[n-1]? =some x):(xs.toList.take n).reverse=x::(xs.toList.take (n-1)).reverse:=by
 have h':=jD h;obtain ⟨bq,e⟩:=bV.mp h'
 have:xs.toList.take n=xs.toList.take (n-1)++ [x]:=by
  have:=Js bq
  rw [show n-1+1=n by omega,e] at this
  exact this
 rw [this,vn];rfl
theorem lW(l:List Keyed){p n:Nat}(h:p≤n):l.take n=l.take p++(l.drop p).take (n-p):=by
 conv=>lhs;rw [←nH p (l.take n)]
 rw [List.take_take,show min p n=p by omega,List.drop_take]
theorem fq{l:List Keyed}{n:Nat}{x:Keyed}(h:x∈l.take n):∃j,j<n∧j<l.length∧l[j]? =some x:=by
 have:=dk (l:=l) (i:=0) (k:=n) (x:=x) (by simpa using h)
 obtain ⟨j,h1,h2,h3⟩:=this;exact ⟨j,h1,by simpa using h2,by simpa using h3⟩
theorem MJ.qR{out:Array Keyed}{na nb:Nat}{x:Keyed}(v:MJ O key a b out na nb)(hn:1≤na)(hx:a[na-1]? =some x)(h:∀y∈b.toList.take nb,LE O key y x):MJ O key a b (out.push x) (na-1) nb:=by
 unfold MJ at v ⊢;rw [xb hn hx] at v;rw [xm];exact MI.j2 (xs:= [x]) v λz hz y hy=>by rw [je.mp hz];exact h y (sh.mp hy)
theorem MJ.qS{out:Array Keyed}{na nb:Nat}{y:Keyed}(v:MJ O key a b out na nb)(hn:1≤nb)(hy:b[nb-1]? =some y)(h:∀x∈a.toList.take na,LE O key x y):MJ O key a b (out.push y) na (nb-1):=by
 unfold MJ at v ⊢;rw [xb hn hy] at v;rw [xm];exact MI.j3 (xs:= [y]) v λz hz x hx=>by rw [je.mp hz];exact h x (sh.mp hx)
theorem MJ.j2{out:Array Keyed}{na nb p:Nat}(v:MJ O key a b out na nb)(hp:p≤na)(h:∀x∈(a.toList.drop p).take (na-p),∀y∈b.toList.take nb,LE O key y x):MJ O key a b (out++(a.extract p na).reverse) p nb:=by
 unfold MJ at v ⊢;rw [lW a.toList hp,vn] at v;rw [g7,AL,ext_toList];exact MI.j2 v λx hx y hy=>h x (sh.mp hx) y (sh.mp hy)
theorem MJ.j3{out:Array Keyed}{na nb p:Nat}(v:MJ O key a b out na nb)(hp:p≤nb)(h:∀y∈(b.toList.drop p).take (nb-p),∀x∈a.toList.take na,LE O key x y):MJ O key a b (out++(b.extract p nb).reverse) na p:=by
 unfold MJ at v ⊢;rw [lW b.toList hp,vn] at v;rw [g7,AL,ext_toList];exact MI.j3 v λx hx y hy=>h x (sh.mp hx) y (sh.mp hy)
theorem MJ.qx{out:Array Keyed}{nb:Nat}(v:MJ O key a b out 0 nb):Res O key (a.toList++b.toList) (gO a b out 0 nb).toList:=by
 refine qT ?_;unfold gO MJ at*;rw [g7,g7,wj,wj,AL,xt,xr,vn,List.reverse_reverse];rw [xt,List.reverse_nil] at v;exact v.swap.zu
theorem MJ.qy{out:Array Keyed}{na:Nat}(v:MJ O key a b out na 0):Res O key (a.toList++b.toList) (gO a b out na 0).toList:=by
 refine qT ?_;unfold gO MJ at*;rw [g7,g7,wj,wj,AL,xt,jh,vn,List.reverse_reverse];rw [xt,List.reverse_nil] at v;exact v.zu
theorem MJ.first(T:kL O key S a b){out:Array Keyed}{na:Nat}(v:MJ O key a b out na 1):Res O key (a.toList++b.toList) (mH a b out na 1).toList:=by
 refine qT ?_;have h:=v.swap.yf λx hx y hy=>?_
 ·unfold mH
  rw [g7,g7,wj,wj,AL,vn,List.reverse_reverse,vn,←nI];exact h
 ·obtain ⟨j,h1,_,e⟩:=fq (sh.mp hy)
  have:j=0:=by omega
  subst this;exact T.first y (iY e) x (List.mem_of_mem_take (sh.mp hx))
def mV(O:KeyOrd)(key:Keyed→O.α)(a b:Array Keyed)(n:Nat)(na nb:Nat)(out:Array Keyed):Prop:=MJ O key a b out na nb∧1≤na∧na≤a.size∧2≤nb∧nb≤b.size∧n+na+nb≤a.size+b.size
def MY{ρ:Type}(O:KeyOrd)(key:Keyed→O.α)(a b:Array Keyed)(n:Nat)(c:Option (Array Keyed)×Nat×Nat×Array Keyed×ρ):Prop:=
 (∃r,c.1=some r∧Res O key (a.toList++b.toList) r.toList)∨(c.1=none∧mV O key a b n c.2.1 c.2.2.1 c.2.2.2.1)
def FK{ρ:Type}(O:KeyOrd)(key:Keyed→O.α)(a b:Array Keyed)(n:Nat)(r:ForInStep (Option (Array Keyed)×Nat×Nat×Array Keyed×ρ)):Prop:=match r with
 | .done c=>MY O key a b n c
 | .yield c=>c.1=none∧mV O key a b n c.2.1 c.2.2.1 c.2.2.2.1
def PL{ρ:Type}(O:KeyOrd)(key:Keyed→O.α)(a b:Array Keyed)(n:Nat)(r:ForInStep (Option (Array Keyed)×Nat×Nat×Array Keyed×ρ)):Prop:=match r with
 | .done c=>∃r,c.1=some r∧Res O key (a.toList++b.toList) r.toList
 | .yield c=>c.1=none∧mV O key a b n c.2.1 c.2.2.1 c.2.2.2.1
theorem u6{n mg ac bc na nb:Nat}{out:Array Keyed}(g:GS br st)(v:MJ O key a b out na nb)(h1:1≤na)(h2:na≤a.size)(h3:2≤nb)(h4:nb≤b.size)(hn:n+na+nb≤a.size+b.size)
  (hx:∀x,a[na-1]? =some x→∀y∈b.toList.take nb,LE O key y x):wpS M A E s (xT a b mg ac bc na out nb) (λr ag=>GS br ag∧FK O key a b n r) st:=by
 unfold xT;obtain ⟨x,ex,mx,_⟩:=aY (xs:=a) (i:=na-1) (by omega)
 refine wpS_bind (aQ ex ?_);have v':=MJ.qR v h1 ex (hx x ex)
 by_cases e:na-1=0
 ·rw [if_pos (by simpa using e)]
  rw [e] at v' ⊢;exact wpS_pure ⟨g, .inl ⟨_,rfl,v'.qx⟩⟩
 ·rw [if_neg (by simpa using e)]
  have iv:mV O key a b n (na-1) nb (out.push x):=⟨v',by omega,by omega,h3,h4,by omega⟩
  by_cases h2:(decide (ac<7)&&decide (bc<7))=true
  ·rw [if_pos h2]
   exact wpS_pure ⟨g, .inr ⟨rfl,iv⟩⟩
  ·rw [if_neg h2]
   exact wpS_pure ⟨g,rfl,iv⟩
theorem u5(C:fG O key S k0 M A E s)(hk:kindOf st=k0){n mg ac bc na nb:Nat}{out:Array Keyed}(T:kL O key S a b)(g:GS br st)(v:MJ O key a b out na nb)(h1:1≤na)(h2:na≤a.size)(h3:2≤nb)(h4:nb≤b.size)(hn:n+na+nb≤a.size+b.size)
  (hy:∀y,b[nb-1]? =some y→∀x∈a.toList.take na,LE O key x y):wpS M A E s (qA a b mg ac bc nb out na) (λr ag=>GS br ag∧FK O key a b n r) st:=by
 unfold qA;obtain ⟨y,ey,my,_⟩:=aY (xs:=b) (i:=nb-1) (by omega)
 refine wpS_bind (aQ ey ?_);have v':=MJ.qS v (by omega) ey (hy y ey)
 by_cases e:nb-1=1
 ·rw [if_pos (by simpa using e)]
  rw [e] at v' ⊢;exact wpS_pure ⟨g, .inl ⟨_,rfl,MJ.first T v'⟩⟩
 ·rw [if_neg (by simpa using e)]
  obtain ⟨x,ex,mx,lx⟩:=aY (xs:=a) (i:=na-1) (by omega)
  refine wpS_bind (aQ ex ?_)
  have xge:∀z∈a.toList.take na,LE O key z x:=λz hz=>by
   obtain ⟨j,hj,_,ej⟩:=fq hz;exact eW T.sa (by omega) ej lx
  have zb:∀j z,b.toList[j]? =some z→b[0+j]?.getD (Value.none,Value.none)=z:=λj z e=>by rw [ql,iY e];rfl
  refine wpS_bind (fD C (mS T.mb (i:=0) (n:=nb-1) (by omega)) (T.ma x mx) hk (by omega) (λi j cR hj h=>?_) λp hp pt pf=>?_)
  ·obtain ⟨yi,e1,_,l1⟩:=aY (xs:=b) (i:=0+i) (by omega)
   obtain ⟨yj,e2,_,l2⟩:=aY (xs:=b) (i:=0+j) (by omega)
   unfold cQ at h ⊢;rw [if_pos rfl] at h ⊢;rw [e2] at h;rw [e1];exact KeyOrd.klt_of_kle_of_klt (eW T.sb (by omega) l1 l2) h
  ·have hi:∀y∈(b.toList.drop p).take (nb-1-p),∀x∈a.toList.take na,LE O key x y:=λz hz u hu=>by
    obtain ⟨j,hj,hl,ej⟩:=dk hz
    have:=pf (p+j) (by omega) (by omega)
    unfold cQ at this;rw [if_pos rfl,zb (p+j) z ej] at this;exact KeyOrd.kle_trans (xge u hu) this
   have lo:∀x',a[na-1]? =some x'→∀y∈b.toList.take p,LE O key y x':=λx' m6 z hz=>by
    rw [ex] at m6;cases m6;obtain ⟨j,hj,_,ej⟩:=fq hz
    have:=pt j hj
    unfold cQ at this;rw [if_pos rfl,zb j z ej] at this;exact KeyOrd.kle_of_klt this
   dsimp only
   by_cases ua:nb-1-p>0
   ·rw [if_pos ua]
    have v2:=MJ.j3 v' hp hi
    by_cases e1:p=1
    ·rw [if_pos (by simpa using e1)]
     subst e1;exact wpS_pure ⟨g, .inl ⟨_,rfl,MJ.first T v2⟩⟩
    ·rw [if_neg (by simpa using e1)]
     by_cases e2:p=0
     ·rw [if_pos (by simpa using e2)]
      subst e2;exact wpS_pure ⟨g, .inl ⟨_,rfl,v2.qy⟩⟩
     ·rw [if_neg (by simpa using e2)]
      exact u6 g v2 h1 h2 (by omega) (by omega) (by omega) lo
   ·rw [if_neg ua]
    have:p=nb-1:=by omega
    subst this;exact u6 g v' h1 h2 (by omega) (by omega) (by omega) lo
theorem u4(C:fG O key S k0 M A E s)(hk:kindOf st=k0){n mg ac bc na nb:Nat}{out:Array Keyed}(T:kL O key S a b)(g:GS br st)(iv:mV O key a b n na nb out):wpS M A E s (t5 a b bc ac na nb out mg) (λr ag=>GS br ag∧FK O key a b n r) st:=by
 obtain ⟨v,h1,h2,h3,h4,hn⟩:=iv;unfold t5;refine wpS_bind (mU λyO g1=>?_);have vE:kindOf yO=k0:=g1.kind.trans hk;have g':=g.trans g1;obtain ⟨y,ey,my,ly⟩:=aY (xs:=b) (i:=nb-1) (by omega)
 refine wpS_bind (aQ ey ?_)
 have yge:∀z∈b.toList.take nb,LE O key z y:=λz hz=>by
  obtain ⟨j,hj,_,ej⟩:=fq hz;exact eW T.sb (by omega) ej ly
 have m8:∀j z,a.toList[j]? =some z→a[0+j]?.getD (Value.none,Value.none)=z:=λj z e=>by rw [ql,iY e];rfl
 refine wpS_bind (fD C (mS T.ma (i:=0) (n:=na) (by omega)) (T.mb y my) vE (by omega) (λi j cR hj h=>?_) λp hp pt pf=>?_)
 ·obtain ⟨xi,e1,_,l1⟩:=aY (xs:=a) (i:=0+i) (by omega)
  obtain ⟨xj,e2,_,l2⟩:=aY (xs:=a) (i:=0+j) (by omega)
  unfold cQ at h ⊢;rw [if_neg (by decide)] at h ⊢
  rw [e2] at h;rw [e1];have h':O.kle (key xj) (key y):=by unfold KeyOrd.kle;simpa using h
  have:=KeyOrd.kle_trans (eW T.sa (by omega) l1 l2) h'
  unfold KeyOrd.kle at this;simpa using this
 ·have hi:∀x∈(a.toList.drop p).take (na-p),∀y∈b.toList.take nb,LE O key y x:=λz hz u hu=>by
   obtain ⟨j,hj,hl,ej⟩:=dk hz
   have:=pf (p+j) (by omega) (by omega)
   unfold cQ at this;rw [if_neg (by decide),m8 (p+j) z ej] at this
   exact KeyOrd.kle_trans (yge u hu) (KeyOrd.kle_of_klt (show O.blt _ _=true by simpa using this))
  have lo:∀y',b[nb-1]? =some y'→∀x∈a.toList.take p,LE O key x y':=λy' kY z hz=>by
   rw [ey] at kY;cases kY;obtain ⟨j,hj,_,ej⟩:=fq hz
   have:=pt j hj
   unfold cQ at this;rw [if_neg (by decide),m8 j z ej] at this
   show O.blt _ _=false;simpa using this
  dsimp only
  by_cases ua:na-p>0
  ·rw [if_pos ua]
   have v2:=MJ.j2 v hp hi
   by_cases e1:p=0
   ·rw [if_pos (by simpa using e1)]
    subst e1;exact wpS_pure ⟨g', .inl ⟨_,rfl,v2.qx⟩⟩
   ·rw [if_neg (by simpa using e1)]
    exact u5 C vE T g' v2 (by omega) (by omega) h3 h4 (by omega) lo
  ·rw [if_neg ua]
   have:p=na:=by omega
   subst this;exact u5 C vE T g' v h1 h2 h3 h4 hn lo
theorem CN(C:fG O key S k0 M A E s)(hk:kindOf st=k0){n:Nat}(T:kL O key S a b)(g:GS br st)(c:S7)(iv:mV O key a b n c.2.1 c.2.2.1 c.2.2.2.1):
  wpS M A E s (xV a b c) (λr ag=>GS br ag∧FK O key a b n r) st:=by
 unfold xV
 by_cases h:c.2.2.2.2.1>1
 ·rw [if_pos h];exact u4 C hk T g iv
 ·rw [if_neg h];exact u4 C hk T g iv
theorem CM(C:fG O key S k0 M A E s)(hk:kindOf st=k0){n mg:Nat}(T:kL O key S a b)(g:GS br st)(c:S6)(iv:mV O key a b n c.2.1 c.2.2.1 c.2.2.2.1):
  wpS M A E s (xU a b mg c) (λr ag=>GS br ag∧FK O key a b (n+1) r) st:=by
 obtain ⟨c1,na,nb,out,ac,bc⟩:=c;obtain ⟨v,h1,h2,h3,h4,hn⟩:=iv;dsimp only at v h1 h2 h3 h4 hn;unfold xU;dsimp only;obtain ⟨y,ey,my,ly⟩:=aY (xs:=b) (i:=nb-1) (by omega)
 obtain ⟨x,ex,mx,lx⟩:=aY (xs:=a) (i:=na-1) (by omega)
 refine wpS_bind (aQ ey (wpS_bind (aQ ex (wpS_bind (C _ _ _ _ (T.mb y my) (T.ma x mx) hk ?_)))));cases e:O.blt (key y) (key x) with
 |true=>
  dsimp only;rw [if_pos rfl];refine wpS_bind (aQ ex ?_)
  have v':=MJ.qR v h1 ex λz hz=>by
   obtain ⟨j,hj,_,ej⟩:=fq hz;exact KeyOrd.kle_trans (eW T.sb (by omega) ej ly) (KeyOrd.kle_of_klt e)
  by_cases e1:na-1=0
  ·rw [if_pos (by simpa using e1)]
   rw [e1] at v' ⊢;exact wpS_pure ⟨g, .inl ⟨_,rfl,v'.qx⟩⟩
  ·rw [if_neg (by simpa using e1)]
   have iv:mV O key a b (n+1) (na-1) nb (out.push x):=⟨v',by omega,by omega,h3,h4,by omega⟩
   by_cases h2:ac+1≥mg
   ·rw [if_pos h2];exact wpS_pure ⟨g, .inr ⟨rfl,iv⟩⟩
   ·rw [if_neg h2];exact wpS_pure ⟨g,rfl,iv⟩
 |false=>
  dsimp only;rw [if_neg (by decide)]
  refine wpS_bind (aQ ey ?_)
  have v':=MJ.qS v (by omega) ey λz hz=>by
   obtain ⟨j,hj,_,ej⟩:=fq hz;exact KeyOrd.kle_trans (eW T.sa (by omega) ej lx) e
  by_cases e1:nb-1=1
  ·rw [if_pos (by simpa using e1)]
   rw [e1] at v' ⊢;exact wpS_pure ⟨g, .inl ⟨_,rfl,MJ.first T v'⟩⟩
  ·rw [if_neg (by simpa using e1)]
   have iv:mV O key a b (n+1) na (nb-1) (out.push y):=⟨v',by omega,by omega,by omega,by omega,by omega⟩
   by_cases h2:bc+1≥mg
   ·rw [if_pos h2];exact wpS_pure ⟨g, .inr ⟨rfl,iv⟩⟩
   ·rw [if_neg h2];exact wpS_pure ⟨g,rfl,iv⟩
theorem mV.le{n m:Nat}{out:Array Keyed}{na nb:Nat}(h:mV O key a b n na nb out)(hm:m≤n):mV O key a b m na nb out:=⟨h.1,h.2.1,h.2.2.1,h.2.2.2.1,h.2.2.2.2.1,by have:=h.2.2.2.2.2;omega⟩
theorem yU(C:fG O key S k0 M A E s){n:Nat}(T:kL O key S a b)(g:GS br st)(sv:kindOf br=k0)(c:S5)(iv:mV O key a b n c.2.1 c.2.2.1 c.2.2.2.1):
  wpS M A E s (pq a b c) (λr ag=>GS br ag∧PL O key a b (n+1) r) st:=by
 have Mq:0<a.size+b.size:=by have:=T.na;omega
 unfold pq;refine wpS_bind (wpS_mono (wpS_forRange (I:=λ(x:Nat)(c':S6)(ag:SortSt)=>GS br ag∧c'.1=none∧mV O key a b (n+min x 1) c'.2.1 c'.2.2.1 c'.2.2.2.1) (Q:=λc' ag=>GS br ag∧MY O key a b (n+1) c') ?step ?fin ⟨g,rfl,iv.le (by omega)⟩) ?post)
 case fin=>
  rintro c' ag ⟨g',h1,h2⟩;exact ⟨g', .inr ⟨h1,h2.le (by omega)⟩⟩
 case step=>
  rintro x c' ag _ _ ⟨g',h1,h2⟩;refine wpS_mono (CM C (g'.kind.trans sv) T g' c' h2) λr cc ⟨kZ,o⟩=>?_;cases r with
  |done d=>
   refine ⟨kZ,?_⟩
   rcases o with o| ⟨o1,o2⟩
   ·exact .inl o
   ·exact .inr ⟨o1,o2.le (by omega)⟩
  |yield d=>exact ⟨kZ,o.1,o.2.le (by omega)⟩
 case post=>
  rintro ⟨t1,t2⟩ ag ⟨g',o⟩
  rcases o with ⟨r,e,res⟩ | ⟨e,OK⟩
  ·dsimp only at e
   subst e;exact wpS_pure ⟨g',r,rfl,res⟩
  ·dsimp only at e
   subst e;dsimp only;refine wpS_bind (wpS_lift (wpAny_rule ⟨rfl,?_⟩));refine wpS_bind (wpS_mono (wpS_forRange (I:=λ(x:Nat)(c':S7)(ag:SortSt)=>GS br ag∧c'.1=none∧mV O key a b (n+1) c'.2.1 c'.2.2.1 c'.2.2.2.1) (Q:=λc' ag=>GS br ag∧MY O key a b (n+1) c') ?step2 ?fin2 ⟨g',rfl,OK⟩) ?post2)
   case fin2=>
    rintro c' ag ⟨g',h1,h2⟩;exact ⟨g', .inr ⟨h1,h2⟩⟩
   case step2=>
    rintro x c' ag _ _ ⟨g',h1,h2⟩;refine wpS_mono (CN C (g'.kind.trans sv) T g' c' h2) λr cc ⟨kZ,o⟩=>?_;cases r with
    |done d=>exact ⟨kZ,o⟩
    |yield d=>exact ⟨kZ,o⟩
   case post2=>
    rintro ⟨u1,u2⟩ ag ⟨g',o⟩
    rcases o with ⟨r,e,res⟩ | ⟨e,HA⟩
    ·dsimp only at e
     subst e;exact wpS_pure ⟨g',r,rfl,res⟩
    ·dsimp only at e
     subst e;refine wpS_bind (mU λyO g1=>wpS_pure ⟨g'.trans g1,rfl,HA⟩)
theorem yX(C:fG O key S k0 M A E s)(hk:kindOf st=k0)(T:kL O key S a b){Q:Array Keyed→SortSt→Prop}(q:∀r ag,GS st ag→Res O key (a.toList++b.toList) r.toList→Q r ag):wpS M A E s (mJ a b) Q st:=by
 rw [yq];refine wpS_bind (wpS_lift (wpAny_rule ⟨rfl,?_⟩));have na:=T.na;have nb:=T.nb;obtain ⟨x,ex,mx,lx⟩:=aY (xs:=a) (i:=a.size-1) (by omega)
 refine wpS_bind (aQ ex ?_)
 have v0:MJ O key a b #[] a.size b.size:=by
  refine ⟨?_,by simp,?_,?_,by simp⟩
  ·rw [nG (by simp),nG (by simp)]
   simpa using (List.reverse_perm a.toList).append (List.reverse_perm b.toList)
  ·rw [nG (by simp)]
   exact List.pairwise_reverse.mpr (T.sa.imp λh=>h)
  ·rw [nG (by simp)]
   exact List.pairwise_reverse.mpr (T.sb.imp λh=>h)
 have v1:=MJ.qR v0 na ex λy hy=>T.last x ex y (List.mem_of_mem_take hy);have e1:(#[]:Array Keyed).push x= #[x]:=rfl;rw [e1] at v1
 by_cases h1:a.size-1=0
 ·rw [if_pos (by simpa using h1)]
  rw [h1] at v1 ⊢;exact wpS_pure (q _ _ (GS.refl _) v1.qx)
 ·rw [if_neg (by simpa using h1)]
  by_cases h2:b.size=1
  ·rw [if_pos (by simpa using h2)]
   rw [h2] at v1 ⊢;exact wpS_pure (q _ _ (GS.refl _) (MJ.first T v1))
  ·rw [if_neg (by simpa using h2)]
   refine wpS_bind (wpS_get ?_);refine wpS_bind (wpS_mono (wpS_forRange (I:=λ(x:Nat)(c':S5)(ag:SortSt)=>GS st ag∧c'.1=none∧mV O key a b (x+1) c'.2.1 c'.2.2.1 c'.2.2.2.1) (Q:=λc' ag=>GS st ag∧∃r,c'.1=some r∧Res O key (a.toList++b.toList) r.toList) ?step ?fin ⟨GS.refl _,rfl,v1,by show 1≤a.size-1;omega,by show a.size-1≤a.size;omega,by show 2≤b.size;omega,aT _,by show 0+1+(a.size-1)+b.size≤a.size+b.size;omega⟩) ?post)
   case fin=>
    rintro c' ag ⟨g',h1,h2⟩
    have:=h2.2.2.2.2.2
    have:=h2.2.1
    omega
   case step=>
    rintro x c' ag _ _ ⟨g',h1,h2⟩;refine wpS_mono (yU C T g' hk c' h2) λr cc ⟨kZ,o⟩=>?_;cases r with
    |done d=>exact ⟨kZ,o⟩
    |yield d=>exact ⟨kZ,o⟩
   case post=>
    rintro ⟨c1,c2⟩ ag ⟨g',r,e,res⟩;dsimp only at e;subst e;exact wpS_pure (q r ag g' res)
end
theorem yp(i:Nat):mergeAt' i=(do
 let s ←get
 let (some (sa,na,power),some (sb,nb,_)):=((pendingOf s)[i]?,(pendingOf s)[i+1]?) |unsupported "internal:list.sort.pending"
 set (setPending s (((pendingOf s).setIfInBounds i (sa,na+nb,power)).eraseIdxIfInBounds (i+1)))
 let some k ←dH false (←elem' (arrOf s) sb) (arrOf s) sa na 0|return false
 let (sa,na):=(sa+k,na-k)
 if na==0 then return true
 let some nb ←dH true (←elem' (arrOf s) (sa+na-1)) (arrOf s) sb nb (nb-1) |return false
 if nb==0 then return true
 let x:=(arrOf s).extract sa sb
 let y:=(arrOf s).extract sb (sb+nb)
 let merged ←if na≤nb then mK x y else mJ x y
 modify λs=>setArr s (merged.toList.zipIdx.foldl (λa (p,j)=>a.setIfInBounds (sa+j) p) (arrOf s))
 return (failedOf (←get)).isNone):=rfl
theorem nU:∀(m:List Keyed)(off b:Nat)(xs:Array Keyed),b+off+m.length≤xs.size→
  ((m.zipIdx off).foldl (λa (p:Keyed×Nat)=>a.setIfInBounds (b+p.2) p.1) xs).size=xs.size∧∀i,((m.zipIdx off).foldl (λa (p:Keyed×Nat)=>a.setIfInBounds (b+p.2) p.1) xs)[i]? =if b+off≤i∧i<b+off+m.length then m[i-(b+off)]? else xs[i]?
 | [],off,b,xs,_=>⟨rfl,λi=>by rw [if_neg (by simp)];rfl⟩
 |x::m,off,b,xs,h=>by
  rw [cx] at h;have ih:=nU m (off+1) b (xs.setIfInBounds (b+off) x) (by rw [Array.size_setIfInBounds];omega)
  rw [List.zipIdx_cons,List.foldl_cons];refine ⟨by rw [ih.1,Array.size_setIfInBounds],λi=>?_⟩
  rw [ih.2 i]
  by_cases h1:b+(off+1)≤i∧i<b+(off+1)+m.length
  ·rw [if_pos h1,if_pos (by rw [cx];omega),show i-(b+off)=(i-(b+(off+1)))+1 by omega,r6]
  ·rw [if_neg h1,Array.getElem?_setIfInBounds]
   by_cases h2:b+off=i
   ·rw [if_pos h2,if_pos (by omega),if_pos (by rw [cx];omega),←h2,qm];rfl
   ·rw [if_neg h2,if_neg (by rw [cx];omega)]
def putAt(xs m:Array Keyed)(b:Nat):Array Keyed:=m.toList.zipIdx.foldl (λa (p:Keyed×Nat)=>a.setIfInBounds (b+p.2) p.1) xs
theorem uF{xs m:Array Keyed}{b:Nat}(h:b+m.size≤xs.size)(i:Nat):(putAt xs m b)[i]? =if b≤i∧i<b+m.size then m[i-b]? else xs[i]? :=by
 have:=(nU m.toList 0 b xs (by simpa using h)).2 i
 unfold putAt;rw [this];simp
theorem Ae{xs m:Array Keyed}{b:Nat}(h:b+m.size≤xs.size):(putAt xs m b).size=xs.size:=(nU m.toList 0 b xs (by simpa using h)).1
theorem Ac{xs m:Array Keyed}{b:Nat}(h:b+m.size≤xs.size)(p:m.toList.Perm ((xs.toList.drop b).take m.size)):(putAt xs m b).Perm xs:=by
 rw [D8]
 have e:(putAt xs m b).toList=xs.toList.take b++(m.toList++xs.toList.drop (b+m.size)):=by
  apply xn;intro i;rw [eG,uF h,List.getElem?_append,List.getElem?_append,jg,bW,bW,List.getElem?_take,AN,eG,eG,eG]
  repeat' split
  all_goals first|rfl| (exfalso;omega) | (congr 1;omega)
 have e2:xs.toList=xs.toList.take b++((xs.toList.drop b).take m.size++xs.toList.drop (b+m.size)):=by
  conv=>lhs;rw [←nH b xs.toList,kU xs.toList b m.size]
 rw [e]
 conv=>rhs;rw [e2]
 exact List.Perm.append_left _ (p.append_right _)
section
variable {O:KeyOrd} {key:Keyed→O.α} {S:Keyed→Prop} {k0:SortKind} {prog:Program} {w:World} {A:Around} {E:Value→Shared→Prop} {s:Shared} {st br:SortSt}
theorem Jq{M:Model}{ag:SortSt}{Q:PUnit→SortSt→Prop}(h:Q ⟨⟩ ag):wpS M A E s (set ag:StateT SortSt Sem PUnit) Q st:=by
 unfold wpS;rw [StateT.run_set];exact wpAny_pure ⟨rfl,h⟩
theorem dW{xs:Array Keyed}{a b:Nat}(h:hV O key xs a b){i j:Nat}{x y:Keyed}(ha:a≤i)(cR:i≤j)(hj:j<b)(hx:xs[i]? =some x)(hy:xs[j]? =some y):LE O key x y:=by
 have:=h i j ha cR hj
 unfold ky at this;rw [hx,hy] at this;exact this
theorem yN{xs:Array Keyed}{a b:Nat}(hb:b≤xs.size)(h:∀i j x y,a≤i→i≤j→j<b→xs[i]? =some x→xs[j]? =some y→LE O key x y):hV O key xs a b:=λi j ha cR hj=>by
 obtain ⟨x,ex,_,_⟩:=aY (xs:=xs) (i:=i) (by omega)
 obtain ⟨y,ey,_,_⟩:=aY (xs:=xs) (i:=j) (by omega)
 unfold ky;rw [ex,ey];exact h i j x y ha cR hj ex ey
theorem ext_get{xs:Array Keyed}{a b i:Nat}(hb:b≤xs.size)(hi:i<b-a):(xs.extract a b)[i]? =xs[a+i]? :=by
 rw [Array.getElem?_extract,if_pos (by omega)]
theorem ext_mem{xs:Array Keyed}{a b:Nat}{x:Keyed}(h:x∈(xs.extract a b).toList):∃i,a≤i∧i<b∧i<xs.size∧xs[i]? =some x:=by
 rw [ext_toList] at h;obtain ⟨j,h1,h2,h3⟩:=dk h;rw [bW] at h2;exact ⟨a+j,by omega,by omega,h2,iY h3⟩
theorem Dm{xs:Array Keyed}{a b:Nat}(h:hV O key xs a b)(hb:b≤xs.size):(xs.extract a b).toList.Pairwise (LE O key):=by
 rw [vj];intro i j hi hj cR;have hs:(xs.extract a b).toList.length=b-a:=by rw [bW,xk];omega
 rw [hs] at hi hj;have gi:=ext_get (xs:=xs) (a:=a) hb hi;have gj:=ext_get (xs:=xs) (a:=a) hb hj;refine dW h (i:=a+i) (j:=a+j) (by omega) (by omega) (by omega) ?_ ?_
 ·rw [←gi,←eG];exact cN _
 ·rw [←gj,←eG];exact cN _
theorem yW(C:fG O key S k0 (model prog w) A E s){i sa na nb pw UX:Nat}{Q:Bool→SortSt→Prop}(o:Ok S k0 st)(hf:failedOf st=none)(p1:(pendingOf st)[i]? =some (sa,na,pw))(p2:(pendingOf st)[i+1]? =some (sa+na,nb,UX))(hna:1≤na)(J7:1≤nb)(fk:sa+na+nb≤(arrOf st).size)
  (s1:hV O key (arrOf st) sa (sa+na)) (s2:hV O key (arrOf st) (sa+na) (sa+na+nb))
  (q:∀ag,(arrOf ag).Perm (arrOf st)→kindOf ag=kindOf st→failedOf ag=none→pendingOf ag=((pendingOf st).setIfInBounds i (sa,na+nb,pw)).eraseIdxIfInBounds (i+1)→(∀j,j<sa∨sa+na+nb≤j→(arrOf ag)[j]? =(arrOf st)[j]?)→hV O key (arrOf ag) sa (sa+(na+nb))→Q true ag):
  wpS (model prog w) A E s (mergeAt' i) Q st:=by
 rw [yp];refine wpS_bind (wpS_get ?_);rw [p1,p2];dsimp only;refine wpS_bind (Jq ?_);generalize ((pendingOf st).setIfInBounds i (sa,na+nb,pw)).eraseIdxIfInBounds (i+1)=pn at q;have o':Ok S k0 (setPending st pn):=⟨o.mem,o.kind⟩;have mem:∀x∈(arrOf st).toList,S x:=o.mem;obtain ⟨b0,NJ,mb0,lb0⟩:=aY (xs:=arrOf st) (i:=sa+na) (by omega)
 refine wpS_bind (aQ NJ ?_);have m8:∀(j:Nat)(z:Keyed),(arrOf st)[j]? =some z→(arrOf st)[j]?.getD (Value.none,Value.none)=z:=λj z e=>by rw [e];rfl
 refine wpS_bind (fD C (mS mem (i:=sa) (n:=na) (by omega)) (mem b0 mb0) o'.kind (by omega) (λi j cR hj h=>?_) λk hk kt kf=>?_)
 ·obtain ⟨xi,e1,_,_⟩:=aY (xs:=arrOf st) (i:=sa+i) (by omega)
  obtain ⟨xj,e2,_,_⟩:=aY (xs:=arrOf st) (i:=sa+j) (by omega)
  unfold cQ at h ⊢;rw [if_neg (by decide)] at h ⊢
  rw [e2] at h;rw [e1];have h':O.kle (key xj) (key b0):=by unfold KeyOrd.kle;simpa using h
  have:=KeyOrd.kle_trans (dW s1 (by omega) (by omega) (by omega) e1 e2) h'
  unfold KeyOrd.kle at this;simpa using this
 have Tv:∀j x,sa≤j→j<sa+k→(arrOf st)[j]? =some x→LE O key x b0:=λj x h1 h2 e=>by
  have:=kt (j-sa) (by omega)
  unfold cQ at this;rw [if_neg (by decide),show sa+(j-sa)=j by omega,m8 j x e] at this
  show O.blt _ _=false;simpa using this
 have Z8:∀j x,sa+k≤j→j<sa+na→(arrOf st)[j]? =some x→LE O key b0 x:=λj x h1 h2 e=>by
  have:=kf (j-sa) (by omega) (by omega)
  unfold cQ at this;rw [if_neg (by decide),show sa+(j-sa)=j by omega,m8 j x e] at this
  exact KeyOrd.kle_of_klt (show O.blt _ _=true by simpa using this)
 dsimp only;have LP:∀j y,sa+na≤j→j<sa+na+nb→(arrOf st)[j]? =some y→LE O key b0 y:=λj y h1 h2 e=>dW s2 (by omega) h1 h2 NJ e
 by_cases e0:na-k=0
 ·rw [if_pos (by simpa using e0)]
  refine wpS_pure (q _ (.refl _) rfl hf rfl (λ_ _=>rfl) ?_);refine yN (by show sa+(na+nb)≤(arrOf st).size;omega) λi j x y h1 cR hj ex ey=>?_
  by_cases c1:j<sa+na
  ·exact dW s1 h1 cR c1 ex ey
  ·by_cases c2:i<sa+na
   ·exact KeyOrd.kle_trans (Tv i x h1 (by omega) ex) (LP j y (by omega) (by omega) ey)
   ·exact dW s2 (by omega) cR (by omega) ex ey
 rw [if_neg (by simpa using e0)]
 have Rl:sa+k+(na-k)-1=sa+na-1:=by omega
 obtain ⟨al,JS,mal,lal⟩:=aY (xs:=arrOf st) (i:=sa+k+(na-k)-1) (by omega)
 refine wpS_bind (aQ JS ?_);rw [Rl] at JS;refine wpS_bind (fD C (mS mem (i:=sa+na) (n:=nb) (by omega)) (mem al mal) o'.kind (by omega) (λi j cR hj h=>?_) λm hm mt mf=>?_)
 ·obtain ⟨yi,e1,_,_⟩:=aY (xs:=arrOf st) (i:=sa+na+i) (by omega)
  obtain ⟨yj,e2,_,_⟩:=aY (xs:=arrOf st) (i:=sa+na+j) (by omega)
  unfold cQ at h ⊢;rw [if_pos rfl] at h ⊢;rw [e2] at h;rw [e1];exact KeyOrd.klt_of_kle_of_klt (dW s2 (by omega) (by omega) (by omega) e1 e2) h
 have mlo:∀j y,sa+na≤j→j<sa+na+m→(arrOf st)[j]? =some y→LE O key y al:=λj y h1 h2 e=>by
  have:=mt (j-(sa+na)) (by omega)
  unfold cQ at this;rw [if_pos rfl,show sa+na+(j-(sa+na))=j by omega,m8 j y e] at this
  exact KeyOrd.kle_of_klt this
 have Tz:∀j y,sa+na+m≤j→j<sa+na+nb→(arrOf st)[j]? =some y→LE O key al y:=λj y h1 h2 e=>by
  have:=mf (j-(sa+na)) (by omega) (by omega)
  unfold cQ at this;rw [if_pos rfl,show sa+na+(j-(sa+na))=j by omega,m8 j y e] at this
  exact this
 have VQ:∀j x,sa≤j→j<sa+na→(arrOf st)[j]? =some x→LE O key x al:=λj x h1 h2 e=>dW s1 h1 (by omega) (by omega) e JS
 dsimp only
 by_cases e1:m=0
 ·rw [if_pos (by simpa using e1)]
  refine wpS_pure (q _ (.refl _) rfl hf rfl (λ_ _=>rfl) ?_);refine yN (by show sa+(na+nb)≤(arrOf st).size;omega) λi j x y h1 cR hj ex ey=>?_
  by_cases c1:j<sa+na
  ·exact dW s1 h1 cR c1 ex ey
  ·by_cases c2:i<sa+na
   ·exact KeyOrd.kle_trans (VQ i x h1 c2 ex) (Tz j y (by omega) (by omega) ey)
   ·exact dW s2 (by omega) cR (by omega) ex ey
 rw [if_neg (by simpa using e1)]
 have T:kL O key S ((arrOf st).extract (sa+k) (sa+na)) ((arrOf st).extract (sa+na) (sa+na+m)):=by
  refine ⟨λx hx=>?_,λx hx=>?_,Dm (λi j h1 h2 h3=>s1 i j (by omega) h2 h3) (by omega),Dm (λi j h1 h2 h3=>s2 i j h1 h2 (by omega)) (by omega),by rw [xk];omega,by rw [xk];omega,λy hy x hx=>?_,λx hx y hy=>?_⟩
  ·obtain ⟨i,_,_,_,e⟩:=ext_mem hx
   exact mem x (cT (jD e))
  ·obtain ⟨i,_,_,_,e⟩:=ext_mem hx
   exact mem x (cT (jD e))
  ·rw [ext_get (by omega) (by omega)] at hy
   have EX:(arrOf st)[sa+na]? =some y:=hy;rw [NJ] at EX;cases EX;obtain ⟨i,h1,h2,_,e⟩:=ext_mem hx;exact Z8 i x h1 h2 e
  ·have hsz2:((arrOf st).extract (sa+k) (sa+na)).size=na-k:=by rw [xk];omega
   rw [hsz2,ext_get (by omega) (by omega)] at hx
   rw [show sa+k+(na-k-1)=sa+na-1 by omega,JS] at hx;cases hx
   obtain ⟨i,h1,h2,_,e⟩:=ext_mem hy;exact mlo i y h1 h2 e
 have szx:((arrOf st).extract (sa+k) (sa+na)).size=na-k:=by rw [xk];omega
 have szy:((arrOf st).extract (sa+na) (sa+na+m)).size=m:=by rw [xk];omega
 have fin:∀(r:Array Keyed)(ag:SortSt),GS (setPending st pn) ag→Res O key (((arrOf st).extract (sa+k) (sa+na)).toList++((arrOf st).extract (sa+na) (sa+na+m)).toList) r.toList→
   wpS (model prog w) A E s (do
    modify λs=>setArr s (r.toList.zipIdx.foldl (λa (p,j)=>a.setIfInBounds (sa+k+j) p) (arrOf s))
    return (failedOf (←get)).isNone) Q ag:=by
  intro r ag g res;refine wpS_bind (wpS_modify (wpS_bind (wpS_get ?_)));have RX:failedOf ag=none:=g.failed.trans hf
  have hr:r.size=na-k+m:=by
   have:=res.1.length_eq
   rw [dE,bW,bW,bW,szx,szy] at this;exact this
  have hb:sa+k+r.size≤(arrOf ag).size:=by rw [g.arr];show _≤(arrOf st).size;omega
  have aad:(r.toList.zipIdx.foldl (λa (x:Keyed×Nat)=>match x with| (p,j)=>a.setIfInBounds (sa+k+j) p) (arrOf ag))=putAt (arrOf ag) r (sa+k):=rfl
  show wpS _ _ _ _ (pure (failedOf ag).isNone) Q (setArr ag (putAt (arrOf ag) r (sa+k)));rw [RX];have ga:arrOf ag=arrOf st:=g.arr;rw [ga] at hb ⊢;have Ds:=λi=>uF hb i;rw [hr] at Ds
  have Mx:∀j x,sa+k≤j→j<sa+na+m→(putAt (arrOf st) r (sa+k))[j]? =some x→∃i,sa+k≤i∧i<sa+na+m∧(arrOf st)[i]? =some x:=λj x h1 h2 e=>by
   rw [Ds,if_pos (by omega)] at e
   have hm:=res.1.mem_iff.mp (cT (jD e))
   rcases cM.mp hm with z|z
   ·obtain ⟨i,a1,a2,_,a4⟩:=ext_mem z
    exact ⟨i,a1,by omega,a4⟩
   ·obtain ⟨i,a1,a2,_,a4⟩:=ext_mem z
    exact ⟨i,by omega,a2,a4⟩
  have outs:∀j,j<sa+k∨sa+na+m≤j→(putAt (arrOf st) r (sa+k))[j]? =(arrOf st)[j]? :=λj h=>by rw [Ds,if_neg (by omega)]
  have HL:∀i x j y,sa≤i→i<sa+k→(arrOf st)[i]? =some x→sa+k≤j→j<sa+na+nb→(arrOf st)[j]? =some y→LE O key x y:=λi x j y a1 a2 a3 a4 a5 a6=>by
   by_cases c:j<sa+na
   ·exact dW s1 a1 (by omega) c a3 a6
   ·exact KeyOrd.kle_trans (Tv i x a1 a2 a3) (LP j y (by omega) a5 a6)
  have J5:∀i x j y,sa≤i→i<sa+na+m→(arrOf st)[i]? =some x→sa+na+m≤j→j<sa+na+nb→(arrOf st)[j]? =some y→LE O key x y:=λi x j y a1 a2 a3 a4 a5 a6=>by
   by_cases c:i<sa+na
   ·exact KeyOrd.kle_trans (VQ i x a1 c a3) (Tz j y a4 a5 a6)
   ·exact dW s2 (by omega) (by omega) a5 a3 a6
  refine wpS_pure (q _ ?_ g.kind RX g.pend (λj hj=>outs j (by omega)) ?_)
  ·refine Ac hb ?_
   rw [hr];refine res.1.trans ?_;rw [ext_toList,ext_toList,show sa+na-(sa+k)=na-k by omega,show sa+na+m-(sa+na)=m by omega]
   have:((arrOf st).toList.drop (sa+k)).take (na-k+m)=((arrOf st).toList.drop (sa+k)).take (na-k)++((arrOf st).toList.drop (sa+na)).take m:=by
    rw [lW _ (show na-k≤na-k+m by omega),List.drop_drop,show sa+k+(na-k)=sa+na by omega,show na-k+m-(na-k)=m by omega]
   rw [this]
  ·refine yN (by show sa+(na+nb)≤(putAt (arrOf st) r (sa+k)).size;rw [Ae hb];omega) λi j x y h1 cR hj ex ey=>?_
   have m6:(putAt (arrOf st) r (sa+k))[i]? =some x:=ex;have kY:(putAt (arrOf st) r (sa+k))[j]? =some y:=ey
   by_cases ci:i<sa+k
   ·rw [outs i (.inl ci)] at m6
    by_cases cj:j<sa+k
    ·rw [outs j (.inl cj)] at kY
     exact dW s1 h1 cR (by omega) m6 kY
    ·by_cases Qq:j<sa+na+m
     ·obtain ⟨j',b1,b2,b3⟩:=Mx j y (by omega) Qq kY
      exact HL i x j' y h1 ci m6 b1 (by omega) b3
     ·rw [outs j (.inr (by omega))] at kY
      exact HL i x j y h1 ci m6 (by omega) (by omega) kY
   ·by_cases WI:i<sa+na+m
    ·by_cases Qq:j<sa+na+m
     ·rw [Ds,if_pos (by omega)] at m6 kY
      exact eW res.2 (by omega) (jD m6) (jD kY)
     ·obtain ⟨i',b1,b2,b3⟩:=Mx i x (by omega) WI m6
      rw [outs j (.inr (by omega))] at kY
      exact J5 i' x j y (by omega) b2 b3 (by omega) (by omega) kY
    ·rw [outs i (.inr (by omega))] at m6
     rw [outs j (.inr (by omega))] at kY
     exact dW s2 (by omega) cR (by omega) m6 kY
 by_cases c:na-k≤m
 ·rw [if_pos c]
  exact wpS_bind (yY C o'.kind T λr ag g res=>fin r ag g res)
 ·rw [if_neg c]
  exact wpS_bind (yX C o'.kind T λr ag g res=>fin r ag g res)
end
abbrev U1:=Option Unit×Unit
def D1(pw:Nat):StateT SortSt Sem (ForInStep U1):=do
 let st ←get
 match (if (pendingOf st).size>1 then (pendingOf st)[(pendingOf st).size-2]? else none) with
 |some (_,_,O0)=>
  if O0≤pw then pure (ForInStep.done (none,()))
  else do
   let ok ←mergeAt' ((pendingOf st).size-2)
   if (!ok)=true then pure (ForInStep.done (some (),())) else pure (ForInStep.yield (none,()))
 |_=>pure (ForInStep.done (none,()))
def ke(size lo n:Nat):StateT SortSt Sem (ForInStep (Option Unit×Nat)):=do
 let st ←get
 match (pendingOf st).back? with
 |some (s1,n1,_)=>do
  let t ←forIn [0:size] ((none,()):U1) λ_ _=>D1 (power' size (2*s1+n1) (2*s1+n1+n1+n) size)
  match t.1 with
  |some r=>pure (ForInStep.done (some r,lo))
  |none=>do
   modify λs=>setPending s ((pendingOf s).modify ((pendingOf s).size-1) λx=>(x.1,x.2.1,power' size (2*s1+n1) (2*s1+n1+n1+n) size))
   modify λs=>setPending s ((pendingOf s).push (lo,n,0))
   pure (ForInStep.yield (none,lo+n))
 |_=>do
  modify λs=>setPending s ((pendingOf s).push (lo,n,0))
  pure (ForInStep.yield (none,lo+n))
def yM(size lo:Nat):StateT SortSt Sem (ForInStep (Option Unit×Nat)):=
 if lo≥size then pure (ForInStep.done (none,lo))
 else do
  let x ←countRun' lo (size-lo)
  match x with
  |some found=>
   if found<minRun' size size 0 then do
    liftM (rule "list.sort.binary-insertion")
    let ok ←binarySort' lo (min (size-lo) (minRun' size size 0)) found
    if (!ok)=true then pure (ForInStep.done (some (),lo)) else ke size lo (min (size-lo) (minRun' size size 0))
   else ke size lo found
  |_=>pure (ForInStep.done (some (),lo))
def Cz:StateT SortSt Sem (ForInStep U1):=do
 let st ←get
 if (pendingOf st).size≤1 then pure (ForInStep.done (none,()))
 else do
  let ok ←mergeAt' (if (if (pendingOf st).size-2>0 then (pendingOf st)[(pendingOf st).size-2-1]?.map (·.2.1) else none).any (·<((pendingOf st)[(pendingOf st).size-2+1]?.elim 0 (·.2.1))) then (pendingOf st).size-2-1 else (pendingOf st).size-2)
  if (!ok)=true then pure (ForInStep.done (some (),())) else pure (ForInStep.yield (none,()))
theorem uN:sortRuns'=(do
 let st ←get
 let c ←forIn [0:(arrOf st).size] ((none,0):Option Unit×Nat) λ_ c=>yM (arrOf st).size c.2
 match c.1 with
 |some r=>pure r
 |none=>do
  let t ←forIn [0:(arrOf st).size] ((none,()):U1) λ_ _=>Cz
  match t.1 with
  |some r=>pure r
  |none=>pure ()):=by
 rw [sortRuns'_eq];dsimp only;refine cu rfl λst=>cu (xQ λ_ c=>?_) λc=>?_
 ·unfold yM
  refine dU (λ_=>rfl) (λ_=>cu rfl λx=>?_);cases x with
  |none=>rfl
  |some f=>
   dsimp only;have jp:∀n:Nat,ke (arrOf st).size c.2 n=ke (arrOf st).size c.2 n:=λ_=>rfl;refine dU (λ_=>cu rfl λ_=>cu rfl λok=>dU (λ_=>rfl) (λ_=>?_)) (λ_=>?_)
   all_goals
    unfold ke;refine cu rfl λkg=>?_;cases (pendingOf kg).back? with
    |none=>rfl
    |some e=>
     obtain ⟨s1,n1,p1⟩:=e;dsimp only;refine cu (xQ λ_ c=>?_) λt=>?_
     ·unfold D1
      refine cu rfl λsL=>?_;cases (if (pendingOf sL).size>1 then (pendingOf sL)[(pendingOf sL).size-2]? else none) with
      |none=>rfl
      |some e=>rfl
     ·obtain ⟨t1,t2⟩:=t
      cases t1<;>rfl
 ·obtain ⟨c1,c2⟩:=c
  cases c1 with
  |some r=>rfl
  |none=>
   dsimp only;refine cu (xQ λ_ c=>?_) λt=>?_
   ·rfl
   ·obtain ⟨t1,t2⟩:=t
    cases t1<;>rfl
section
variable {O:KeyOrd} {key:Keyed→O.α} {S:Keyed→Prop} {k0:SortKind} {prog:Program} {w:World} {A:Around} {E:Value→Shared→Prop} {s:Shared} {st br:SortSt}
def iz(O:KeyOrd)(key:Keyed→O.α)(xs:Array Keyed):Nat→List (Nat×Nat)→Nat→Prop
 |a,[],b=>a=b
 |a,e::r,b=>e.1=a∧1≤e.2∧hV O key xs a (a+e.2)∧iz O key xs (a+e.2) r b
theorem iz.app{xs:Array Keyed}:∀{l1 l2:List (Nat×Nat)}{a b:Nat},iz O key xs a (l1++l2) b↔∃c,iz O key xs a l1 c∧iz O key xs c l2 b
 | [],l2,a,b=>⟨λh=>⟨a,rfl,h⟩,λ⟨c,h1,h2⟩=>by cases h1;exact h2⟩
 |e::l1,l2,a,b=>by
  constructor
  ·rintro ⟨h1,h2,h3,h4⟩
   obtain ⟨c,c1,c2⟩:=iz.app.mp h4;exact ⟨c,⟨h1,h2,h3,c1⟩,c2⟩
  ·rintro ⟨c,⟨h1,h2,h3,c1⟩,c2⟩
   exact ⟨h1,h2,h3,iz.app.mpr ⟨c,c1,c2⟩⟩
theorem iz.le{xs:Array Keyed}:∀{l:List (Nat×Nat)}{a b:Nat},iz O key xs a l b→a+l.length≤b
 | [],a,b,h=>by cases h;simp
 |e::l,a,b,⟨_,h2,_,h4⟩=>by
  have:=iz.le h4
  rw [cx];omega
theorem uQ{xs ys:Array Keyed}{a b:Nat}(h:∀i,a≤i→i<b→ys[i]? =xs[i]?)(hs:hV O key xs a b):hV O key ys a b:=λi j h1 h2 h3=>by
 rw [gk (h i h1 (by omega)),gk (h j (by omega) h3)];exact hs i j h1 h2 h3
theorem iz.congr{xs ys:Array Keyed}:∀{l:List (Nat×Nat)}{a b:Nat},(∀i,a≤i→i<b→ys[i]? =xs[i]?)→iz O key xs a l b→iz O key ys a l b
 | [],a,b,_,h=>h
 |e::l,a,b,hc,⟨h1,h2,h3,h4⟩=>by
  have:=iz.le h4
  exact ⟨h1,h2,uQ (λi a1 a2=>hc i a1 (by omega)) h3,iz.congr (λi a1 a2=>hc i (by omega) a2) h4⟩
def pl(st:SortSt):List (Nat×Nat):=(pendingOf st).toList.map λe=>(e.1,e.2.1)
structure SI (O:KeyOrd) (key:Keyed→O.α) (S:Keyed→Prop) (k0:SortKind) (a0:Array Keyed) (st:SortSt) (lo:Nat):Prop where
 ok:Ok S k0 st
 failed:failedOf st=none
 perm:(arrOf st).Perm a0
 cov:iz O key (arrOf st) 0 (pl st) lo
 le:lo≤a0.size
theorem SI.size{a0:Array Keyed}{lo:Nat}(h:SI O key S k0 a0 st lo):(arrOf st).size=a0.size:=h.perm.size_eq
theorem AE(C:fG O key S k0 (model prog w) A E s){a0:Array Keyed}{lo i:Nat}{Q:Bool→SortSt→Prop}(h:SI O key S k0 a0 st lo)(hi:i+1<(pendingOf st).size)
  (q:∀ag,SI O key S k0 a0 ag lo→(pendingOf ag).size=(pendingOf st).size-1→(∀j,lo≤j→(arrOf ag)[j]? =(arrOf st)[j]?)→Q true ag):wpS (model prog w) A E s (mergeAt' i) Q st:=by
 have e1:(pendingOf st)[i]? =some (pendingOf st)[i]:=getElem?_pos _ i (by omega)
 have e2:(pendingOf st)[i+1]? =some (pendingOf st)[i+1]:=getElem?_pos _ (i+1) hi
 have hl:(pendingOf st).toList=(pendingOf st).toList.take i++((pendingOf st)[i]::(pendingOf st)[i+1]::(pendingOf st).toList.drop (i+2)):=by
  conv=>lhs;rw [←nH i (pendingOf st).toList]
  congr 1
  rw [rZ (by rw [bW];omega),rZ (by rw [bW];omega)]
  rfl
 generalize hx:(pendingOf st)[i]=x at*;generalize hy:(pendingOf st)[i+1]=y at*;obtain ⟨sa,na,pw⟩:=x;obtain ⟨sb,nb,UX⟩:=y;have hc:=h.cov;unfold pl at hc;rw [hl,dY,fF,fF] at hc;obtain ⟨c,c1,c2⟩:=iz.app.mp hc;obtain ⟨d1,d2,d3,d4,d5,d6,d7⟩:=c2;dsimp only at d1 d2 d3 d4 d5 d6 d7;subst d1;subst d4;have hle:=d7.le;have fk:=h.size;have zE:=h.le;refine yW C h.ok h.failed e1 e2 d2 d5 (by omega) d3 d6 λag b1 b2 b3 b4 b5 b6=>?_
 have dJ:(pendingOf ag).toList=(pendingOf st).toList.take i++((sa,na+nb,pw)::(pendingOf st).toList.drop (i+2)):=by
  rw [b4,Array.toList_eraseIdxIfInBounds,Array.toList_setIfInBounds]
  conv=>lhs;rw [hl]
  have hlen:((pendingOf st).toList.take i).length=i:=by rw [jg,bW];omega
  rw [List.set_append_right _ _ (by omega),List.eraseIdx_append_of_length_le (by omega),hlen,qm,show i+1-i=1 by omega]
  rfl
 refine q ag ⟨⟨λp hp=>h.ok.mem p ((D8.mp b1).mem_iff.mp hp),b2.trans h.ok.kind⟩,b3,b1.trans h.perm,?_,h.le⟩ ?_ λj hj=>b5 j (.inr (by omega))
 ·unfold pl
  rw [dJ,dY,fF];refine iz.app.mpr ⟨sa,iz.congr (λj a1 a2=>b5 j (.inl a2)) c1,rfl,?_,b6,?_⟩
  ·show 1≤na+nb;omega
  ·show iz O key (arrOf ag) (sa+(na+nb)) _ lo
   rw [←Nat.add_assoc];exact iz.congr (λj a1 a2=>b5 j (.inr a1)) d7
 ·rw [←bW,dJ,dE,cx,jg,vt,bW];omega
def Kp(br st:SortSt)(lo:Nat):Prop:=∀j,lo≤j→(arrOf st)[j]? =(arrOf br)[j]?
theorem FG(C:fG O key S k0 (model prog w) A E s){a0:Array Keyed}{lo pw:Nat}(h:SI O key S k0 a0 st lo)(hk:Kp br st lo):wpS (model prog w) A E s (D1 pw) (λr ag=>match r with| .done c=>c=(none,())∧SI O key S k0 a0 ag lo∧Kp br ag lo| .yield c=>c=(none,())∧SI O key S k0 a0 ag lo∧Kp br ag lo) st:=by
 unfold D1;refine wpS_bind (wpS_get ?_)
 by_cases hp:(pendingOf st).size>1
 ·rw [if_pos hp]
  cases e:(pendingOf st)[(pendingOf st).size-2]? with
  |none=>exact wpS_pure ⟨rfl,h,hk⟩
  |some x=>
   obtain ⟨x1,x2,x3⟩:=x;dsimp only
   by_cases hle:x3≤pw
   ·rw [if_pos hle];exact wpS_pure ⟨rfl,h,hk⟩
   ·rw [if_neg hle]
    refine wpS_bind (AE C h (by omega) λag h' _ fP=>?_)
    exact wpS_pure ⟨rfl,h',λj hj=>(fP j hj).trans (hk j hj)⟩
 ·rw [if_neg hp]
  exact wpS_pure ⟨rfl,h,hk⟩
theorem IA{lo n:Nat}:pl (setPending st ((pendingOf st).push (lo,n,0)))=pl st++ [(lo,n)]:=by
 unfold pl;show ((pendingOf st).push (lo,n,0)).toList.map _=_;rw [xm,dY];rfl
theorem Cf{i pw:Nat}:pl (setPending st ((pendingOf st).modify i λx=>(x.1,x.2.1,pw)))=pl st:=by
 unfold pl;show ((pendingOf st).modify i λx=>(x.1,x.2.1,pw)).toList.map _=_;apply xn;intro j;rw [bH,bH,eG,eG,Array.getElem?_modify]
 by_cases e:i=j
 ·rw [if_pos e]
  cases (pendingOf st)[j]? <;>rfl
 ·rw [if_neg e]
theorem SI.DK{a0:Array Keyed}{lo n:Nat}(h:SI O key S k0 a0 st lo)(hn:1≤n)(hl:lo+n≤a0.size)(hs:hV O key (arrOf st) lo (lo+n)):SI O key S k0 a0 (setPending st ((pendingOf st).push (lo,n,0))) (lo+n):=by
 refine ⟨⟨h.ok.mem,h.ok.kind⟩,h.failed,h.perm,?_,hl⟩;rw [IA];exact iz.app.mpr ⟨lo,h.cov,rfl,hn,hs,rfl⟩
theorem rY(C:fG O key S k0 (model prog w) A E s){a0:Array Keyed}{lo n:Nat}(h:SI O key S k0 a0 st lo)(hn:1≤n)(hl:lo+n≤a0.size)(hs:hV O key (arrOf st) lo (lo+n)):
  wpS (model prog w) A E s (ke a0.size lo n) (λr ag=>match r with| .done c=>False| .yield c=>c=(none,lo+n)∧SI O key S k0 a0 ag (lo+n)) st:=by
 unfold ke;refine wpS_bind (wpS_get ?_);cases (pendingOf st).back? with
 |none=>exact wpS_bind (wpS_modify (wpS_pure ⟨rfl,h.DK hn hl hs⟩))
 |some e=>
  obtain ⟨s1,n1,p1⟩:=e;dsimp only;refine wpS_bind (wpS_mono (wpS_forRange (I:=λ(x:Nat)(c:U1)(ag:SortSt)=>c=(none,())∧SI O key S k0 a0 ag lo∧Kp st ag lo) (Q:=λc ag=>c=(none,())∧SI O key S k0 a0 ag lo∧Kp st ag lo) (λx c ag _ _ hh=>?_) (λc ag hh=>hh) ⟨rfl,h,λ_ _=>rfl⟩) ?_)
  ·refine wpS_mono (FG C hh.2.1 hh.2.2) λr cc o=>?_
   cases r with
   |done d=>exact o
   |yield d=>exact o
  ·rintro c ag ⟨rfl,h',fP⟩
   dsimp only;refine wpS_bind (wpS_modify (wpS_bind (wpS_modify (wpS_pure ⟨rfl,?_⟩))))
   have h2:SI O key S k0 a0 (setPending ag ((pendingOf ag).modify ((pendingOf ag).size-1) λx=>(x.1,x.2.1,power' a0.size (2*s1+n1) (2*s1+n1+n1+n) a0.size))) lo:=
    ⟨⟨h'.ok.mem,h'.ok.kind⟩,h'.failed,h'.perm,by rw [Cf];exact h'.cov,h'.le⟩
   exact h2.DK hn hl (uQ (λi a1 a2=>fP i a1) hs)
theorem SI.Vx{a0:Array Keyed}{lo hi:Nat}{ag:SortSt}(h:SI O key S k0 a0 st lo)(t:fH st ag lo hi):SI O key S k0 a0 ag lo:=
 ⟨h.ok.step t,t.failed.trans h.failed,t.perm.trans h.perm,by
  have:pl ag=pl st:=by unfold pl;rw [t.pend]
  rw [this];exact iz.congr (λi _ a2=>t.out i (.inl a2)) h.cov,h.le⟩
theorem CT(C:fG O key S k0 (model prog w) A E s){a0:Array Keyed}{lo:Nat}(h:SI O key S k0 a0 st lo):
  wpS (model prog w) A E s (yM a0.size lo) (λr ag=>match r with| .done c=>c=(none,lo)∧a0.size≤lo∧SI O key S k0 a0 ag lo| .yield c=>∃n,1≤n∧c=(none,lo+n)∧SI O key S k0 a0 ag (lo+n)) st:=by
 unfold yM;have fk:=h.size;have hle:=h.le
 by_cases lg:lo≥a0.size
 ·rw [if_pos lg];exact wpS_pure ⟨rfl,lg,h⟩
 ·rw [if_neg lg]
  refine wpS_bind (wpS_countRun C h.ok (by omega) (by omega) λm yO t1 m1 m2 sm=>?_)
  dsimp only;have h1:=h.Vx t1;have aah:=h1.size
  by_cases bq:m<minRun' a0.size a0.size 0
  ·rw [if_pos bq]
   refine wpS_bind (wpS_lift (wpAny_rule ⟨rfl,?_⟩));refine wpS_bind (wpS_binarySort C h1.ok (by omega) (by omega) sm λkg t2 s2=>?_)
   rw [if_neg (by decide)]
   refine wpS_mono (rY C (h1.Vx t2) (by omega) (by omega) s2) λr ag o=>?_
   cases r with
   |done d=>exact o.elim
   |yield d=>exact ⟨_,by omega,o.1,o.2⟩
  ·rw [if_neg bq]
   refine wpS_mono (rY C h1 m1 (by omega) sm) λr ag o=>?_
   cases r with
   |done d=>exact o.elim
   |yield d=>exact ⟨_,m1,o.1,o.2⟩
theorem ite_le{c:Prop} [Decidable c] {p:Nat}:(if c then p-1 else p)≤p:=by split<;>omega
theorem CQ(C:fG O key S k0 (model prog w) A E s){a0:Array Keyed}{x:Nat}(h:SI O key S k0 a0 st a0.size)(hp:(pendingOf st).size≤max 1 (a0.size-x)):
  wpS (model prog w) A E s Cz (λr ag=>match r with| .done c=>c=(none,())∧SI O key S k0 a0 ag a0.size∧(pendingOf ag).size≤1| .yield c=>c=(none,())∧SI O key S k0 a0 ag a0.size∧(pendingOf ag).size≤max 1 (a0.size-(x+1))) st:=by
 unfold Cz;refine wpS_bind (wpS_get ?_)
 by_cases h1:(pendingOf st).size≤1
 ·rw [if_pos h1];exact wpS_pure ⟨rfl,h,h1⟩
 ·rw [if_neg h1]
  refine wpS_bind (AE C h (mq (Nat.succ_le_succ ite_le) (by omega)) λag h' e _=>?_)
  exact wpS_pure ⟨rfl,h',by omega⟩
theorem wpS_sortRuns(C:fG O key S k0 (model prog w) A E s){Q:Unit→SortSt→Prop}(o:Ok S k0 st)(hf:failedOf st=none)(hp:pendingOf st= #[])(h1:1≤(arrOf st).size)
  (q:∀ag,(arrOf ag).Perm (arrOf st)→failedOf ag=none→hV O key (arrOf ag) 0 (arrOf st).size→Q () ag):wpS (model prog w) A E s sortRuns' Q st:=by
 rw [uN];refine wpS_bind (wpS_get ?_);have h0:SI O key S k0 (arrOf st) st 0:=⟨o,hf, .refl _,by unfold pl;rw [hp];rfl,cW _⟩
 refine wpS_bind (wpS_mono (wpS_forRange (I:=λ(x:Nat)(c:Option Unit×Nat)(ag:SortSt)=>∃lo,c=(none,lo)∧min x (arrOf st).size≤lo∧SI O key S k0 (arrOf st) ag lo) (Q:=λc ag=>c=(none,(arrOf st).size)∧SI O key S k0 (arrOf st) ag (arrOf st).size) (λx c ag _ _ hh=>?_) (λc ag hh=>?_) ⟨0,rfl,by omega,h0⟩) ?_)
 ·obtain ⟨lo,rfl,hx,hs⟩:=hh
  refine wpS_mono (CT C hs) λr cc o=>?_;cases r with
  |done d=>
   obtain ⟨e,e1,e2⟩:=o
   have:=e2.le
   have el:lo=(arrOf st).size:=by omega
   rw [el] at e e2;exact ⟨e,e2⟩
  |yield d=>
   obtain ⟨n,n1,e,e2⟩:=o;exact ⟨lo+n,e,by omega,e2⟩
 ·obtain ⟨lo,rfl,hx,hs⟩:=hh
  have:=hs.le
  have el:lo=(arrOf st).size:=by omega
  rw [el] at hs ⊢;exact ⟨rfl,hs⟩
 ·rintro c ag ⟨rfl,hs⟩
  dsimp only
  have hlen:(pendingOf ag).size≤(arrOf st).size:=by
   have:=hs.cov.le
   unfold pl at this;rw [aM,bW] at this;omega
  refine wpS_bind (wpS_mono (wpS_forRange (I:=λ(x:Nat)(c:U1)(ag:SortSt)=>c=(none,())∧SI O key S k0 (arrOf st) ag (arrOf st).size∧(pendingOf ag).size≤max 1 ((arrOf st).size-x)) (Q:=λc ag=>c=(none,())∧SI O key S k0 (arrOf st) ag (arrOf st).size∧(pendingOf ag).size≤1) (λx c ag _ _ hh=>?_) (λc ag hh=>?_) ⟨rfl,hs,by omega⟩) ?_)
  ·refine wpS_mono (CQ C hh.2.1 hh.2.2) λr cc o=>?_
   cases r with
   |done d=>exact o
   |yield d=>exact o
  ·exact ⟨hh.1,hh.2.1,by have:=hh.2.2;omega⟩
  ·rintro c cc ⟨rfl,qB,Sx⟩
   refine wpS_pure (q cc qB.perm qB.failed ?_);have hc:=qB.cov;have Ym:(pl cc).length≤1:=by unfold pl;rw [aM,bW];exact Sx
   match dJ:pl cc,Ym with
   | [],_=>rw [dJ] at hc;exact absurd hc (by show ¬(0=(arrOf st).size);omega)
   | [e],_=>
    rw [dJ] at hc;obtain ⟨a1,a2,a3,a4⟩:=hc
    have:0+e.2=(arrOf st).size:=a4
    rw [←this];exact a3
end
section
variable {O:KeyOrd} {key:Keyed→O.α} {S:Keyed→Prop} {k0:SortKind} {prog:Program} {w:World} {A:Around} {E:Value→Shared→Prop} {s:Shared}
def Keeps(s s':Shared):Prop:=∀b o,s.heap.get? b=some o→s'.heap.get? b=some o
theorem qZ(vs:List Value):(vs.toArray.zip vs.toArray).toList=vs.map λv=>(v,v):=by
 rw [Array.toList_zip];show List.zip vs vs=_
 induction vs with
 |nil=>rfl
 |cons v r ih=>rw [List.zip_cons_cons,fF,ih]
theorem Lv{xs:Array Keyed}(h:hV O key xs 0 xs.size):xs.toList.Pairwise (LE O key):=by
 rw [vj];intro i j hi hj cR;rw [bW] at hi hj;exact dW h (cW _) (Nat.le_of_lt cR) hj (iY (cN _)) (iY (cN _))
theorem uo{a:Addr}{vs:List Value}{n:Nat}{P:PySem.Fin→Shared→Prop}(ho:s.heap.get? a=some (seqObj "list" vs.toArray n))(h2:2≤vs.length)(hz:vs.length≤1000)(ne:∀b o,s.heap.get? b=some o→b≠a→True)
  {s0:Shared} (ZJ:∀b o,s0.heap.get? b=some o→b≠a∧s.heap.get? b=some o)
  (hk:∀(E:Value→Shared→Prop)(s':Shared)(Q':SortKind→Shared→Prop),Keeps s0 s'→Q' k0 s'→wpAny (model prog w) A (keyKind' vs.toArray) Q' E s')
  (C:∀(E:Value→Shared→Prop)(s':Shared),Keeps s0 s'→fG O key S k0 (model prog w) A E s') (mem:∀v∈vs,S (v,v))
  (h:∀out:Array Keyed,out.toList.Perm (vs.map λv=>(v,v))→out.toList.Pairwise (LE O key)→P (.done (.ret .none)) {s with heap:=sortedHeap s.heap a vs (out.map (·.2))}):
  wpAny (model prog w) A (Builtin.«list.sort» ⟨[.ref a],[]⟩) P E s:=by
 rw [list_sort_plain];have ha:a<s.heap.objs.size:=Heap.lt_size ho;have cw:1000<sizeLine:=by decide
 refine wpAny_bind (listItems_at ho rfl ?_);refine wpAny_bind (listUpdate_at ho rfl ?_ (by rw [dr];omega) (cW _))
 obtain ⟨e1,vH⟩:∃e1,(s.heap.update a (Obj.mapSeq λ_=> #[])).get? a=some (seqObj "list" #[] e1):=⟨_,get?_update_seq ho (λ_=> #[])⟩;refine wpAny_bind (seqEpoch_at vH rfl ?_);refine wpAny_bind (wpAny_newTuple ?_ (by show vs.length≤_;omega))
 refine wpAny_bind (wpAny_newList ?_ (cW _));refine wpAny_holding ?_
 have Hl:(((s.heap.update a (Obj.mapSeq λ_=> #[])).push (seqObj "tuple" vs.toArray 0)).push (seqObj "list" #[] 0)).get? a=some (seqObj "list" #[] e1):=by
  rw [Heap.get?_push_ne _ _ _ (by rw [size_push',Heap.size_update];exact bI (xo ha)),Heap.get?_push_ne _ _ _ (by rw [Heap.size_update];exact bI ha)]
  exact vH
 show wpAny (model prog w) A _ P E {s with heap:=((s.heap.update a (Obj.mapSeq λ_=> #[])).push (seqObj "tuple" vs.toArray 0)).push (seqObj "list" #[] 0)}
 have kp:Keeps s0 {s with heap:=((s.heap.update a (Obj.mapSeq λ_=> #[])).push (seqObj "tuple" vs.toArray 0)).push (seqObj "list" #[] 0)}:=λb o e=>by
  obtain ⟨n1,e'⟩:=ZJ b o e;refine Heap.get?_push_of_some _ (Heap.get?_push_of_some _ ?_);rw [Heap.get?_update_ne _ _ _ _ n1];exact e'
 dsimp only;have fk:vs.toArray.size=vs.length:=by simp
 have vG:¬vs.toArray.size<2:=by omega
 rw [if_neg vG,if_neg vG];refine wpAny_bind (hk _ _ _ kp ?_);have hsz2:(vs.toArray.zip vs.toArray).size=vs.length:=by rw [←bW,qZ,aM]
 refine wpAny_bind (wpAny_mono (wpS_sortRuns (C _ _ kp) (st:=SortSt.mk' k0 (vs.toArray.zip vs.toArray) #[] 7 none)
   (Q:=λ_ ag=>(arrOf ag).Perm (vs.toArray.zip vs.toArray)∧failedOf ag=none∧hV O key (arrOf ag) 0 (vs.toArray.zip vs.toArray).size)
   ⟨λp hp=>?_,rfl⟩ rfl rfl (by show 1≤(vs.toArray.zip vs.toArray).size;omega) λag a1 a2 a3=>⟨a1,a2,a3⟩) ?_ λ_ _ e=>e)
 ·have t9:p∈(vs.toArray.zip vs.toArray).toList:=hp
  rw [qZ] at t9;obtain ⟨v,hv,rfl⟩:=bX.mp t9;exact mem v hv
 rintro ⟨⟨⟩,ag⟩ s' ⟨rfl,hp,hf,hs⟩;dsimp only;have hps:(arrOf ag).size=vs.length:=by rw [hp.size_eq,hsz2]
 refine wpAny_bind (seqEpoch_at Hl rfl ?_);refine wpAny_bind (listUpdate_at Hl rfl ?_ (cW _) (by rw [Array.size_map];omega))
 rw [hf];simp only [bne_self_eq_false,eH,if_false];refine wpAny_pure (h (arrOf ag) ?_ ?_)
 ·rw [←qZ];exact D8.mp hp
 ·refine Lv ?_
  rw [hp.size_eq];exact hs
theorem rT{l:Addr}{vs:List Value}{Q:Value→Shared→Prop}(hl:s.heap.IsList l vs.toArray)(h2:2≤vs.length)(hz:vs.length≤1000)
  (hk:∀(E:Value→Shared→Prop)(s':Shared)(Q':SortKind→Shared→Prop),Keeps s s'→Q' k0 s'→wpAny (model prog w) A.in1.in1 (keyKind' vs.toArray) Q' E s')
  (C:∀(E:Value→Shared→Prop)(s':Shared),Keeps s s'→fG O key S k0 (model prog w) A.in1.in1 E s') (mem:∀v∈vs,S (v,v))
  (h:∀out:Array Keyed,out.toList.Perm (vs.map λv=>(v,v))→out.toList.Pairwise (LE O key)→Q (.ref (s.heap.objs.size+1)) {s with heap:=sortedAll s.heap vs (out.map (·.2))}):
  wpAny (model prog w) A (call (.builtin "sorted") [.ref l]) Q E s:=by
 have cw:1000<sizeLine:=by decide
 refine Calls.call_function_entry kind_sorted plain_sorted entry_sorted (args_sorted1 _) ?_;unfold Builtin.«sorted»;refine wpAny_bind (m:=checkCount "sorted" 1 1 _) (wpAny_pure ?_);refine wpAny_bind (collect_list hl ?_ (by omega))
 refine wpAny_bind (wpAny_newList ?_ (by show vs.length≤_;omega))
 have fk:((s.heap.push (seqObj "list" #[] 0)).update s.heap.objs.size (Obj.mapSeq (·++vs.toArray))).objs.size=s.heap.objs.size+1:=by
  rw [Heap.size_update,size_push']
 have J8:(((s.heap.push (seqObj "list" #[] 0)).update s.heap.objs.size (Obj.mapSeq (·++vs.toArray))).push (seqObj "list" vs.toArray 0)).get? (s.heap.objs.size+1)=some (seqObj "list" vs.toArray 0):=by
  rw [←fk];exact Heap.get?_push_size _ rfl
 have keep:∀b o,s.heap.get? b=some o→(((s.heap.push (seqObj "list" #[] 0)).update s.heap.objs.size (Obj.mapSeq (·++vs.toArray))).push (seqObj "list" vs.toArray 0)).get? b=some o:=λb o q=>by
  have bq:b<s.heap.objs.size:=Heap.lt_size q;rw [Heap.get?_push_ne _ _ _ (by rw [fk];exact bI (xo bq)),Heap.get?_update_ne _ _ _ _ (bI bq),Heap.get?_push_ne _ _ _ (bI bq)]
  exact q
 show wpAny _ _ _ _ _ {s with heap:=((s.heap.push (seqObj "list" #[] 0)).update s.heap.objs.size (Obj.mapSeq (·++vs.toArray))).push (seqObj "list" vs.toArray 0)}
 rw [fk];refine wpAny_bind (wpAny_holding (wpAny_call_entry slot_list_sort ⟨_,J8,rfl⟩ entry_list_sort (uo (s0:=s) J8 h2 hz (λ_ _ _ _=>trivial) (λb o e=>⟨bI (xo (Heap.lt_size e)),keep b o e⟩) hk C mem λout a1 a2=>⟨_,rfl,?_⟩) (args_list_sort _)));exact wpAny_pure ⟨_,rfl,h out a1 a2⟩
end
end TS
namespace L2
open PySem PySem.Spec PyProof.Rows
def lexOrd:KeyOrd where
 α:=Nat×Nat
 blt:=iH
 irrefl:=λa=>by unfold iH;rw [if_pos rfl];simp
 trans:=λa b c h1 h2=>HF _ _ _ h1 h2
 negTrans:=λa b c h=>E2 _ _ _ h
 total:=λa b h1 h2=>Wb.qJ (uj h2) (uj h1)
def keyOf(L:List (Addr×(Nat×Nat)))(v:Keyed):Nat×Nat:=match v.1 with
 | .ref a=>((L.find? λe=>e.1==a).map (·.2)).getD (0,0)
 |_=>(0,0)
theorem Cb{k k':Nat×Nat}(h:fS k=fS k'):k=k':=by
 unfold fS at h
 injection h with h1 h2
 injection h2 with h2 _
 injection h1 with h1
 injection h2 with h2
 exact Prod.ext (by omega) (by omega)
theorem jZ{H:Hp}{L:List (Addr×(Nat×Nat))}(hL:nM H L){e:Addr×(Nat×Nat)}(he:e∈L)(v:Value):keyOf L (.ref e.1,v)=e.2:=by
 unfold keyOf;dsimp only;cases hf:L.find? λx=>x.1==e.1 with
 |none=>exact absurd (List.find?_eq_none.mp hf e he) (by simp)
 |some x=>
  have hx:=List.mem_of_find?_eq_some hf;have hb:=List.find?_some hf;have e1:x.1=e.1:=by simpa using hb
  have a1:=hL x hx;have a2:=hL e he;rw [e1,a2] at a1
  injection a1 with a1
  injection a1 with a1
  exact (Cb a1).symm
theorem h8{α β:Type} [DecidableEq α] (f:α→β):∀(l:List β)(L:List α),l.Perm (L.map f)→∃M:List α,M.Perm L∧l=M.map f
 | [],L,h=>by
  have:=h.length_eq
  rw [aM] at this
  have:L= []:=List.length_eq_zero_iff.mp this.symm
  subst this;exact ⟨[], .refl _,rfl⟩
 |x::r,L,h=>by
  obtain ⟨e,he,rfl⟩:=bX.mp (h.mem_iff.mp b7);have p1:=List.perm_cons_erase he;have p2:(f e::r).Perm (f e::(L.erase e).map f):=h.trans (p1.map f);obtain ⟨M,m1,rfl⟩:=h8 f r (L.erase e) ((List.perm_cons _).mp p2);exact ⟨e::M,(m1.cons e).trans p1.symm,rfl⟩
section
variable {X:Cx}
theorem vz:bQ X (.builtin "sorted") (λxs H Q=>∃(p:Addr)(L:List (Addr×(Nat×Nat))),xs= [.ref p]∧aD X.K H p (L.map λe=>V.ref e.1)∧nM H L∧L.length≤1000∧
  ∀(q:Addr)(M:List (Addr×(Nat×Nat))),H q=none→M.Perm L→(M.map (·.2)).Pairwise Wb.lexLe→Q (.ref q) (upd H q (.lst (M.map λe=>V.ref e.1)))):=by
 intro pins s σ H xs us Q I rv h;obtain ⟨p,L,rfl,hp,hL,hz,q⟩:=h;obtain ⟨u,rfl,ru⟩:=rv.one;cases ru;obtain ⟨its,r,pl,_⟩:=I.list hp;have hl:=r.length;rw [aM] at hl;have cw:1000<sizeLine:=by decide
 have ei:its=L.map λe=>Value.ref e.1:=by
  have:=oN (as:=L.map (·.1)) (us:=its) (by rw [dZ];exact r)
  rw [this,dZ];rfl
 by_cases h2:L.length<2
 ·refine KS.nA pl.isList (by omega) ?_
  obtain ⟨e,he⟩:=sortedAll_at s.heap its its.toArray;have fr:H (s.heap.objs.size+1)=none:=I.hok.fresh (mr _);refine ⟨.ref (s.heap.objs.size+1),_,I.laid (t':=s.toks) (λb o hb=>sortedAll_old hb) (mr _) (o:= .lst (L.map λe=>V.ref e.1)) ⟨by rw [aM];omega,its,e,r,he⟩,rfl,q _ L fr (.refl _) ?_⟩
  match L,h2 with
  | [],_=>exact .nil
  | [_],_=>exact List.pairwise_singleton _ _
 ·have tup:∀e∈L,∀s':Shared,TS.Keeps s s'→∃t u,IsTup s'.heap e.1 [.int (e.2.1:Nat) t, .int (e.2.2:Nat) u].toArray:=λe he s' kp=>by
   obtain ⟨t,u,o,ho,hc,n,hd⟩:=Fh I (hL e he);exact ⟨t,u,o,kp _ _ ho,hc,n,hd⟩
  refine TS.rT (O:=lexOrd) (key:=keyOf L) (S:=λp=>∃e∈L,p=(Value.ref e.1,Value.ref e.1)) (k0:=tuples' true) pl.isList (by omega) (by omega) (λE' s' Q' kp hq=>?_) (λE' s' kp x y st Q' sx sy hk hq=>?_) (λv hv=>?_) λout ub BE=>?_
  ·have go:∀(M:List (Addr×(Nat×Nat))),(∀e∈M,e∈L)→∃fs:List Value,PySem.W.KatTups s'.heap (M.map λe=>Value.ref e.1) fs∧fs.length=M.length∧∀v∈fs,∃i t,v= .int i t:=by
    intro M
    induction M with
    |nil=>exact λ_=>⟨[],PySem.W.KatTups.nil,rfl,λv hv=>by cases hv⟩
    |cons e M ih=>
     intro hM;obtain ⟨fs,a,b,c⟩:=ih λx hx=>hM x (cm _ hx);obtain ⟨t,u,o,ho,hc,n,hd⟩:=tup e (hM e b7) s' kp;refine ⟨.int (e.2.1:Nat) t::fs,PySem.W.KatTups.cons ho hc hd rfl a,by simp [b],λv hv=>?_⟩
     rcases cy.mp hv with z|z
     ·exact ⟨_,_,z⟩
     ·exact c v z
   obtain ⟨fs,kt,kl,ki⟩:=go L λ_ h=>h;rw [ei];refine PySem.W.kat_kind (T:= .type "int") kt (by omega) (λv hv=>by obtain ⟨i,t,rfl⟩:=ki v hv;exact .now) (by decide) ?_
   have hb:(Value.type "int" !=Value.type "tuple")=true:=by decide
   rw [hb];exact hq
  ·obtain ⟨e1,m1,rfl⟩:=sx
   obtain ⟨e2,m2,rfl⟩:=sy;rw [lt'_eq];refine wpS_bind (wpS_get ?_);rw [hk];obtain ⟨t1,t2,k1⟩:=tup e1 m1 s' kp;obtain ⟨u1,u2,k2⟩:=tup e2 m2 s' kp;refine wpS_bind (wpS_lift (wpAny_attempt (Kl k1 k2 ⟨rfl,?_⟩)))
   have eb:(if ((e1.2.1:Nat):Int)=((e2.2.1:Nat):Int) then decide (((e1.2.2:Nat):Int)<((e2.2.2:Nat):Int)) else decide (((e1.2.1:Nat):Int)<((e2.2.1:Nat):Int)))=lexOrd.blt (keyOf L (.ref e1.1, .ref e1.1)) (keyOf L (.ref e2.1, .ref e2.1)):=by
    rw [jZ hL m1,jZ hL m2];show _=iH e1.2 e2.2;unfold iH;simp only [Int.ofNat_inj,Int.ofNat_lt]
   rw [eb];exact wpS_pure hq
  ·rw [ei] at hv
   obtain ⟨e,he,rfl⟩:=bX.mp hv;exact ⟨e,he,rfl⟩
  ·rw [ei,dZ] at ub
   obtain ⟨M,mp,em⟩:=h8 (λe:Addr×(Nat×Nat)=>((Value.ref e.1,Value.ref e.1):Keyed)) out.toList L ub
   have Ho:(out.map (·.2)).toList=M.map λe=>Value.ref e.1:=by
    rw [Array.toList_map,em,dZ];rfl
   obtain ⟨c,hc⟩:=sortedAll_at s.heap its (out.map (·.2));have fr:H (s.heap.objs.size+1)=none:=I.hok.fresh (mr _);have Oi:=mp.length_eq;refine ⟨.ref (s.heap.objs.size+1),_,I.laid (t':=s.toks) (λb o hb=>sortedAll_old hb) (mr _) (o:= .lst (M.map λe=>V.ref e.1)) ⟨by rw [aM];omega,(out.map (·.2)).toList,c,?_,by rw [Array.toArray_toList];exact hc⟩,rfl,q _ M fr mp ?_⟩
   ·rw [Ho,show (λe:Addr×(Nat×Nat)=>V.ref e.1)=V.ref∘(·.1) from rfl,show (λe:Addr×(Nat×Nat)=>Value.ref e.1)=Value.ref∘(·.1) from rfl,←dZ,←dZ]
    exact oH _
   ·rw [em,jM] at BE
    rw [jM];refine List.Pairwise.imp_of_mem ?_ BE;intro e1 e2 m1 m2 hle;have zD:iH (keyOf L (.ref e2.1, .ref e2.1)) (keyOf L (.ref e1.1, .ref e1.1))=false:=hle;rw [jZ hL (mp.mem_iff.mp m1),jZ hL (mp.mem_iff.mp m2)] at zD;exact uj zD
end
section
open PySem.SeqAt
open PySem.AutoSeq1 (wpAny_loadPart')
open PySem.MeetsSeq PySem.MeetsSeq2 PySem.MeetsSeq3
theorem zL{vs:List Value}{ns:List Int}(h:IntsAre vs ns){i:Nat}{a:Int}(e:ns[i]? =some a):∃t,vs[i]? =some (.int a t):=by
 induction h generalizing i with
 |nil=>simp at e
 |cons b t _ ih=>
  cases i with
  |zero=>simp at e;subst e;exact ⟨t,rfl⟩
  |succ i=>simp at e;obtain ⟨u,hu⟩:=ih e;exact ⟨u,by simpa using hu⟩
theorem HM(l b:Addr)(items bp:Array Value)(n n2:Nat)(dd qv:Option Addr)(sl oJ:Array (Option Value))(ns ms:List Int)(hi:IntsAre items.toList ns)(hj:IntsAre bp.toList ms)(k:Nat):
  ∀i:Nat,items.size-i=k→i≤items.size→i≤bp.size→Meets (Builtin.«list.__eq__.loop» ⟨[.ref l, .ref b,rawInt i,rawInt 0],[]⟩)
   (λA R s=>s.heap.get? l=some {cls:= .type "list",dict:=dd,data:= .seq items n,slots:=sl}∧s.heap.get? b=some {cls:= .type "list",dict:=qv,data:= .seq bp n2,slots:=oJ}∧
    R (.ok (.ret (.bool (HT.lexLt (ns.drop i) (ms.drop i))))) s):=by
 have z1:items.size=ns.length:=by rw [←hi.length];simp
 have z2:bp.size=ms.length:=by rw [←hj.length];simp
 induction k with
 |zero=>
  intro i hk h1 h2 prog w A R s h;obtain ⟨hp,g,d,tk,os⟩:=s;obtain ⟨hl,hb,h⟩:=h
  wp_walk using wpAny_loadPart' hl,wpAny_loadPart' hb
  have zA:items[((i:Nat):Int).toNat]? =none:=by simp;omega
  rw [zA];have e1:ns.drop i= []:=vm (by omega)
  rw [e1] at h
  have hv:HT.lexLt [] (ms.drop i)=decide (items.size<bp.size):=by
   by_cases c:i<ms.length
   ·rw [rZ c,HT.ku]
    exact (decide_eq_true (by omega)).symm
   ·rw [vm (by omega),HT.lq]
    exact (decide_eq_false (by omega)).symm
  rw [hv] at h
  wp_walk using wpAny_loadPart' hl,wpAny_loadPart' hb
  exact h
 |succ k ih=>
  intro i hk h1 h2 prog w A R s h;obtain ⟨hp,g,d,tk,os⟩:=s;obtain ⟨hl,hb,h⟩:=h
  wp_walk using wpAny_loadPart' hl,wpAny_loadPart' hb
  have bq:i<ns.length:=by omega
  obtain ⟨t,ht⟩:=zL hi (cN bq);have zA:items[((i:Nat):Int).toNat]? =some (.int ns[i] t):=by rw [kI,←eG];exact ht
  have hc:((i:Int)+1)=((i+1:Nat):Int):=by push_cast;rfl
  rw [zA]
  by_cases c:i<ms.length
  ·obtain ⟨u,hu⟩:=zL hj (cN c)
   have By:bp[((i:Nat):Int).toNat]? =some (.int ms[i] u):=by rw [kI,←eG];exact hu
   rw [By];rw [rZ bq,rZ c,HT.eD] at h;obtain ⟨e,he,zB⟩:=HT.we A.in1 ⟨hp,g,d,tk,os⟩ ns[i] t ms[i] u;refine wpAny_bind (he prog w _ _ ?_);cases e with
   |true=>
    rw [if_pos (zB.mp rfl)] at h
    wp_walk
    rw [hc]
    exact ⟨plainId_quiet plain_eq_loop _,codeAny_builtin entry_eq_loop (by
     rw [Around.under_plainId plain_eq_loop _];exact ih (i+1) (by omega) (by omega) (by omega) prog w A R _ ⟨hl,hb,h⟩)⟩
   |false=>
    rw [if_neg (λq=>absurd (zB.mpr q) cB)] at h
    wp_walk using wpAny_loadPart' hl,wpAny_loadPart' hb
    rw [zA,By];have Ot:=HT.wZ A.in1 ⟨hp,g,d,tk,os⟩ ns[i] t ms[i] u prog w
    wp_walk using Ot
    exact h
  ·have By:bp[((i:Nat):Int).toNat]? =none:=by simp;omega
   rw [By];rw [rZ bq,vm (show ms.length≤i by omega),HT.kr] at h
   wp_walk using wpAny_loadPart' hl,wpAny_loadPart' hb
   show R (.ok (.ret (.bool (decide (items.size<bp.size))))) _;rw [decide_eq_false (by omega)]
   exact h
end
section
open PySem.SeqAt
open PySem.AutoSeq1 (wpAny_loadPart')
open PySem.MeetsSeq PySem.MeetsSeq2 PySem.MeetsSeq3
theorem vL(l b:Addr)(items bp:Array Value)(n n2:Nat)(dd qv:Option Addr)(sl oJ:Array (Option Value))(ns ms:List Int)(hi:IntsAre items.toList ns)(hj:IntsAre bp.toList ms):
  Meets (Builtin.«list.__lt__» ⟨[.ref l, .ref b],[]⟩)
   (λ_ R s=>s.heap.get? l=some {cls:= .type "list",dict:=dd,data:= .seq items n,slots:=sl}∧s.heap.get? b=some {cls:= .type "list",dict:=qv,data:= .seq bp n2,slots:=oJ}∧
    R (.ok (.ret (.bool (HT.lexLt ns ms)))) s):=by
 intro prog w A R s h;obtain ⟨hp,g,d,tk,os⟩:=s;obtain ⟨hl,hb,h⟩:=h;have f3:=AutoSeq1.sub_list_list
 wp_walk using wpAny_loadPart' hl,wpAny_loadPart' hb
 exact ⟨plainId_quiet plain_eq_loop _,codeAny_builtin entry_eq_loop (by
  rw [Around.under_plainId plain_eq_loop _];exact HM l b items bp n n2 dd qv sl oJ ns ms hi hj _ 0 rfl (cW _) (cW _) prog w A R _ ⟨hl,hb,h⟩)⟩
end
section
variable {prog:Program} {w:World} {A:Around} {E:Value→Shared→Prop} {s:Shared}
theorem z6{l b:Addr}{items bp:Array Value}{ns ms:List Int}{Q:Bool→Shared→Prop}(hl:s.heap.IsList l items)(hb:s.heap.IsList b bp)(hi:IntsAre items.toList ns)(hj:IntsAre bp.toList ms)(hu:A.units<cLine)
  (h:Q (HT.lexLt ns ms) s):wpAny (model prog w) A (oneLt' true (.ref l) (.ref b)) Q E s:=by
 obtain ⟨⟨cls,dd,data,sl⟩,ho,hc,n,hd⟩:=id hl;obtain ⟨⟨L6,qv,data2,oJ⟩,t8,vC,n2,hd2⟩:=id hb;simp only at hc hd vC hd2;subst hc hd vC hd2;rw [oneLt'_eq];simp only [if_true];refine wpAny_bind (wpAny_cRoomFor hu ?_);refine wpAny_bind (wpAny_callSpecialIfBound?_slot ⟨_,ho,rfl⟩ PySem.F.slot_list_lt (call_meets PySem.F.slot_list_lt ⟨_,ho,rfl⟩ PySem.F.entry_list_lt (PySem.F.args_list_lt_2 _ _) (vL l b items bp n n2 dd qv sl oJ ns ms hi hj) ⟨ho,t8,?_⟩));exact wpAny_truthy_bool h
end
theorem lu:∀a:List Int,HT.lexLt a a=false
 | []=>rfl
 |x::xs=>by rw [HT.eD,if_pos rfl];exact lu xs
theorem sU:∀a b c:List Int,HT.lexLt a b=true→HT.lexLt b c=true→HT.lexLt a c=true
 | [],[],_,h,_=>by cases h
 | [],_::_,[],_,h=>by cases h
 | [],_::_,_::_,_,_=>rfl
 |_::_,[],_,h,_=>by cases h
 |_::_,_::_,[],_,h=>by cases h
 |x::xs,y::ys,z::zs,h1,h2=>by
  rw [HT.eD] at*
  by_cases e1:x=y
  ·rw [if_pos e1] at h1
   by_cases e2:y=z
   ·rw [if_pos e2] at h2
    rw [if_pos (e1.trans e2)];exact sU xs ys zs h1 h2
   ·rw [if_neg e2] at h2
    rw [if_neg (by rw [e1];exact e2),e1];exact h2
  ·rw [if_neg e1] at h1
   have l1:=of_decide_eq_true h1
   by_cases e2:y=z
   ·rw [if_neg (by rw [←e2];exact e1),←e2];exact h1
   ·rw [if_neg e2] at h2
    have l2:=of_decide_eq_true h2;rw [if_neg (by omega)]
    exact decide_eq_true (by omega)
theorem pJ:∀a b:List Int,HT.lexLt a b=false→HT.lexLt b a=false→a=b
 | [],[],_,_=>rfl
 | [],_::_,h,_=>by cases h
 |_::_,[],_,h=>by cases h
 |x::xs,y::ys,h1,h2=>by
  rw [HT.eD] at*
  by_cases e:x=y
  ·rw [if_pos e] at h1
   rw [if_pos e.symm] at h2;rw [e,pJ xs ys h1 h2]
  ·rw [if_neg e] at h1
   rw [if_neg (λz=>e z.symm)] at h2
   have:=of_decide_eq_false h1
   have:=of_decide_eq_false h2
   omega
theorem HG(a b c:List Int)(h:HT.lexLt a c=true):HT.lexLt a b=true∨HT.lexLt b c=true:=by
 cases e1:HT.lexLt a b with
 |true=>exact .inl rfl
 |false=>
  right
  cases e2:HT.lexLt b a with
  |true=>exact sU _ _ _ e2 h
  |false=>rw [←pJ a b e1 e2];exact h
def HJ:KeyOrd where
 α:=List Int
 blt:=HT.lexLt
 irrefl:=lu
 trans:=sU
 negTrans:=HG
 total:=pJ
def gq(r:List Nat):List Int:=r.map λ(n:Nat)=>(n:Int)
def kv(a b:List Nat):Prop:=HT.lexLt (gq b) (gq a)=false
def xB(H:Hp)(L:List (Addr×List Nat)):Prop:=∀p∈L,H p.1=some (.lst ((gq p.2).map V.int))
theorem Ax{a b:List Nat}(h:(gq a).map V.int=(gq b).map V.int):a=b:=by
 unfold gq at h;rw [dZ,dZ] at h
 induction a generalizing b with
 |nil=>cases b with
  |nil=>rfl
  |cons y b=>simp at h
 |cons x a ih=>
  cases b with
  |nil=>simp at h
  |cons y b=>
   rw [fF,fF] at h
   injection h with h1 h2
   have Rx:V.int (x:Int)=V.int (y:Int):=h1
   injection Rx with Rx
   rw [ih h2,show x=y by omega]
def n9(L:List (Addr×List Nat))(v:Keyed):List Int:=match v.1 with
 | .ref a=>((L.find? λe=>e.1==a).map λe=>gq e.2).getD []
 |_=> []
theorem jY{H:Hp}{L:List (Addr×List Nat)}(hL:xB H L){e:Addr×List Nat}(he:e∈L)(v:Value):n9 L (.ref e.1,v)=gq e.2:=by
 unfold n9;dsimp only;cases hf:L.find? λx=>x.1==e.1 with
 |none=>exact absurd (List.find?_eq_none.mp hf e he) (by simp)
 |some x=>
  have hx:=List.mem_of_find?_eq_some hf;have hb:=List.find?_some hf;have e1:x.1=e.1:=by simpa using hb
  have a1:=hL x hx;have a2:=hL e he;rw [e1,a2] at a1
  injection a1 with a1
  injection a1 with a1
  show gq x.2=gq e.2;rw [Ax a1]
section
variable {X:Cx}
theorem kR(hu:X.A.units+64<cLine):bQ X (.builtin "sorted") (λxs H Q=>∃(p:Addr)(L:List (Addr×List Nat)),xs= [.ref p]∧aD X.K H p (L.map λe=>V.ref e.1)∧xB H L∧L.length≤1000∧
  ∀(q:Addr)(M:List (Addr×List Nat)),H q=none→M.Perm L→(M.map (·.2)).Pairwise kv→Q (.ref q) (upd H q (.lst (M.map λe=>V.ref e.1)))):=by
 intro pins s σ H xs us Q I rv h;obtain ⟨p,L,rfl,hp,hL,hz,q⟩:=h;obtain ⟨u,rfl,ru⟩:=rv.one;cases ru;obtain ⟨its,r,pl,_⟩:=I.list hp;have hl:=r.length;rw [aM] at hl;have cw:1000<sizeLine:=by decide
 have ei:its=L.map λe=>Value.ref e.1:=by
  have:=oN (as:=L.map (·.1)) (us:=its) (by rw [dZ];exact r)
  rw [this,dZ];rfl
 by_cases h2:L.length<2
 ·refine KS.nA pl.isList (by omega) ?_
  obtain ⟨e,he⟩:=sortedAll_at s.heap its its.toArray;have fr:H (s.heap.objs.size+1)=none:=I.hok.fresh (mr _);refine ⟨.ref (s.heap.objs.size+1),_,I.laid (t':=s.toks) (λb o hb=>sortedAll_old hb) (mr _) (o:= .lst (L.map λe=>V.ref e.1)) ⟨by rw [aM];omega,its,e,r,he⟩,rfl,q _ L fr (.refl _) ?_⟩
  match L,h2 with
  | [],_=>exact .nil
  | [_],_=>exact List.pairwise_singleton _ _
 ·have lst:∀e∈L,∀s':Shared,TS.Keeps s s'→∃items:Array Value,s'.heap.IsList e.1 items∧IntsAre items.toList (gq e.2):=λe he s' kp=>by
   obtain ⟨YV,r2,p2,_⟩:=I.list (aD.of (hL e he));obtain ⟨o,ho,hc,n,hd⟩:=p2.isList;exact ⟨YV.toArray,⟨o,kp _ _ ho,hc,n,hd⟩,by simpa using intsAre_of r2⟩
  refine TS.rT (O:=HJ) (key:=n9 L) (S:=λp=>∃e∈L,p=(Value.ref e.1,Value.ref e.1)) (k0:=oneType') pl.isList (by omega) (by omega) (λE' s' Q' kp hq=>?_) (λE' s' kp x y st Q' sx sy hk hq=>?_) (λv hv=>?_) λout ub BE=>?_
  ·refine PySem.W.kas_kind (T:= .type "list") (by omega) (λv hv=>?_) (by decide) (by decide) hq
   rw [ei] at hv;obtain ⟨e,he,rfl⟩:=bX.mp hv;obtain ⟨items,⟨o,ho,hc,_⟩,_⟩:=lst e he s' kp;rw [←hc];exact (PySem.W.Looks.ld ho).andThen .now
  ·obtain ⟨e1,m1,rfl⟩:=sx
   obtain ⟨e2,m2,rfl⟩:=sy;rw [lt'_eq];refine wpS_bind (wpS_get ?_);rw [hk,keyLt'_oneType];obtain ⟨i1,l1,n1⟩:=lst e1 m1 s' kp;obtain ⟨i2,l2,n2⟩:=lst e2 m2 s' kp;refine wpS_bind (wpS_lift (wpAny_attempt (z6 l1 l2 n1 n2 ?_ ⟨rfl,?_⟩)))
   ·rw [Around.in1_units,Around.in1_units];omega
   ·have eb:HT.lexLt (gq e1.2) (gq e2.2)=HJ.blt (n9 L (.ref e1.1, .ref e1.1)) (n9 L (.ref e2.1, .ref e2.1)):=by
     rw [jY hL m1,jY hL m2];rfl
    rw [eb];exact wpS_pure hq
  ·rw [ei] at hv
   obtain ⟨e,he,rfl⟩:=bX.mp hv;exact ⟨e,he,rfl⟩
  ·rw [ei,dZ] at ub
   obtain ⟨M,mp,em⟩:=h8 (λe:Addr×List Nat=>((Value.ref e.1,Value.ref e.1):Keyed)) out.toList L ub
   have Ho:(out.map (·.2)).toList=M.map λe=>Value.ref e.1:=by
    rw [Array.toList_map,em,dZ];rfl
   obtain ⟨c,hc⟩:=sortedAll_at s.heap its (out.map (·.2));have fr:H (s.heap.objs.size+1)=none:=I.hok.fresh (mr _);have Oi:=mp.length_eq;refine ⟨.ref (s.heap.objs.size+1),_,I.laid (t':=s.toks) (λb o hb=>sortedAll_old hb) (mr _) (o:= .lst (M.map λe=>V.ref e.1)) ⟨by rw [aM];omega,(out.map (·.2)).toList,c,?_,by rw [Array.toArray_toList];exact hc⟩,rfl,q _ M fr mp ?_⟩
   ·rw [Ho,show (λe:Addr×List Nat=>V.ref e.1)=V.ref∘(·.1) from rfl,show (λe:Addr×List Nat=>Value.ref e.1)=Value.ref∘(·.1) from rfl,←dZ,←dZ]
    exact oH _
   ·rw [em,jM] at BE
    rw [jM];refine List.Pairwise.imp_of_mem ?_ BE;intro e1 e2 m1 m2 hle;have zD:HT.lexLt (n9 L (.ref e2.1, .ref e2.1)) (n9 L (.ref e1.1, .ref e1.1))=false:=hle;rw [jY hL (mp.mem_iff.mp m1),jY hL (mp.mem_iff.mp m2)] at zD;exact zD
end
end L2
namespace PySem.SetTable
def kO(xs:Array Nat):Prop:=∀i j (hj:j<xs.size),i<j→xs[i]! <xs[j]!
theorem GQ{xs:Array Nat}{i d:Nat}(h:i<xs.size):xs.getD i d=xs[i]! :=by
 simp [Array.getD,h]
theorem tY{xs:Array Nat}(R:kO xs)(j:Nat):∀(fuel lo hi:Nat),hi-lo≤fuel→lo≤hi→hi≤xs.size→(∀i,i<lo→xs[i]! <j)→(∀i,hi≤i→i<xs.size→j≤xs[i]!)→
  lo≤below.go xs j fuel lo hi∧below.go xs j fuel lo hi≤hi∧(∀i,i<below.go xs j fuel lo hi→xs[i]! <j)∧∀i,below.go xs j fuel lo hi≤i→i<xs.size→j≤xs[i]!
 |0,lo,hi,h1,h2,h3,a,b=>by
  have:lo=hi:=by omega
  subst this;rw [below.go];exact ⟨aT _,aT _,a,b⟩
 |fuel+1,lo,hi,h1,h2,h3,a,b=>by
  rw [below.go]
  by_cases c:lo<hi
  ·rw [if_pos c]
   have hm:(lo+hi) / 2<xs.size:=by omega
   dsimp only;rw [GQ hm]
   by_cases d:xs[(lo+hi) / 2]! <j
   ·rw [if_pos d]
    have:=tY R j fuel ((lo+hi) / 2+1) hi (by omega) (by omega) h3 (λi eC=>by
     by_cases e:i=(lo+hi) / 2
     ·rw [e];exact d
     ·have:=R i ((lo+hi) / 2) hm (by omega);omega) b
    exact ⟨by omega,this.2.1,this.2.2⟩
   ·rw [if_neg d]
    have:=tY R j fuel lo ((lo+hi) / 2) (by omega) (by omega) (by omega) a (λi h4 h5=>by
     by_cases e:i=(lo+hi) / 2
     ·rw [e];omega
     ·have:=R ((lo+hi) / 2) i h5 (by omega);omega)
    exact ⟨this.1,by omega,this.2.2⟩
  ·rw [if_neg c]
   have:lo=hi:=by omega
   subst this;exact ⟨aT _,aT _,a,b⟩
theorem iZ{xs:Array Nat}(R:kO xs)(j:Nat):below xs j≤xs.size∧(∀i,i<below xs j→xs[i]! <j)∧∀i,below xs j≤i→i<xs.size→j≤xs[i]! :=by
 have:=tY R j xs.size 0 xs.size (by omega) (cW _) (aT _) (λi h=>by omega) (λi h1 h2=>by omega)
 exact ⟨this.2.1,this.2.2⟩
theorem below_at{xs:Array Nat}(R:kO xs){i j:Nat}(h:xs[i]? =some j):below xs j=i:=by
 obtain ⟨hi,e⟩:=AH.mp h;have e':xs[i]! =j:=by simp [hi,e]
 obtain ⟨b1,b2,b3⟩:=iZ R j;apply Nat.le_antisymm
 ·apply Classical.byContradiction
  intro c
  have:=b2 i (by omega)
  omega
 ·apply Classical.byContradiction
  intro c;have h1:=b3 (below xs j) (aT _) (by omega)
  have h2:=R (below xs j) i hi (by omega)
  omega
theorem oK{t:SetTable}(R:kO t.place){i j:Nat}(h:t.place[i]? =some j):t.slot j= .live i:=by
 unfold slot;rw [below_at R h];simp [h]
theorem Ap{t:SetTable}(R:kO t.place)(hd:t.dummies= #[]){j:Nat}(h:∀i:Nat,t.place[i]? ≠some j):t.slot j= .empty:=by
 unfold slot
 have h1:(t.place[below t.place j]? ==some j)=false:=by
  rw [beq_eq_false_iff_ne];exact h _
 dsimp only;rw [if_neg (by rw [h1];exact cB)]
 unfold has;rw [hd];rfl
def kM(mask:Nat)(p:Probe):Probe:=
 if p.more>0 then {p with j:=p.j+1,more:=p.more-1} else
 let (i,perturb):=leap mask p.i p.perturb
 {p with j:=i,more:=runEnd mask i-i,i,perturb}
def br(mask:Nat)(h:Int):Probe:={j:=bits h%(mask+1),more:=runEnd mask (bits h%(mask+1))-bits h%(mask+1),i:=bits h%(mask+1),perturb:=bits h,dummy:=none}
def oM(mask:Nat)(h:Int):Nat→Probe
 |0=>br mask h
 |k+1=>kM mask (oM mask h k)
def bB(mask:Nat)(h:Int)(k:Nat):Nat:=(oM mask h k).j
theorem FW(h:Int):bits h<2^64:=by
 unfold bits;have h1:0≤h%(2^64:Int):=Int.emod_nonneg _ (by decide)
 have h2:h%(2^64:Int)<2^64:=Int.emod_lt_of_pos _ (by decide)
 omega
def cV(mask:Nat)(i p:Nat):Nat→Nat×Nat
 |0=>(i,p)
 |r+1=>leap mask (cV mask i p r).1 (cV mask i p r).2
theorem jn(mask i p:Nat):∀r,(cV mask i p r).2=p / 32^r
 |0=>by simp [cV]
 |r+1=>by
  show (cV mask i p r).2 / 32=_;rw [jn mask i p r,Nat.div_div_eq_div_mul,Nat.pow_succ]
def Ks(mask:Nat)(i:Nat):Nat:=(i*5+1)%(mask+1)
def i8(mask:Nat)(i:Nat):Nat→Nat
 |0=>i
 |r+1=>Ks mask (i8 mask i r)
theorem jA(mask i:Nat)(a:Nat):∀b,i8 mask i (a+b)=i8 mask (i8 mask i a) b
 |0=>rfl
 |b+1=>by
  show Ks mask (i8 mask i (a+b))=_;rw [jA mask i a b];rfl
theorem qW{mask i p r0:Nat}(h:(cV mask i p r0).2=0):∀r,cV mask i p (r0+r)=(i8 mask (cV mask i p r0).1 r,0)
 |0=>by rw [Nat.add_zero,i8];exact Prod.ext rfl h
 |r+1=>by
  show leap mask (cV mask i p (r0+r)).1 (cV mask i p (r0+r)).2=_;rw [qW h r];unfold leap;simp [i8,Ks]
def si(mask:Nat):Prop:=mask=7∨mask=31∨mask=127∨mask=511
def O3(mask:Nat):Nat→Nat→List Nat
 |_,0=> []
 |i,n+1=>i::O3 mask (Ks mask i) n
theorem z3{mask s:Nat}:∀{i n:Nat},s∈O3 mask i n→∃r,r<n∧i8 mask i r=s
 |i,0,h=>by cases h
 |i,n+1,h=>by
  rcases cy.mp h with rfl|h
  ·exact ⟨0,by omega,rfl⟩
  ·obtain ⟨r,hr,e⟩:=z3 h
   refine ⟨r+1,by omega,?_⟩
   have:=jA mask i 1 r
   rw [show 1+r=r+1 by omega] at this
   rw [this];exact e
theorem O4{mask:Nat}(h:si mask):(∀s,s≤mask→∃r,r≤mask∧i8 mask 0 r=s)∧i8 mask 0 (mask+1)=0:=by
 have key:∀m,(List.range (m+1)).all (λs=>(O3 m 0 (m+1)).contains s)=true→∀s,s≤m→∃r,r≤m∧i8 m 0 r=s:=λm hm s hs=>by
  have:=vg.mp hm s (fE.mpr (by omega))
  obtain ⟨r,hr,e⟩:=z3 (List.contains_iff_mem.mp this);exact ⟨r,by omega,e⟩
 rcases h with rfl|rfl|rfl|rfl
 ·exact ⟨key 7 (by decide+kernel),by decide+kernel⟩
 ·exact ⟨key 31 (by decide+kernel),by decide+kernel⟩
 ·exact ⟨key 127 (by decide+kernel),by decide+kernel⟩
 ·exact ⟨key 511 (by decide+kernel),by decide+kernel⟩
theorem cover{mask:Nat}(h:si mask){i s:Nat}(hi:i≤mask)(hs:s≤mask):∃r,r≤mask∧i8 mask i r=s:=by
 obtain ⟨o,per⟩:=O4 h;obtain ⟨a,ha,rfl⟩:=o i hi;obtain ⟨b,hb,rfl⟩:=o s hs
 by_cases c:a≤b
 ·refine ⟨b-a,by omega,?_⟩
  rw [←jA,show a+(b-a)=b by omega]
 ·refine ⟨mask+1-a+b,by omega,?_⟩
  rw [←jA,show a+(mask+1-a+b)=mask+1+b by omega,jA,per]
def bR(mask:Nat)(p:Probe):Nat→Probe
 |0=>p
 |k+1=>kM mask (bR mask p k)
theorem jt(mask:Nat)(p:Probe)(a:Nat):∀b,bR mask p (a+b)=bR mask (bR mask p a) b
 |0=>rfl
 |b+1=>by
  show kM mask (bR mask p (a+b))=_;rw [jt mask p a b];rfl
theorem kh(mask:Nat)(h:Int):∀k,oM mask h k=bR mask (br mask h) k
 |0=>rfl
 |k+1=>by
  show kM mask _=kM mask _;rw [kh mask h k]
theorem qt(mask:Nat)(p:Probe):∀c,c≤p.more→bR mask p c={p with j:=p.j+c,more:=p.more-c}
 |0,_=>rfl
 |c+1,hc=>by
  show kM mask (bR mask p c)=_;rw [qt mask p c (by omega)]
  unfold kM;rw [if_pos (by show p.more-c>0;omega)]
  show ({p with j:=p.j+c+1,more:=p.more-c-1}:Probe)={p with j:=p.j+(c+1),more:=p.more-(c+1)}
  rw [show p.more-c-1=p.more-(c+1) by omega,show p.j+c+1=p.j+(c+1) by omega]
def Lw(mask:Nat)(p:Probe)(ip:Nat×Nat):Probe:={p with j:=ip.1,more:=runEnd mask ip.1-ip.1,i:=ip.1,perturb:=ip.2}
theorem more_le(mask i:Nat):runEnd mask i-i≤9:=by
 unfold runEnd
 split<;>omega
theorem nN(mask:Nat)(p:Probe):bR mask p (p.more+1)=Lw mask p (leap mask p.i p.perturb):=by
 show kM mask (bR mask p p.more)=_;rw [qt mask p p.more (aT _)];unfold kM;rw [if_neg (by show ¬p.more-p.more>0;omega)]
 rfl
theorem tG(mask:Nat)(p:Probe):∀r,∃k,k≤p.more+1+10*r∧bR mask p k=Lw mask p (cV mask p.i p.perturb (r+1))
 |0=>⟨p.more+1,by omega,nN mask p⟩
 |r+1=>by
  obtain ⟨k,hk,e⟩:=tG mask p r;have h9:=more_le mask (cV mask p.i p.perturb (r+1)).1;refine ⟨k+((runEnd mask (cV mask p.i p.perturb (r+1)).1-(cV mask p.i p.perturb (r+1)).1)+1),by omega,?_⟩
  rw [jt,e];exact nN mask (Lw mask p (cV mask p.i p.perturb (r+1)))
theorem Ai(mask i p:Nat)(r:Nat):(cV mask i p (r+1)).1≤mask:=by
 show (((cV mask i p r).1*5+1+(cV mask i p r).2 / 32)%(mask+1))≤mask
 have:=qo ((cV mask i p r).1*5+1+(cV mask i p r).2 / 32) (show 0<mask+1 by omega)
 omega
theorem DQ{mask i:Nat}(h:i≤mask):i+(runEnd mask i-i)≤mask:=by
 unfold runEnd
 split<;>omega
structure qr (mask:Nat) (p:Probe):Prop where
 le:p.j+p.more≤mask
 more:p.more≤9
 per:p.perturb<2^64
 dum:p.dummy=none
theorem qr.kM{mask:Nat}{p:Probe}(o:qr mask p):qr mask (kM mask p):=by
 unfold SetTable.kM
 split
 ·next h=>exact ⟨by show p.j+1+(p.more-1)≤mask;have:=o.le;omega,by show p.more-1≤9;have:=o.more;omega,o.per,o.dum⟩
 ·refine ⟨DQ (by have:=qo (p.i*5+1+p.perturb / 32) (show 0<mask+1 by omega);show (p.i*5+1+p.perturb / 32)%(mask+1)≤mask;omega),more_le _ _,?_,o.dum⟩
  show p.perturb / 32<2^64
  have:=o.per
  omega
theorem qr.start(mask:Nat)(h:Int):qr mask (br mask h):=⟨DQ (mask:=mask) (i:=bits h%(mask+1)) (by have:=qo (bits h) (show 0<mask+1 by omega);omega),more_le _ _,FW h,rfl⟩
theorem qr.bR{mask:Nat}{p:Probe}(o:qr mask p):∀k,qr mask (bR mask p k)
 |0=>o
 |k+1=>(o.bR k).kM
theorem meets{mask:Nat}(f:si mask){p:Probe}(o:qr mask p){s:Nat}(hs:s≤mask):∃k,k<10*turns mask∧(bR mask p k).j=s:=by
 have z:(cV mask p.i p.perturb 13).2=0:=by
  rw [jn];exact Nat.div_eq_of_lt (f6 o.per (by decide))
 obtain ⟨r,hr,e⟩:=cover f (Ai mask p.i p.perturb 12) hs;obtain ⟨k,hk,e2⟩:=tG mask p (12+r);refine ⟨k,?_,?_⟩
 ·have:=o.more
  unfold turns;omega
 ·rw [e2]
  show (cV mask p.i p.perturb (12+r+1)).1=s;rw [show 12+r+1=13+r by omega,qW z]
  exact e
theorem wV{t:SetTable}(R:kO t.place)(hd:t.dummies= #[])(hashAt:Nat→Int)(h:Int):∀(K fuel:Nat)(p:Probe),p.dummy=none→K<fuel→(∀i:Nat,t.place[i]? ≠some (bR t.mask p K).j)→
  ∃k0,k0≤K∧(∀k',k'<k0→∃i:Nat,t.place[i]? =some (bR t.mask p k').j∧hashAt i≠h)∧
   (((∀i:Nat,t.place[i]? ≠some (bR t.mask p k0).j)∧probe.go t hashAt h fuel p=some (.empty (bR t.mask p k0).j none))∨
    (∃i:Nat,t.place[i]? =some (bR t.mask p k0).j∧hashAt i=h∧probe.go t hashAt h fuel p=some (.candidate (bR t.mask p k0).j i (bR t.mask p (k0+1)))))
 |K,0,p,_,hK,_=>by omega
 |K,fuel+1,p,dn,hK,he=>by
  by_cases c:∃i:Nat,t.place[i]? =some p.j
  ·obtain ⟨i,hi⟩:=c
   have sl:=oK R hi
   by_cases c2:hashAt i=h
   ·refine ⟨0,cW _,λk' h'=>by omega, .inr ⟨i,hi,c2,?_⟩⟩
    rw [probe.go,sl];dsimp only;rw [if_pos (by simpa using c2)]
    rfl
   ·cases K with
    |zero=>exact absurd hi (he i)
    |succ K=>
     have Xb:(kM t.mask p).dummy=none:=by
      unfold kM
      split<;>exact dn
     have e1:∀k,bR t.mask (kM t.mask p) k=bR t.mask p (k+1):=λk=>by
      have:=jt t.mask p 1 k
      rw [show 1+k=k+1 by omega] at this
      exact this.symm
     obtain ⟨k0,sv,a,b⟩:=wV R hd hashAt h K fuel (kM t.mask p) Xb (by omega) (by rw [e1];exact he)
     have eg:probe.go t hashAt h (fuel+1) p=probe.go t hashAt h fuel (kM t.mask p):=by
      rw [probe.go,sl];dsimp only;rw [if_neg (by simpa using c2)]
      rfl
     refine ⟨k0+1,by omega,λk' h'=>?_,?_⟩
     ·cases k' with
      |zero=>exact ⟨i,hi,c2⟩
      |succ k'=>
       have:=a k' (by omega)
       rw [e1] at this;exact this
     ·rw [e1,e1] at b
      rw [eg];exact b
  ·have c:∀i:Nat,t.place[i]? ≠some p.j:=λi hi=>c ⟨i,hi⟩
   refine ⟨0,cW _,λk' h'=>by omega, .inl ⟨c,?_⟩⟩
   rw [probe.go,Ap R hd c];dsimp only;rw [dn];rfl
structure TOk (t:SetTable) (hs:List Int):Prop where
 few:si t.mask
 dum:t.dummies= #[]
 rise:kO t.place
 size:t.place.size=hs.length
 le:∀(i j:Nat),t.place[i]? =some j→j≤t.mask
 room:t.place.size≤t.mask
 path:∀(i:Nat)(h:Int),hs[i]? =some h→∃k,t.place[i]? =some (bB t.mask h k)∧∀k',k'<k→∃i':Nat,t.place[i']? =some (bB t.mask h k')
theorem yK(mask:Nat)(h:Int)(k:Nat):bB mask h k≤mask:=by
 unfold bB;rw [kh]
 have:=((qr.start mask h).bR k).le
 omega
theorem TOk.empty{t:SetTable}{hs:List Int}(T:TOk t hs):∃s,s≤t.mask∧∀i:Nat,t.place[i]? ≠some s:=by
 apply Classical.byContradiction;intro c
 have all:∀s∈List.range (t.mask+1),s∈t.place.toList:=λs hs=>by
  apply Classical.byContradiction;intro n;refine c ⟨s,by have:=fE.mp hs;omega,λi hi=>n ?_⟩
  rw [←eG] at hi;exact cT hi
 have:=Wb.aN List.nodup_range all
 rw [qh,bW] at this
 have:=T.room
 omega
theorem TOk.probe{t:SetTable}{hs:List Int}(T:TOk t hs)(hashAt:Nat→Int)(h:Int)(k:Nat):
  ∃k0,k≤k0∧(∀k',k≤k'→k'<k0→∃i:Nat,t.place[i]? =some (bB t.mask h k')∧hashAt i≠h)∧
   (((∀i:Nat,t.place[i]? ≠some (bB t.mask h k0))∧t.probe hashAt h (oM t.mask h k)=some (.empty (bB t.mask h k0) none))∨
    (∃i:Nat,t.place[i]? =some (bB t.mask h k0)∧hashAt i=h∧t.probe hashAt h (oM t.mask h k)=some (.candidate (bB t.mask h k0) i (oM t.mask h (k0+1))))):=by
 obtain ⟨s,eU,he⟩:=T.empty;have o:=(qr.start t.mask h).bR k;rw [←kh] at o;obtain ⟨K,hK,eK⟩:=meets T.few o eU;have e1:∀c,bR t.mask (oM t.mask h k) c=oM t.mask h (k+c):=λc=>by rw [kh,kh,←jt]
 obtain ⟨k0,h0,a,b⟩:=wV T.rise T.dum hashAt h K (10*turns t.mask) (oM t.mask h k) o.dum hK (by rw [eK];exact he)
 refine ⟨k+k0,by omega,λk' h1 h2=>?_,?_⟩
 ·have:=a (k'-k) (by omega)
  rw [e1,show k+(k'-k)=k' by omega] at this
  exact this
 ·rw [e1,e1] at b
  exact b
theorem jm{α:Type}{xs:Array α}{p:Nat}(x:α)(hp:p≤xs.size)(i:Nat):(insertAt xs p x)[i]? =if i<p then xs[i]? else if i=p then some x else xs[i-1]? :=by
 rw [←eG,SetTable.toList_insertAt];have lt:(xs.toList.take p).length=p:=by rw [jg,bW];omega
 by_cases c:i<p
 ·rw [if_pos c,kH (by omega),D9 c,eG]
 ·rw [if_neg c]
  by_cases d:i=p
  ·subst d
   rw [if_pos rfl,mm (by omega),lt,qm];rfl
  ·rw [if_neg d,mm (by omega),lt]
   obtain ⟨m,hm⟩:∃m,i-p=m+1:=⟨i-p-1,by omega⟩
   rw [hm,r6,AN,eG]
   congr 1;omega
theorem fQ{α:Type}(xs:Array α)(p:Nat)(x:α):(insertAt xs p x).size=xs.size+1:=by
 rw [←bW,(SetTable.insertAt_perm xs p x).length_eq];simp
theorem iq{xs:Array Nat}{i j:Nat}(h:xs[i]? =some j):xs[i]! =j:=by
 obtain ⟨hi,e⟩:=AH.mp h;simp [hi,e]
theorem Ft{xs:Array Nat}(R:kO xs){j:Nat}(h:∀i:Nat,xs[i]? ≠some j):kO (insertAt xs (below xs j) j):=by
 obtain ⟨b1,b2,b3⟩:=iZ R j;have g:=jm (xs:=xs) j b1;intro a b hb EJ;rw [fQ] at hb
 have val:∀i,i<xs.size+1→∃v,(insertAt xs (below xs j) j)[i]? =some v∧((i<below xs j∧xs[i]? =some v)∨(i=below xs j∧v=j)∨(below xs j<i∧xs[i-1]? =some v)):=λi hi=>by
  rw [g i]
  by_cases c:i<below xs j
  ·rw [if_pos c,xg (by omega)]
   exact ⟨_,rfl, .inl ⟨c,rfl⟩⟩
  ·rw [if_neg c]
   by_cases d:i=below xs j
   ·rw [if_pos d];exact ⟨j,rfl, .inr (.inl ⟨d,rfl⟩)⟩
   ·rw [if_neg d,xg (by omega)]
    exact ⟨_,rfl, .inr (.inr ⟨by omega,rfl⟩)⟩
 obtain ⟨va,ha,ca⟩:=val a (by omega)
 obtain ⟨vb,tZ,cb⟩:=val b (by omega)
 rw [iq ha,iq tZ];have lo:∀i v,i<below xs j→xs[i]? =some v→v<j:=λi v h1 h2=>by have:=b2 i h1;rw [iq h2] at this;exact this
 have hi:∀i v,below xs j≤i→xs[i]? =some v→j<v:=λi v h1 h2=>by
  have:=b3 i h1 (AH.mp h2).1
  rw [iq h2] at this
  have:v≠j:=λz=>h i (by rw [h2,z])
  omega
 have mid:∀i k v u,xs[i]? =some v→xs[k]? =some u→i<k→v<u:=λi k v u h1 h2 h3=>by
  have:=R i k (AH.mp h2).1 h3
  rw [iq h1,iq h2] at this;exact this
 rcases ca with ⟨a1,a2⟩ | ⟨a1,rfl⟩ | ⟨a1,a2⟩
 ·rcases cb with ⟨c1,c2⟩ | ⟨c1,rfl⟩ | ⟨c1,c2⟩
  ·exact mid _ _ _ _ a2 c2 EJ
  ·exact lo _ _ a1 a2
  ·have:=lo _ _ a1 a2;have:=hi (b-1) _ (by omega) c2;omega
 ·rcases cb with ⟨c1,c2⟩ | ⟨c1,rfl⟩ | ⟨c1,c2⟩
  ·omega
  ·omega
  ·exact hi (b-1) _ (by omega) c2
 ·rcases cb with ⟨c1,c2⟩ | ⟨c1,rfl⟩ | ⟨c1,c2⟩
  ·omega
  ·omega
  ·exact mid _ _ _ _ a2 c2 (by omega)
theorem IE{xs:Array Nat}(R:kO xs){j s:Nat}:(∃i:Nat,(insertAt xs (below xs j) j)[i]? =some s)↔s=j∨∃i:Nat,xs[i]? =some s:=by
 obtain ⟨b1,_,_⟩:=iZ R j;have g:=jm (xs:=xs) j b1
 constructor
 ·rintro ⟨i,h⟩
  rw [g i] at h
  split at h
  ·exact .inr ⟨i,h⟩
  ·split at h
   ·exact .inl (Option.some.inj h).symm
   ·exact .inr ⟨_,h⟩
 ·rintro (rfl| ⟨i,h⟩)
  ·exact ⟨below xs s,by rw [g,if_neg (by omega),if_pos rfl]⟩
  ·by_cases c:i<below xs j
   ·exact ⟨i,by rw [g,if_pos c];exact h⟩
   ·exact ⟨i+1,by rw [g,if_neg (by omega),if_neg (by omega)];exact h⟩
theorem TOk.put{t:SetTable}{hs:List Int}(T:TOk t hs){h:Int}{k:Nat}(he:∀i:Nat,t.place[i]? ≠some (bB t.mask h k))(hp:∀k',k'<k→∃i:Nat,t.place[i]? =some (bB t.mask h k'))(room:t.place.size+1≤t.mask):
  (t.put (bB t.mask h k)).2=below t.place (bB t.mask h k)∧below t.place (bB t.mask h k)≤hs.length∧
  TOk (t.put (bB t.mask h k)).1 (hs.take (below t.place (bB t.mask h k))++h::hs.drop (below t.place (bB t.mask h k))):=by
 obtain ⟨b1,b2,b3⟩:=iZ T.rise (bB t.mask h k);have g:=jm (xs:=t.place) (bB t.mask h k) b1;have sz:=T.size;have pm:=λs=>IE (s:=s) (j:=bB t.mask h k) T.rise;refine ⟨rfl,by omega,T.few,?_,Ft T.rise he,?_,?_,?_,?_⟩
 ·show (if has t.dummies _=true then _ else t.dummies)= #[]
  rw [T.dum];rfl
 ·show (insertAt t.place _ _).size=_
  rw [fQ,dE,jg,cx,vt];omega
 ·intro i j hj
  have hj:(insertAt t.place (below t.place (bB t.mask h k)) (bB t.mask h k))[i]? =some j:=hj
  rcases (pm j).mp ⟨i,hj⟩ with rfl| ⟨i',h'⟩
  ·exact yK _ _ _
  ·exact T.le _ _ h'
 ·show (insertAt t.place _ _).size≤_
  rw [fQ];exact room
 ·intro i h' hi
  show ∃k1,(insertAt t.place (below t.place (bB t.mask h k)) (bB t.mask h k))[i]? =some (bB t.mask h' k1)∧∀k',k'<k1→∃i':Nat,(insertAt t.place (below t.place (bB t.mask h k)) (bB t.mask h k))[i']? =some (bB t.mask h' k');have lt:(hs.take (below t.place (bB t.mask h k))).length=below t.place (bB t.mask h k):=by rw [jg];omega
  by_cases c:i<below t.place (bB t.mask h k)
  ·rw [kH (by omega),D9 c] at hi
   obtain ⟨k1,e1,e2⟩:=T.path i h' hi;exact ⟨k1,by rw [g,if_pos c];exact e1,λk' fP=>(pm _).mpr (.inr (e2 k' fP))⟩
  ·rw [mm (by omega),lt] at hi
   by_cases d:i=below t.place (bB t.mask h k)
   ·rw [d,qm] at hi
    cases (Option.some.inj hi);exact ⟨k,by rw [d,g,if_neg (by omega),if_pos rfl],λk' fP=>(pm _).mpr (.inr (hp k' fP))⟩
   ·obtain ⟨m,hm⟩:∃m,i-below t.place (bB t.mask h k)=m+1:=⟨i-below t.place (bB t.mask h k)-1,by omega⟩
    rw [hm,r6,AN] at hi;obtain ⟨k1,e1,e2⟩:=T.path _ h' hi;refine ⟨k1,?_,λk' fP=>(pm _).mpr (.inr (e2 k' fP))⟩;rw [g,if_neg c,if_neg d,show i-1=below t.place (bB t.mask h k)+m by omega]
    exact e1
theorem rN(mask i p:Nat):∀r,cV mask i p (r+1)=cV mask (leap mask i p).1 (leap mask i p).2 r
 |0=>rfl
 |r+1=>by
  show leap mask (cV mask i p (r+1)).1 (cV mask i p (r+1)).2=_;rw [rN mask i p r];rfl
def Own(o:Array (Option Nat))(s:Nat):Prop:=(o.getD s (some 0)).isNone=false
theorem tV{mask:Nat}(owner:Array (Option Nat)):∀(fuel:Nat)(p:Probe),p.j=p.i→p.more=runEnd mask p.i-p.i→p.i≤runEnd mask p.i→(∃r,r<fuel∧¬Own owner (cV mask p.i p.perturb r).1)→
  ∃k0,layClean.free mask owner fuel p.i p.perturb=some (bR mask p k0).j∧¬Own owner (bR mask p k0).j∧∀k',k'<k0→Own owner (bR mask p k').j
 |0,p,_,_,_,⟨r,hr,_⟩=>by omega
 |fuel+1,p,e1,e2,e3,⟨r,hr,he⟩=>by
  have run:∀c,c≤p.more→(bR mask p c).j=p.i+c:=λc hc=>by rw [qt mask p c hc];show p.j+c=_;rw [e1]
  cases hf:(List.range (runEnd mask p.i+1-p.i)).find? λk=>(owner.getD (p.i+k) (some 0)).isNone with
  |some k=>
   obtain ⟨h1,as,bs,h2,h3⟩:=List.find?_eq_some_iff_append.mp hf;have hk:k<runEnd mask p.i+1-p.i:=fE.mp (by rw [h2];simp)
   have las:as.length=k:=by
    have hl:as.length<(List.range (runEnd mask p.i+1-p.i)).length:=by rw [h2];simp
    have:=vo (n:=runEnd mask p.i+1-p.i) (i:=as.length) (by simpa using hl)
    rw [h2,mm (aT _),qm] at this;exact (Option.some.inj this).symm
   refine ⟨k,?_,?_,λk' fP=>?_⟩
   ·rw [layClean.free,hf,run k (by omega)]
   ·rw [run k (by omega)]
    unfold Own;rw [h1];exact Bool.noConfusion
   ·rw [run k' (by omega)]
    have hm:k'∈as:=by
     have:=vo (n:=runEnd mask p.i+1-p.i) (i:=k') (by omega)
     rw [h2,kH (by omega)] at this
     exact cT this
    have:=h3 k' hm
    unfold Own;exact Bool.not_eq_true' _▸this
  |none=>
   have all:=List.find?_eq_none.mp hf
   have own:∀c,c≤p.more→Own owner (p.i+c):=λc hc=>by
    have:=all c (fE.mpr (by omega))
    unfold Own;exact qi.mpr this
   cases r with
   |zero=>exact absurd (own 0 (cW _)) he
   |succ r=>
    have lp:=nN mask p
    obtain ⟨k0,a,b,c⟩:=tV owner fuel (Lw mask p (leap mask p.i p.perturb)) rfl rfl (by
     show (leap mask p.i p.perturb).1≤runEnd mask (leap mask p.i p.perturb).1;unfold runEnd;split<;>omega) ⟨r,by omega,by rw [rN] at he;exact he⟩
    rw [←lp] at a b c;have e4:∀k,bR mask (bR mask p (p.more+1)) k=bR mask p (p.more+1+k):=λk=>(jt mask p (p.more+1) k).symm;refine ⟨p.more+1+k0,?_,?_,λk' fP=>?_⟩
    ·rw [layClean.free,hf,←e4,←a,lp];rfl
    ·rw [←e4];exact b
    ·by_cases d:k'≤p.more
     ·rw [run k' d];exact own k' d
     ·have:=c (k'-(p.more+1)) (by omega)
      rw [e4,show p.more+1+(k'-(p.more+1))=k' by omega] at this
      exact this
structure Laid (mask:Nat) (hs:List Int) (owner:Array (Option Nat)) (ss:List Nat):Prop where
 size:owner.size=mask+1
 len:ss.length=hs.length
 nd:ss.Nodup
 le:∀s∈ss,s≤mask
 get:∀s,s≤mask→∀k,owner.getD s (some 0)=some k↔ss[k]? =some s
 path:∀(k:Nat)(h:Int),hs[k]? =some h→∃c,ss[k]? =some (bB mask h c)∧∀c',c'<c→bB mask h c'∈ss
theorem Laid.own{mask:Nat}{hs:List Int}{owner:Array (Option Nat)}{ss:List Nat}(L:Laid mask hs owner ss){s:Nat}(h:s≤mask):Own owner s↔s∈ss:=by
 unfold Own
 constructor
 ·intro e
  cases o:owner.getD s (some 0) with
  |none=>rw [o] at e;cases e
  |some k=>exact cT ((L.get s h k).mp o)
 ·intro e
  obtain ⟨k,hk⟩:=fZ e;rw [(L.get s h k).mpr hk];rfl
theorem BN{mask:Nat}(f:si mask){hs:List Int}{owner:Array (Option Nat)}{ss:List Nat}(L:Laid mask hs owner ss)(room:hs.length≤mask)(h:Int):
  ∃j,layClean.free mask owner (turns mask) (bits h%(mask+1)) (bits h)=some j∧Laid mask (hs++ [h]) (owner.setIfInBounds j (some hs.length)) (ss++ [j]):=by
 have o:=qr.start mask h
 obtain ⟨s,EW,qB⟩:∃s,s≤mask∧s∉ss:=by
  apply Classical.byContradiction;intro c
  have all:∀s∈List.range (mask+1),s∈ss:=λs hs=>by
   apply Classical.byContradiction;intro n;exact c ⟨s,by have:=fE.mp hs;omega,n⟩
  have:=Wb.aN List.nodup_range all
  rw [qh,L.len] at this;omega
 have z:(cV mask (br mask h).i (br mask h).perturb 13).2=0:=by
  rw [jn];exact Nat.div_eq_of_lt (f6 o.per (by decide))
 obtain ⟨r,hr,e⟩:=cover f (Ai mask (br mask h).i (br mask h).perturb 12) EW
 have hi:(br mask h).i≤mask:=by
  have:=qo (bits h) (show 0<mask+1 by omega)
  show bits h%(mask+1)≤mask;omega
 obtain ⟨k0,a,b,c⟩:=tV owner (turns mask) (br mask h) rfl rfl (by unfold runEnd;split<;>omega) ⟨13+r,by unfold turns;omega,by
  rw [qW z];show ¬Own owner (i8 mask _ r);rw [e,L.own EW];exact qB⟩
 have sl:∀k,(bR mask (br mask h) k).j=bB mask h k:=λk=>by unfold bB;rw [kh]
 rw [sl] at a b;have hle:=yK mask h k0;rw [L.own hle] at b;refine ⟨bB mask h k0,a,?_,?_,?_,?_,?_,?_⟩
 ·rw [Array.size_setIfInBounds];exact L.size
 ·rw [dE,dE,L.len];rfl
 ·exact jf.mpr ⟨L.nd,by simp,λx hx y hy z=>b (by rw [←je.mp hy,←z];exact hx)⟩
 ·intro x hx
  rcases cM.mp hx with hx|hx
  ·exact L.le x hx
  ·rw [je.mp hx];exact hle
 ·intro x hx k
  have e1:(owner.setIfInBounds (bB mask h k0) (some hs.length)).getD x (some 0)=if bB mask h k0=x then some hs.length else owner.getD x (some 0):=by
   rw [AG,AG,Array.getElem?_setIfInBounds]
   by_cases d:bB mask h k0=x
   ·rw [if_pos d,if_pos d,if_pos (by rw [L.size];omega)];rfl
   ·rw [if_neg d,if_neg d]
  rw [e1]
  by_cases d:bB mask h k0=x
  ·rw [if_pos d]
   constructor
   ·intro e
    cases (Option.some.inj e);rw [←L.len,mm (aT _),qm,←d];rfl
   ·intro e
    by_cases q:k<ss.length
    ·rw [kH q] at e
     exact absurd (by rw [d];exact cT e) b
    ·have:k<(ss++ [bB mask h k0]).length:=(bV.mp e).1
     rw [dE] at this
     have:k<ss.length+1:=this
     rw [show k=ss.length by omega,L.len]
  ·rw [if_neg d,L.get x hx k]
   constructor
   ·intro e
    rw [kH (bV.mp e).1];exact e
   ·intro e
    by_cases q:k<ss.length
    ·rw [kH q] at e;exact e
    ·have:k<(ss++ [bB mask h k0]).length:=(bV.mp e).1
     rw [dE] at this
     have:k<ss.length+1:=this
     rw [show k=ss.length by omega,mm (aT _),qm] at e
     exact absurd (Option.some.inj e) d
 ·intro k h' hk
  by_cases q:k<hs.length
  ·rw [kH q] at hk
   obtain ⟨c1,e1,e2⟩:=L.path k h' hk;exact ⟨c1,by rw [kH (by rw [L.len];exact q)];exact e1,λc' pk=>se _ (e2 c' pk)⟩
  ·have:k<(hs++ [h]).length:=(bV.mp hk).1
   rw [dE] at this
   have:k<hs.length+1:=this
   have ek:k=hs.length:=by omega
   subst ek;rw [mm (aT _),qm] at hk;cases (Option.some.inj hk);refine ⟨k0,by rw [←L.len,mm (aT _),qm];rfl,λc' pk=>se _ ?_⟩
   have:=c c' pk
   rw [sl] at this;exact (L.own (yK _ _ _)).mp this
theorem BO(mask:Nat):Laid mask [] (Array.replicate (mask+1) none) [] where
 size:=by simp
 len:=rfl
 nd:=jO
 le:=λs h=>by cases h
 get:=λs hs k=>by
  rw [AG,Array.getElem?_replicate,if_pos (by omega)]
  simp
 path:=λk h e=>by cases e
def wI(mask:Nat)(acc:Option (Array (Option Nat)×Nat))(h:Int):Option (Array (Option Nat)×Nat):=do
 let (owner,k) ←acc
 let j ←layClean.free mask owner (turns mask) (bits h%(mask+1)) (bits h)
 pure (owner.setIfInBounds j (some k),k+1)
theorem wJ{mask:Nat}(f:si mask):∀(rest done:List Int)(owner:Array (Option Nat))(ss:List Nat),Laid mask done owner ss→done.length+rest.length≤mask+1→
  ∃pS Pg,rest.foldl (wI mask) (some (owner,done.length))=some (pS,done.length+rest.length)∧Laid mask (done++rest) pS Pg
 | [],done,owner,ss,L,_=>⟨owner,ss,rfl,by rw [jh];exact L⟩
 |h::rest,done,owner,ss,L,hl=>by
  rw [cx] at hl;obtain ⟨j,e,L'⟩:=BN f L (by omega) h
  have ef:wI mask (some (owner,done.length)) h=some (owner.setIfInBounds j (some done.length),done.length+1):=by
   unfold wI;simp [e]
  obtain ⟨pS,Pg,e2,L2⟩:=wJ f rest (done++ [h]) _ _ L' (by rw [dE];show done.length+1+rest.length≤_;omega)
  refine ⟨pS,Pg,?_,by rw [nI] at L2;exact L2⟩
  rw [List.foldl_cons,ef];rw [dE] at e2;have e2:rest.foldl (wI mask) (some (owner.setIfInBounds j (some done.length),done.length+1))=some (pS,done.length+1+rest.length):=e2;rw [e2,cx]
  congr 2;omega
theorem yg{mask:Nat}(f:si mask)(hs:List Int)(room:hs.length≤mask+1):∃owner ss,layClean mask hs.toArray=some owner∧Laid mask hs owner ss:=by
 obtain ⟨owner,ss,e,L⟩:=wJ f hs [] _ _ (BO mask) (by simpa using room)
 refine ⟨owner,ss,?_,by simpa using L⟩
 have:layClean mask hs.toArray=(hs.foldl (wI mask) (some (Array.replicate (mask+1) none,0))).map (·.1):=by
  unfold layClean;rw [List.foldl_toArray];rfl
 have e:hs.foldl (wI mask) (some (Array.replicate (mask+1) none,0))=some (owner,[].length+hs.length):=e;rw [this,e];rfl
def cS(mask:Nat)(owner:Array (Option Nat)):List (Nat×Nat):=(List.range (mask+1)).filterMap λj=>(owner.getD j none).map (j,·)
theorem E4{mask:Nat}{hs:List Int}{owner:Array (Option Nat)}{ss:List Nat}(L:Laid mask hs owner ss){j k:Nat}:(j,k)∈cS mask owner↔ss[k]? =some j:=by
 unfold cS;rw [List.mem_filterMap]
 have dflt:∀s,s≤mask→owner.getD s none=owner.getD s (some 0):=λs hs=>by
  rw [AG,AG,xg (by rw [L.size];omega)];rfl
 constructor
 ·rintro ⟨s,eU,e⟩
  have eU:=fE.mp eU;rw [dflt s (by omega)] at e
  cases o:owner.getD s (some 0) with
  |none=>rw [o] at e;cases e
  |some k'=>
   rw [o] at e;have e:=Option.some.inj e;have e1:s=j:=(Prod.mk.inj e).1;have e2:k'=k:=(Prod.mk.inj e).2;rw [←e1,←e2];exact (L.get s (by omega) k').mp o
 ·intro e
  have hj:=L.le j (cT e);refine ⟨j,fE.mpr (by omega),?_⟩
  rw [dflt j hj,(L.get j hj k).mpr e];rfl
theorem BS(mask:Nat)(owner:Array (Option Nat)):((cS mask owner).map (·.1)).Pairwise (·<·):=by
 unfold cS;rw [jM,List.pairwise_filterMap];refine List.pairwise_lt_range.imp λ {a b} h x hx y hy=>?_;cases oa:owner.getD a none with
 |none=>rw [oa] at hx;cases hx
 |some ka=>
  cases ob:owner.getD b none with
  |none=>rw [ob] at hy;cases hy
  |some kb=>
   rw [oa] at hx;rw [ob] at hy;cases (Option.some.inj hx);cases (Option.some.inj hy);exact h
theorem HD{mask:Nat}(f:si mask)(hs:List Int)(room:hs.length≤mask)(finger moves:Nat)(led plain:Bool):
  ∃t order,laid mask finger moves led plain hs.toArray=some (t,order)∧t.mask=mask∧t.led=led∧t.plain=plain∧t.moves=moves∧order.toList.Perm (List.range hs.length)∧TOk t (order.toList.map λk=>hs.getD k 0):=by
 obtain ⟨owner,ss,e,L⟩:=yg f hs (by omega)
 have lm:=λ {j k:Nat}=>E4 (j:=j) (k:=k) L;have ri:=BS mask owner
 have yt:((cS mask owner).map (·.2)).Nodup:=by
  rw [AI,jM];rw [jM] at ri;refine ri.imp_of_mem λ {a b} ha hb EJ z=>?_;obtain ⟨aj,ak⟩:=a;obtain ⟨bj,bk⟩:=b;have h1:=lm.mp ha;have h2:=lm.mp hb;have z:ak=bk:=z;rw [z,h2] at h1
  have:=Option.some.inj h1
  have EJ:aj<bj:=EJ;omega
 have perm:((cS mask owner).map (·.2)).Perm (List.range hs.length):=by
  refine (D7 yt List.nodup_range).mpr λk=>?_;rw [bX,fE]
  constructor
  ·rintro ⟨⟨j,k'⟩,h,rfl⟩
   have:=(bV.mp (lm.mp h)).1
   rw [L.len] at this;exact this
  ·intro hk
   have fP:k<ss.length:=by rw [L.len];exact hk
   exact ⟨(ss[k],k),lm.mpr (cN fP),rfl⟩
 have ll:(cS mask owner).length=hs.length:=by
  have:=perm.length_eq
  simpa using this
 refine ⟨{mask,place:=((cS mask owner).map (·.1)).toArray,dummies:= #[],finger,led,moves,plain},((cS mask owner).map (·.2)).toArray,?_,rfl,rfl,rfl,rfl,by simpa using perm,?_⟩
 ·unfold laid
  rw [e];rfl
 have Iz:∀(i j:Nat),((cS mask owner).map (·.1)).toArray[i]? =some j↔∃k,(cS mask owner)[i]? =some (j,k):=λi j=>by
  rw [List.getElem?_toArray,bH];cases o:(cS mask owner)[i]? with
  |none=>simp
  |some x=>
   obtain ⟨a,b⟩:=x;simp
 have YU:∀s,s∈ss→∃i:Nat,((cS mask owner).map (·.1)).toArray[i]? =some s:=λs eU=>by
  obtain ⟨k,hk⟩:=fZ eU;obtain ⟨i,hi⟩:=fZ (lm.mpr hk);exact ⟨i,(Iz i s).mpr ⟨k,hi⟩⟩
 refine ⟨f,rfl,?_,?_,?_,?_,?_⟩
 ·intro a b hb EJ
  have hb:b<((cS mask owner).map (·.1)).length:=by simpa using hb
  have:=vj.mp ri a b (by omega) hb EJ
  simp [show a<(cS mask owner).length by simpa using (show a<((cS mask owner).map (·.1)).length by omega),show b<(cS mask owner).length by simpa using hb]
  simpa using this
 ·simp
 ·intro i j h
  obtain ⟨k,hk⟩:=(Iz i j).mp h;exact L.le j (cT (lm.mp (cT hk)))
 ·show ((cS mask owner).map (·.1)).toArray.size≤mask
  simp [ll];exact room
 ·intro i h' hi
  rw [bH] at hi;cases o:(cS mask owner)[i]? with
  |none=>
   have:(((cS mask owner).map (·.2)).toArray.toList)[i]? =none:=by simp [o]
   rw [this] at hi;cases hi
  |some x=>
   obtain ⟨j,k⟩:=x;have e1:(((cS mask owner).map (·.2)).toArray.toList)[i]? =some k:=by simp [o]
   rw [e1] at hi;have sk:=lm.mp (cT o);have hk:k<hs.length:=by rw [←L.len];exact (bV.mp sk).1
   have eh:hs[k]? =some h':=by
    rw [←Option.some.inj hi];show _=some (hs.getD k 0);rw [fW,cN hk];rfl
   obtain ⟨c,p1,p2⟩:=L.path k h' eh;rw [sk] at p1;refine ⟨c,(Iz i _).mpr ⟨k,by rw [o,Option.some.inj p1]⟩,λc' pk=>YU _ (p2 c' pk)⟩
end PySem.SetTable
namespace PySem
open SetTable PyProof.Rows
def fi(w:World):Bool:=w.params.followText "set-order"
structure ko (bt:Bool) (o:Obj) (es:Array (Int×Value)) (ep:Nat) (t:SetTable):Prop where
 ex:o.ExactSet
 dat:o.data= .set es ep t
 tok:TOk t (es.toList.map (·.1))
 pl:t.plain=true
 ld:t.led= !bt
 few:5*es.size<3*t.mask
theorem TOk.fits{t:SetTable}{hs:List Int}(T:TOk t hs):t.fits hs.length=true:=by
 simp only [SetTable.fits,SetTable.fill,T.dum,T.size,xp,beq_iff_eq,decide_eq_true_eq,true_and]
 have:=T.room
 rw [T.size] at this;simpa using this
theorem ko.fits{w:Bool}{o:Obj}{es:Array (Int×Value)}{ep:Nat}{t:SetTable}(S:ko w o es ep t):t.fits es.size=true:=by
 have:=TOk.fits S.tok
 simpa using this
theorem Ex{mask n:Nat}(f:si mask)(h:5*n<3*mask):n+1≤mask:=by
 rcases f with rfl|rfl|rfl|rfl<;>omega
theorem Br{mask n:Nat}(f:si mask)(h1:3*mask≤5*n)(h2:5*(n-1)<3*mask)(h3:n≤306):si (sizeAbove (grown n)-1)∧5*n<3*(sizeAbove (grown n)-1)∧n≤sizeAbove (grown n)-1∧sizeAbove (grown n)≤512:=by
 rcases f with rfl|rfl|rfl|rfl
 ·have:n=5:=by omega
  subst this;exact ⟨.inr (.inl rfl),by decide,by decide,by decide⟩
 ·have:n=19:=by omega
  subst this;exact ⟨.inr (.inr (.inl rfl)),by decide,by decide,by decide⟩
 ·have:n=77:=by omega
  subst this;exact ⟨.inr (.inr (.inr rfl)),by decide,by decide,by decide⟩
 ·omega
theorem Cp{t:SetTable}{es:Array (Int×Value)}(T:TOk t (es.toList.map (·.1)))(full:t.tooFull=true)(near:5*(es.size-1)<3*t.mask)(small:es.size≤306):
  ∃t' order,t.relaid (es.map (·.1)) (grown es.size)=some (t',order)∧order.toList.Perm (List.range es.size)∧(order.filterMap (es[·]?)).toList.Perm es.toList∧(order.filterMap (es[·]?)).size=es.size∧
   TOk t' ((order.filterMap (es[·]?)).toList.map (·.1))∧t'.plain=t.plain∧t'.led=t.led∧5*es.size<3*t'.mask∧sizeAbove (grown es.size)≤512:=by
 have sz:t.place.size=es.size:=by rw [T.size];simp
 have f1:3*t.mask≤5*es.size:=by
  unfold SetTable.tooFull SetTable.fill at full;rw [T.dum,sz] at full;simp at full;omega
 obtain ⟨g1,g2,g3,g4⟩:=Br T.few f1 near small;obtain ⟨t',order,e,em,el,ep,_,pm,tk⟩:=HD g1 (es.toList.map (·.1)) (by simpa using g3) t.finger (t.movedTo (sizeAbove (grown es.size)-1)) t.led t.plain
 rw [aM,bW] at pm
 have pf:(order.filterMap (es[·]?)).toList.Perm es.toList:=by
  rw [Array.toList_filterMap];exact (pm.filterMap _).trans (by rw [filterMap_getElem?_range])
 have sf:(order.filterMap (es[·]?)).size=es.size:=by rw [←bW,pf.length_eq,bW]
 refine ⟨t',order,?_,pm,pf,sf,?_,ep,el,by rw [em];exact g2,g4⟩
 ·unfold SetTable.relaid
  rw [show es.map (·.1)=(es.toList.map (·.1)).toArray by apply Array.toList_inj.mp;simp]
  exact e
 ·have:(order.filterMap (es[·]?)).toList.map (·.1)=order.toList.map λk=>(es.toList.map (·.1)).getD k 0:=by
   rw [Array.toList_filterMap];have lt:∀k∈order.toList,k<es.size:=λk hk=>fE.mp (pm.mem_iff.mp hk);generalize order.toList=l at lt
   induction l with
   |nil=>rfl
   |cons k l ih=>
    have hk:=lt k (b7 ..);rw [List.filterMap_cons_some (b:=es[k]) (by simp [hk]),fF,fF,ih λj hj=>lt j (cm _ hj)]
    simp [hk]
  rw [this];exact tk
end PySem
set_option maxHeartbeats 1000000
namespace PySem
open SetTable PyProof.Rows
section
variable {prog:Program} {w:World} {A:Around} {E:Value→Shared→Prop} {s:Shared}
theorem rR{h:Heap}{a:Addr}{o:Obj}{es:Array (Int×Value)}{ep:Nat}{t:SetTable}(ho:h.get? a=some o)(hd:o.data= .set es ep t)(jW:Array (Int×Value))(t':SetTable):
  (h.update a (Obj.putSet jW t')).get? a=some {o with data:= .set jW (ep+1) t'}:=by
 have:=Heap.get?_update_self (Obj.putSet jW t') ho (by rw [putSet_of jW t' hd];rfl)
 rw [putSet_of jW t' hd] at this;exact this
theorem tM{Q₁:Value→Shared→Prop}
  (h:Q₁ (.ref s.heap.objs.size) {s with heap:=s.heap.push {cls:= .type "set",dict:=none,data:= .set #[] 0 (.fresh 0 0 (!fi w))}}):
  codeAny (model prog w) A (.call (.builtin "set.__new__") ⟨[.type "set"],[]⟩) (wants Q₁ E) s:=by
 refine codeAny_of_tree ?_;show wpAny _ A.in1 (do checkBuiltinCall "set.__new__" ⟨[.type "set"],[]⟩;again (.builtin "set.__new__" ⟨[.type "set"],[]⟩)) _ _ s
 refine wpAny_bind (wpAny_of_eq F.newCall_set_0 (wpAny_pure ⟨plainId_quiet F.plain_set_new _,codeAny_builtin F.entry_set_new ?_⟩));rw [Around.under_plainId F.plain_set_new _];unfold Builtin.«set.__new__» Builtin.Frozenset.newClass;have SD:=sub_set_self;obtain ⟨hp,g,d,tk,os⟩:=s;dsimp only
 wp_walk
 refine wpAny_askSetting (wpAny_pure ?_);dsimp only;simp only [newObj];refine wpAny_bind (wpAny_alloc (wpAny_pure ?_));exact wpAny_pure h
theorem xG{Q:Value→Shared→Prop}
  (h:Q (.ref s.heap.objs.size) {s with heap:=s.heap.push {cls:= .type "set",dict:=none,data:= .set #[] 0 (.fresh 0 0 (!fi w))}}):
  wpAny (model prog w) A (call (.type "set") []) Q E s:=by
 obtain ⟨c,tl,aaf⟩:=F.called_set.mro;have Yq:=F.called_set.made;have SD:=F.called_set.sub;refine wpAny_call (codeAny_of_tree ?_);show wpAny _ _ (callAny (.type "set") _) _ _ _;refine wpAny_pure ⟨Code.quiet_builtin _ (by decide+kernel),codeAny_builtin F.entry_type_call ?_⟩
 rw [Around.under_plain (weight_type_call_type "set" [] []) rfl];have h1:=F.called_set.notType;have h2:=F.called_set.canCreate;have hct:=F.typeCall_set_0
 repeat (any_goals (first|assumption|wp_step))
 refine codeAny_mono (tM (E:=E) (Q₁:=λobj s₁=>obj= .ref s.heap.objs.size∧s₁={s with heap:=s.heap.push {cls:= .type "set",dict:=none,data:= .set #[] 0 (.fresh 0 0 (!fi w))}}) ⟨rfl,rfl⟩) λr s₁ hr=>?_
 cases r with
 |error e=>exact hr
 |ok fl=>
  cases fl with
  |ret obj=>
   obtain ⟨rfl,rfl⟩:=hr;have hS:(s.heap.push {cls:= .type "set",dict:=none,data:= .set #[] 0 (.fresh 0 0 (!fi w))}).get? s.heap.objs.size=some {cls:= .type "set",dict:=none,data:= .set #[] 0 (.fresh 0 0 (!fi w))}:=Heap.get?_push_size _ rfl;have hT:Shared.TypeIs {s with heap:=s.heap.push {cls:= .type "set",dict:=none,data:= .set #[] 0 (.fresh 0 0 (!fi w))}} (.ref s.heap.objs.size) "set":=⟨_,hS,rfl⟩
   have hli:=F.called_set.init.lookup;have hbi:=F.called_set.init.bind (.ref s.heap.objs.size)
   repeat (any_goals (first|assumption|wp_step))
   refine codeAny_mono (codeAny_call_builtin (R:=wants (λr D2=>r= .none∧Q (.ref s.heap.objs.size) D2) E) F.called_set.init.plain F.entry_set_init (check_set_init hT ?_)) λU9 D2 BG=>?_
   ·unfold Builtin.«set.__init__» noKeywords
    wp_walk
    exact ⟨rfl,h⟩
   ·cases U9 with
    |error e=>exact BG
    |ok NN=>
     cases NN with
     |ret r=>
      obtain ⟨rfl,hq⟩:=BG
      repeat (any_goals (first|assumption|wp_step))
     |_=>exact BG.elim
  |_=>exact hr.elim
theorem ko.new(w:World):ko (fi w) {cls:= .type "set",dict:=none,data:= .set #[] 0 (.fresh 0 0 (!fi w))} #[] 0 (.fresh 0 0 (!fi w)) where
 ex:=⟨rfl,rfl,rfl⟩
 dat:=rfl
 tok:=⟨.inl rfl,rfl,λi j hj=>by simp [SetTable.fresh] at hj,rfl,λi j h=>by simp [SetTable.fresh] at h,by simp [SetTable.fresh],λi h e=>by simp at e⟩
 pl:=rfl
 ld:=rfl
 few:=by simp [SetTable.fresh]
end
section
variable {prog:Program} {w:World} {A:Around} {E:Value→Shared→Prop} {s:Shared}
theorem ItemsAre.ints{ks:List Int}{vs:List Value}(h:ItemsAre (intKind prog w) ks vs):∀v∈vs,∃i t,v= .int i t:=by
 induction h with
 |nil=>intro v hv;simp at hv
 | @cons k v' ks vs h1 _ ih=>
  intro v hv
  rcases cy.mp hv with rfl|hv
  ·obtain ⟨t,rfl⟩:=Value.isInt_shape h1
   exact ⟨k,t,rfl⟩
  ·exact ih v hv
theorem lZ{ks:List Int}{a:Addr}{Q:Bool→Shared→Prop}(hk:IsTupleKey (intKind prog w) s.heap ks a)(h:Q false s):wpAny (model prog w) A (ofAClassStatement 8 (.ref a)) Q E s:=by
 have hT:=hk.typeIs;obtain ⟨o,items,n,ho,_,hd,hi⟩:=hk;unfold ofAClassStatement;refine wpAny_bind (wpAny_typeOf hT ?_);dsimp only;simp only [beq_self_eq_true, ↓reduceIte];refine wpAny_bind (wpAny_pure ?_);simp only [Bool.not_true,eH, ↓reduceIte];refine wpAny_bind (wpAny_seqItems ho hd ?_);dsimp only;refine wpAny_bind ?_;rw [←Array.forIn_toList];refine wpAny_forIn_list _ (λrest r s'=>r.1=none∧s'=s∧∀v∈rest,∃i t,v=Value.int i t) _ ?_ ?_ _ _ ⟨rfl,rfl,hi.ints⟩
 ·rintro v rest r s' ⟨hr,rfl,gZ⟩
  obtain ⟨i,t,rfl⟩:=gZ v b7;refine wpAny_bind (wpAny_of_eq (show ofAClassStatement 7 (.int i t)=pure false from by unfold ofAClassStatement;rfl) ?_)
  simp only [eH,if_false];exact wpAny_pure ⟨rfl,rfl,λu Hu=>gZ u (cm _ Hu)⟩
 ·rintro ⟨r1,r2⟩ s' ⟨hr,rfl,_⟩
  simp only at hr;subst hr;exact wpAny_pure h
theorem AD{ks:List Int}{b:Addr}{Q:Bool→Shared→Prop}(hk:IsTupleKey (intKind prog w) s.heap ks b)(stored:List Value)(hs:∀y∈stored,∃k' a,y=Value.ref a∧IsTupleKey (intKind prog w) s.heap k' a)(h:Q false s):
  wpAny (model prog w) A (searchCouldBeSeen (.ref b) stored) Q E s:=by
 unfold searchCouldBeSeen;refine wpAny_bind ?_;refine wpAny_forIn_list _ (λrest r s'=>r.1=none∧s'=s∧∀y∈rest,∃k' a,y=Value.ref a∧IsTupleKey (intKind prog w) s.heap k' a) _ ?_ ?_ _ _ ⟨rfl,rfl,hs⟩
 ·rintro y rest r s' ⟨hr,rfl,gZ⟩
  obtain ⟨k',a,rfl,fP⟩:=gZ y b7;have tl:∀y∈rest,∃k' a,y=Value.ref a∧IsTupleKey (intKind prog w) s'.heap k' a:=λy hy=>gZ y (cm _ hy);have e:(carriedByValue (Value.ref b)&&carriedByValue (Value.ref a))=false:=by simp [carriedByValue]
  dsimp only;rw [e,Bool.or_false]
  by_cases c:(b==a)=true
  ·rw [if_pos c]
   exact wpAny_pure ⟨rfl,rfl,tl⟩
  ·rw [if_neg c]
   refine wpAny_bind (wpAny_eqIsQuiet_tuple hk ?_);simp only [Bool.not_true,eH,if_false];refine wpAny_bind (wpAny_eqIsQuiet_tuple fP ?_);simp only [Bool.not_true,eH,if_false];refine wpAny_bind (lZ hk ?_);simp only [eH,if_false];refine wpAny_bind (lZ fP ?_);simp only [eH,if_false];exact wpAny_pure ⟨rfl,rfl,tl⟩
 ·rintro ⟨r1,r2⟩ s' ⟨hr,rfl,_⟩
  simp only at hr;subst hr;exact wpAny_pure h
theorem vV{ks:List Int}{a:Addr}{Q:Bool→Shared→Prop}(hk:IsTupleKey (intKind prog w) s.heap ks a)(h:Q true s):wpAny (model prog w) A (hashByValue 8 (.ref a)) Q E s:=by
 have hT:=hk.typeIs;obtain ⟨o,items,n,ho,_,hd,hi⟩:=hk;unfold hashByValue;refine wpAny_bind (wpAny_specialOf hT F.slot_tuple_hash.lookup ?_);dsimp only;refine wpAny_bind (wpAny_seqItems ho hd ?_);refine wpAny_bind ?_;show wpAny _ _ (forIn items _ _) _ _ s;rw [←Array.forIn_toList];refine wpAny_forIn_list _ (λrest r s'=>r.1=none∧s'=s∧∀v∈rest,∃i t,v=Value.int i t) _ ?_ ?_ _ _ ⟨rfl,rfl,hi.ints⟩
 ·rintro v rest r s' ⟨hr,rfl,gZ⟩
  obtain ⟨i,t,rfl⟩:=gZ v b7;refine wpAny_bind (wpAny_of_eq (show hashByValue 7 (.int i t)=pure true from by unfold hashByValue;rfl) ?_)
  simp only [Bool.not_true,eH,if_false];exact wpAny_pure ⟨rfl,rfl,λu Hu=>gZ u (cm _ Hu)⟩
 ·rintro ⟨r1,r2⟩ s' ⟨hr,rfl,_⟩
  simp only at hr;subst hr;exact wpAny_pure h
def FN(prog:Program)(w:World)(h:Heap)(es:Array (Int×Value)):Prop:=∀(i:Nat)(e:Int×Value),es[i]? =some e→∃k a,e=(tupleKeyHash (intKind prog w) k, .ref a)∧IsTupleKey (intKind prog w) h k a
def Jh(es:Array (Int×Value))(i:Nat):Int:=(es[i]?.map (·.1)).getD 0
theorem GJ{m:Nat}(h:si m):m%2=1:=by rcases h with rfl|rfl|rfl|rfl<;>rfl
theorem w4{xs:Array Nat}(R:kO xs){i j v:Nat}(hi:xs[i]? =some v)(hj:xs[j]? =some v):i=j:=by
 rw [←below_at R hi,←below_at R hj]
theorem nE{a:Addr}{o:Obj}{es:Array (Int×Value)}{ep:Nat}{t:SetTable}{b:Addr}{ks:List Int}{eJ:Bool}{Q:SetFound→Shared→Prop}(hu:A.units<cLine)(ho:s.heap.get? a=some o)(S:ko (fi w) o es ep t)(P:FN prog w s.heap es)(hk:IsTupleKey (intKind prog w) s.heap ks b)
  (J4:(∃(i:Nat)(c:Addr),es[i]? =some (tupleKeyHash (intKind prog w) ks, .ref c)∧IsTupleKey (intKind prog w) s.heap ks c)→∀r:Option Nat,(eJ=false→r.isSome=true)→Q (.there r) s)
  (xS:(∀(i:Nat)(e:Int×Value),es[i]? =some e→∀c,e.2= .ref c→¬IsTupleKey (intKind prog w) s.heap ks c)→∀k0,(∀i:Nat,t.place[i]? ≠some (bB t.mask (tupleKeyHash (intKind prog w) ks) k0))→(∀k',k'<k0→∃i:Nat,t.place[i]? =some (bB t.mask (tupleKeyHash (intKind prog w) ks) k'))→
   Q (.free (bB t.mask (tupleKeyHash (intKind prog w) ks) k0) false) s):
  wpAny (model prog w) A (setSearch a (.ref b) (tupleKeyHash (intKind prog w) ks) eJ) Q E s:=by
 generalize hh:tupleKeyHash (intKind prog w) ks=h at*;have T:=S.tok;obtain ⟨s0,YB,RU⟩:=T.empty;obtain ⟨K,hK,eK⟩:=meets T.few (qr.start t.mask h) YB;have eK:bB t.mask h K=s0:=by unfold bB;rw [kh];exact eK
 have kb:K<6000:=by
  have:10*turns t.mask≤5260:=by
   rcases T.few with e|e|e|e<;>rw [e]<;>decide
  omega
 have sz:t.place.size=es.size:=by rw [T.size];simp
 have hN:(t.mask%2==0)=false:=by rw [GJ T.few];rfl
 have main:∀(n:Nat)(k:Nat)(fuel:Nat)(uS:Option Probe),K+1-k≤n→n<fuel→k≤K→uS.getD (t.probeStart h)=oM t.mask h k→(∀k',k'<k→∃i:Nat,t.place[i]? =some (bB t.mask h k'))→
   (∀(i:Nat) c,es[i]? =some (h, .ref c)→IsTupleKey (intKind prog w) s.heap ks c→∀kx,t.place[i]? =some (bB t.mask h kx)→k≤kx)→
   wpAny (model prog w) A (setSearchFrom a (.ref b) h eJ fuel uS) Q E s:=by
  intro n
  induction n with
  |zero=>intro k fuel uS h1 h2 h3;omega
  |succ n ih=>
   intro k fuel uS h1 h2 h3 h4 h5 h6;obtain ⟨f,rfl⟩:∃f,fuel=f+1:=⟨fuel-1,by omega⟩
   unfold setSearchFrom;refine wpAny_bind (wpAny_setState_of ho S.dat S.fits ?_);dsimp only;unfold SetTable.gaveWay;rw [hN];simp only [eH,if_false]
   have RB:∀(i:Nat)(e:Int×Value),es[i]? =some e→Jh es i=e.1:=λi e hi=>by
    show (es[i]?.map (·.1)).getD 0=e.1;rw [hi];rfl
   generalize hq:t.probe _ h (uS.getD (t.probeStart h))=r;have hq:t.probe (Jh es) h (oM t.mask h k)=r:=by rw [←h4];exact hq
   generalize Jh es=hA at RB hq;obtain ⟨k0,sv,hp,alt⟩:=TOk.probe T hA h k
   have k0K:k0≤K:=by
    apply Classical.byContradiction;intro c;obtain ⟨i,hi,_⟩:=hp K h3 (by omega)
    rw [eK] at hi;exact RU i hi
   have KH:∀k',k'<k0→∃i:Nat,t.place[i]? =some (bB t.mask h k'):=λk' h'=>by
    by_cases c:k'<k
    ·exact h5 k' c
    ·obtain ⟨i,hi,_⟩:=hp k' (by omega) h'
     exact ⟨i,hi⟩
   have later:∀(i:Nat) c,es[i]? =some (h, .ref c)→IsTupleKey (intKind prog w) s.heap ks c→∀kx,t.place[i]? =some (bB t.mask h kx)→k0≤kx:=λi c hi hc kx xZ=>by
    have Yk:=h6 i c hi hc kx xZ;apply Classical.byContradiction;intro z;obtain ⟨i',eC,gP⟩:=hp kx Yk (by omega)
    have:i=i':=w4 T.rise xZ eC
    subst this;exact gP (RB i _ hi)
   rcases alt with ⟨Hd,ep⟩ | ⟨i,hi,Bx,ep⟩
   ·rw [ep] at hq
    subst hq;dsimp only;refine wpAny_pure (xS (λi e hi c hc Sd=>?_) k0 Hd KH);obtain ⟨k',a',e1,fP⟩:=P i e hi;subst e1;cases hc
    have:k'=ks:=fP.inj Sd
    subst this;rw [hh] at hi;obtain ⟨ky,SM,YM⟩:=T.path i h (by rw [bH,eG,hi];rfl)
    have lt:=later i _ hi Sd ky SM
    by_cases c1:k0<ky
    ·obtain ⟨i',eC⟩:=YM k0 c1
     exact Hd i' eC
    ·have:ky=k0:=by omega
     subst this;exact Hd i SM
   ·rw [ep] at hq
    subst hq;dsimp only
    have OJ:i<es.size:=by
     have:=(AH.mp hi).1
     omega
    obtain ⟨k',c,e1,fP⟩:=P i es[i] (xg OJ);have ei:es[i]? =some (tupleKeyHash (intKind prog w) k', .ref c):=by rw [xg OJ,e1]
    have rest:wpAny (model prog w) A (match es[i]? with
      |some (fst,y)=>do
       let equal ←holding [y] (eqBool y (Value.ref b))
       let __x ←setState a
       if (eJ&&equal)=true then pure (SetFound.there none)
        else
         match __x.2.snd.sameMemory t.moves t.mask with
         |some same=>
          match if same=true then __x.2.snd.slot (bB t.mask h k0) else Slot.empty with
          |Slot.live i'=>
           match __x.fst[i']? with
           |some (fst,y')=>do
            let __do_lift ←isSame y' y
            let uT ←pure (if __do_lift=true then some i' else none)
            match uT with
             |none=>do
              rule "set.search.anew"
              setSearchFrom a (Value.ref b) h eJ f none
             |some i'=>
              if equal=true then pure (SetFound.there (some i'))
              else setSearchFrom a (Value.ref b) h eJ f (some (oM t.mask h (k0+1)))
           |none=>do
            let uT ←pure none
            match uT with
             |none=>do
              rule "set.search.anew"
              setSearchFrom a (Value.ref b) h eJ f none
             |some i'=>
              if equal=true then pure (SetFound.there (some i'))
              else setSearchFrom a (Value.ref b) h eJ f (some (oM t.mask h (k0+1)))
          |x=>do
           let uT ←pure none
           match uT with
            |none=>do
             rule "set.search.anew"
             setSearchFrom a (Value.ref b) h eJ f none
            |some i'=>
             if equal=true then pure (SetFound.there (some i'))
             else setSearchFrom a (Value.ref b) h eJ f (some (oM t.mask h (k0+1)))
         |x=>unsupported "set.changed-during-lookup:is-the-new-block-at-the-old-address"
      |x=>unsupported "internal:set-entry") Q E s:=by
     rw [ei];dsimp only;refine wpAny_bind (wpAny_holding (wpAny_eqBool_tuple hu fP hk ?_));refine wpAny_bind (wpAny_setState_of ho S.dat S.fits ?_);dsimp only;have sm:t.sameMemory t.moves t.mask=some true:=by unfold SetTable.sameMemory;simp
     have gP:k'≠ks→wpAny (model prog w) A (setSearchFrom a (Value.ref b) h eJ f (some (oM t.mask h (k0+1)))) Q E s:=λne=>by
      by_cases kk:k0=K
      ·subst kk
       rw [eK] at hi;exact absurd hi (RU i)
      refine ih (k0+1) f _ (by omega) (by omega) (by omega) rfl (λKi h''=>?_) λi' c' eC pk kx xZ=>?_
      ·by_cases z:Ki=k0
       ·subst z;exact ⟨i,hi⟩
       ·exact KH Ki (by omega)
      ·have l1:=later i' c' eC pk kx xZ
       have:kx≠k0:=λz=>by
        subst z
        have:i'=i:=w4 T.rise xZ hi
        subst this;rw [ei] at eC;cases eC;exact ne (fP.inj pk)
       omega
     have there:k'=ks→∀r:Option Nat,(eJ=false→r.isSome=true)→Q (.there r) s:=λe=>by
      subst e;rw [hh] at ei;exact J4 ⟨i,c,ei,fP⟩
     by_cases e:k'=ks
     ·rw [decide_eq_true e,Bool.and_true]
      cases eJ with
      |true=>exact wpAny_pure (there e none λz=>absurd z (by decide))
      |false=>
       simp only [eH,if_false];rw [sm];dsimp only;rw [if_pos rfl,oK T.rise hi];dsimp only;rw [ei];dsimp only;refine wpAny_bind (wpAny_isSame_ref_self ?_);refine wpAny_bind (wpAny_pure ?_);simp only [if_true];exact wpAny_pure (there e (some i) λ_=>rfl)
     ·rw [decide_eq_false e,Bool.and_false]
      simp only [eH,if_false];rw [sm];dsimp only;rw [if_pos rfl,oK T.rise hi];dsimp only;rw [ei];dsimp only;refine wpAny_bind (wpAny_isSame_ref_self ?_);refine wpAny_bind (wpAny_pure ?_);simp only [if_true];exact gP e
    by_cases led:(!t.led)=true
    ·rw [if_pos led]
     refine wpAny_bind (AD hk _ (λy hy=>?_) ?_)
     ·obtain ⟨e,he,rfl⟩:=bX.mp hy
      have he:=(Array.mem_filter.mp (Array.mem_toList_iff.mp he)).1;obtain ⟨i',eC,rfl⟩:=Array.mem_iff_getElem.mp he;obtain ⟨Ki,c',e1,Sb⟩:=P i' es[i'] (xg eC);exact ⟨Ki,c',by rw [e1],Sb⟩
     ·simp only [eH,if_false]
      exact rest
    ·rw [if_neg led]
     exact rest
 refine main (K+1) 0 100000 none (aT _) (by omega) (cW _) rfl (λk' h'=>by omega) λi c hi hc kx _=>cW _
end
section
variable {prog:Program} {w:World} {A:Around} {E:Value→Shared→Prop} {s:Shared}
theorem rg(b:Addr)(es:Array (Int×Value)):byScan (.ref b) es=false:=rfl
theorem vU{a:Addr}{o:Obj}{es:Array (Int×Value)}{ep:Nat}{t:SetTable}{b:Addr}{ks:List Int}{Q:Option Nat→Shared→Prop}(hu:A.units<cLine)(ho:s.heap.get? a=some o)(S:ko (fi w) o es ep t)(P:FN prog w s.heap es)(hk:IsTupleKey (intKind prog w) s.heap ks b)
  (hy:(∃(i:Nat)(c:Addr),es[i]? =some (tupleKeyHash (intKind prog w) ks, .ref c)∧IsTupleKey (intKind prog w) s.heap ks c)→∀r:Option Nat,r.isSome=true→Q r s)
  (hn:(∀(i:Nat)(e:Int×Value),es[i]? =some e→∀c,e.2= .ref c→¬IsTupleKey (intKind prog w) s.heap ks c)→Q none s):
  wpAny (model prog w) A (setFind a (.ref b) (tupleKeyHash (intKind prog w) ks)) Q E s:=by
 unfold setFind setFindIn;refine wpAny_bind (wpAny_setState_of ho S.dat S.fits ?_);dsimp only;rw [rg];simp only [eH,if_false];refine wpAny_bind (nE hu ho S P hk (λh r hr=>?_) λh k0 _ _=>?_)
 ·exact wpAny_pure (hy h r (hr rfl))
 ·exact wpAny_pure (hn h)
theorem yT{a:Addr}{o:Obj}{es:Array (Int×Value)}{ep:Nat}{t:SetTable}{b:Addr}{ks:List Int}{Q:Bool→Shared→Prop}(hu:A.units<cLine)(ho:s.heap.get? a=some o)(S:ko (fi w) o es ep t)(P:FN prog w s.heap es)(hk:IsTupleKey (intKind prog w) s.heap ks b)(room:es.size≤305)
  (hy:(∃(i:Nat)(c:Addr),es[i]? =some (tupleKeyHash (intKind prog w) ks, .ref c)∧IsTupleKey (intKind prog w) s.heap ks c)→Q false s)
  (hn:(∀(i:Nat)(e:Int×Value),es[i]? =some e→∀c,e.2= .ref c→¬IsTupleKey (intKind prog w) s.heap ks c)→∀h' o' jW xO t',Heap.SameBut a s.heap h'→h'.get? a=some o'→ko (fi w) o' jW xO t'→jW.toList.Perm (es.toList++ [(tupleKeyHash (intKind prog w) ks, .ref b)])→Q true {s with heap:=h'}):
  wpAny (model prog w) A (setAddHashed a (.ref b) (tupleKeyHash (intKind prog w) ks)) Q E s:=by
 have hd:=S.dat;have hf:=S.fits;have T:=S.tok;have sz:t.place.size=es.size:=by rw [T.size];simp
 unfold setAddHashed setAddHashedIn;refine wpAny_holding (wpAny_bind (wpAny_setState_of ho hd hf ?_));dsimp only;rw [rg];simp only [eH,if_false];refine wpAny_bind (nE hu ho S P hk (λh r hr=>?_) λh k0 emp KH=>?_)
 ·exact wpAny_pure (hy h)
 ·dsimp only
  refine wpAny_bind (wpAny_setState_of ho hd hf ?_);dsimp only;obtain ⟨p1,p2,p3⟩:=TOk.put T emp KH (by rw [sz];exact Ex T.few S.few)
  rw [p1]
  have e:(SetTable.insertAt es (below t.place (bB t.mask (tupleKeyHash (intKind prog w) ks) k0)) (tupleKeyHash (intKind prog w) ks,Value.ref b)).toList.map (·.1)=(es.toList.map (·.1)).take (below t.place (bB t.mask (tupleKeyHash (intKind prog w) ks) k0))++tupleKeyHash (intKind prog w) ks::(es.toList.map (·.1)).drop (below t.place (bB t.mask (tupleKeyHash (intKind prog w) ks) k0)):=by
   rw [SetTable.toList_insertAt];simp
  rw [←e] at p3;have pl:(t.put (bB t.mask (tupleKeyHash (intKind prog w) ks) k0)).1.plain=true:=S.pl;have ld:(t.put (bB t.mask (tupleKeyHash (intKind prog w) ks) k0)).1.led= !fi w:=S.ld;have mk:(t.put (bB t.mask (tupleKeyHash (intKind prog w) ks) k0)).1.mask=t.mask:=rfl;generalize hx:((tupleKeyHash (intKind prog w) ks,Value.ref b):Int×Value)=x at*;generalize hp:below t.place (bB t.mask (tupleKeyHash (intKind prog w) ks) k0)=p at*;generalize (t.put (bB t.mask (tupleKeyHash (intKind prog w) ks) k0)).1=t1 at*;rw [if_pos pl];refine wpAny_bind (vV hk ?_);simp only [if_true,Bool.not_false,Bool.true_and];have Jj:(SetTable.insertAt es p x).size=es.size+1:=SetTable.fQ ..;have IB:=SetTable.insertAt_perm es p x;rw [xm] at IB;refine wpAny_bind (wpAny_storeSet_of ho hd ?_ (by rw [Jj];refine fits_of_scanBound ?_;show es.size+1<4096;omega))
  have vH:=rR ho hd (SetTable.insertAt es p x) t1;have Vd:=Heap.SameBut.update s.heap a (Obj.putSet (SetTable.insertAt es p x) t1)
  have Xt:t1.fits (SetTable.insertAt es p x).size=true:=by
   have:=TOk.fits p3
   rw [aM,bW] at this;exact this
  by_cases full:t1.tooFull=true
  ·rw [if_pos full]
   obtain ⟨t2,order,eR,_,pf,sf,T2,pl2,l2,f2,Vb⟩:=Cp p3 full (by rw [Jj,mk];have:=S.few;omega) (by rw [Jj];omega)
   rw [Jj] at eR f2 Vb;refine wpAny_bind ?_;unfold setRelay;refine wpAny_bind (wpAny_setState_of vH rfl Xt ?_);dsimp only;have big:512≤sizeLine:=by decide
   rw [if_neg (by omega),eR]
   have Vy:(order.filterMap ((SetTable.insertAt es p x)[·]?)).size=es.size+1:=by rw [sf,Jj]
   refine wpAny_bind (wpAny_of_eq (a:=(order.filterMap ((SetTable.insertAt es p x)[·]?),t2)) ?_ ?_)
   ·show (if ((order.filterMap ((SetTable.insertAt es p x)[·]?)).size !=(SetTable.insertAt es p x).size)=true then _ else pure (order.filterMap ((SetTable.insertAt es p x)[·]?),t2))=_
    rw [if_neg (by rw [sf];simp)]
   ·dsimp only
    refine wpAny_storeSet_of vH rfl ?_ (by rw [Vy];refine fits_of_scanBound ?_;show es.size+1<4096;omega)
    have t8:=rR vH rfl (order.filterMap ((SetTable.insertAt es p x)[·]?)) t2;exact wpAny_pure (hn h _ _ _ _ t2 (Vd.trans (Heap.SameBut.update _ a _)) t8 ⟨S.ex,rfl,T2,by rw [pl2];exact pl,by rw [l2];exact ld,by rw [Vy];exact f2⟩ (pf.trans IB))
  ·rw [if_neg full]
   refine wpAny_pure (hn h _ _ _ _ t1 Vd vH ⟨S.ex,rfl,p3,pl,ld,?_⟩ IB);have ff:t1.tooFull=false:=by simpa using full
   unfold SetTable.tooFull SetTable.fill at ff;rw [p3.dum,p3.size] at ff;simp at ff;omega
variable {a b:Addr} {o:Obj} {es:Array (Int×Value)} {ep:Nat} {t:SetTable} {ks:List Int}
open Classical in
noncomputable def lb(prog:Program)(w:World)(h:Heap)(es:Array (Int×Value))(ks:List Int):Bool:=decide (∃(i:Nat)(c:Addr),es[i]? =some (tupleKeyHash (intKind prog w) ks, .ref c)∧IsTupleKey (intKind prog w) h ks c)
theorem GZ(h:∀(i:Nat)(e:Int×Value),es[i]? =some e→∀c,e.2= .ref c→¬IsTupleKey (intKind prog w) s.heap ks c):lb prog w s.heap es ks=false:=by
 classical
 unfold lb;exact decide_eq_false λ⟨i,c,h1,h2⟩=>h i _ h1 c rfl h2
theorem EL(h:∃(i:Nat)(c:Addr),es[i]? =some (tupleKeyHash (intKind prog w) ks, .ref c)∧IsTupleKey (intKind prog w) s.heap ks c):lb prog w s.heap es ks=true:=by
 classical
 unfold lb;exact decide_eq_true h
theorem qd{Q:Bool→Shared→Prop}(hu:A.units+64<cLine)(ho:s.heap.get? a=some o)(S:ko (fi w) o es ep t)(P:FN prog w s.heap es)(hk:IsTupleKey (intKind prog w) s.heap ks b)
  (h:∀tk,Q (lb prog w s.heap es ks) {s with toks:=tk}):wpAny (model prog w) A (contains (.ref a) (.ref b)) Q E s:=by
 have hT:s.TypeIs (.ref a) "set":=⟨o,ho,S.ex.1⟩;unfold contains
 try with_reducible refine wpAny_holding ?_
 refine wpAny_bind (wpAny_specialOf hT F.slot_set_contains.lookup ?_);show wpAny _ _ (if (some (Value.builtin "set.__contains__")==some Value.none)=true then _ else _) _ E s;rw [if_neg (by rw [beq_builtin_none];exact cB)]
 refine wpAny_bind (wpAny_callSpecialUnlessNone?_slot (name:=Str.ofString "__contains__") hT F.slot_set_contains
  (wpAny_call_entry F.slot_set_contains hT entry_set_contains ?_ (F.args_set_contains_2 _ _)))
 unfold Builtin.«frozenset.__contains__» Builtin.Frozenset.oneOther;simp only [List.isEmpty_nil,bind_assoc];unfold Builtin.Frozenset.addrOf Builtin.Frozenset.withSetAsKey setContains;refine wpAny_bind (wpAny_pure ?_)
 try dsimp only
 refine wpAny_bind (wpAny_pure ?_)
 try dsimp only
 refine wpAny_bind (wpAny_tryCatch ?_);refine wpAny_holding ?_;refine wpAny_bind (wpAny_pyHash_tuple ?_ hk ?_)
 ·show A.units+1<cLine;omega
 refine wpAny_bind (vU (s:={s with toks:=s.toks+(ks.length+1)}) ?_ ho S P hk (λhy r hr=>?_) λhn=>?_)
 ·show A.units+1<cLine;omega
 ·refine wpAny_pure ?_
  show wpAny _ _ (ret (Value.bool r.isSome)) _ _ _;rw [hr]
  have:=h (s.toks+(ks.length+1))
  rw [EL hy] at this;exact wpAny_pure ⟨_,rfl,wpAny_truthy_bool this⟩
 ·refine wpAny_pure ?_
  show wpAny _ _ (ret (Value.bool false)) _ _ _
  have:=h (s.toks+(ks.length+1))
  rw [GZ hn] at this;exact wpAny_pure ⟨_,rfl,wpAny_truthy_bool this⟩
end
end PySem
set_option maxHeartbeats 4000000
namespace L2
open PySem PySem.Spec PyProof.Rows
inductive FV where
 |int (i:Int) |bl (b:Bool)
inductive XD where
 |pW (b:Bool) (ps:List (Int×Int)) |pT (ks:List (Int×Int)) (vs:List FV)
inductive D where
 |aI|bl (b:Bool) |int (i:Int) |str (x:Str) |lst (l:List D) |tup (l:List D) |ij (ns:List Int) |rng (lo hi:Int) |obj (a:Addr) |fw (w:List (List Nat)) |set (b:Bool) (l:List Int) |x (k:XD)
structure DC where
 K:PySem.W.Frag
 C:Addr
def aB(n:Nat):D:= .int n
def aH(r:List Nat):D:= .lst (r.map aB)
def aR(w:List (List Nat)):D:= .lst (w.map aH)
def PK(es:Array (Int×Value))(ns:List Int):Prop:=(∀e∈es.toList,∃k t,e=(hashInt k,Value.int k t))∧ns.Nodup∧∃ms,IntsAre (es.toList.map (·.2)) ms∧ms.Perm ns
def LN(b:Bool)(a:Addr)(ns:List Int)(h:Heap):Prop:=∃o es ep t,h.get? a=some o∧ko b o es ep t∧PK es ns
def bO(p:Int×Int):Int:=reduceHash (Builtin.Tuple.tupleHashOf [hashInt p.1,hashInt p.2])
inductive fX (H:Hp):List (Int×Addr)→List (Int×Int)→Prop
 |nil:fX H [] []
 |cons {a:Addr} {p:Int×Int} {es:List (Int×Addr)} {ps:List (Int×Int)}:H a=some (.tup [.int p.1, .int p.2])→fX H es ps→fX H ((bO p,a)::es) (p::ps)
theorem fX.mono{H H':Hp}(s:az H H'):∀{es:List (Int×Addr)}{ps:List (Int×Int)},fX H es ps→fX H' es ps
 |_,_, .nil=> .nil
 |_,_, .cons h t=> .cons (s _ _ h) (t.mono s)
def eu(b:Bool)(a:Addr)(es:List (Int×Addr))(h:Heap):Prop:=∃o eA ep t,h.get? a=some o∧ko b o eA ep t∧eA.toList.Perm (es.map λe=>(e.1,Value.ref e.2))
def Jw:FV→Value→Prop
 | .int i,v=>∃t,v= .int i t
 | .bl b,v=>v= .bool b
inductive Ea:List DictEntry→List (Int×Addr)→List FV→Prop
 |nil:Ea [] [] []
 |cons {e:DictEntry} {l:List DictEntry} {h:Int} {a:Addr} {v:FV} {es:List (Int×Addr)} {vs:List FV}:e.hash=h→e.key= .ref a→Jw v e.val→Ea l es vs→Ea (e::l) ((h,a)::es) (v::vs)
def fh(a:Addr)(es:List (Int×Addr))(vs:List FV)(h:Heap):Prop:=(a==sysModules)=false∧∃o eA ep,h.get? a=some o∧o.ExactDict∧o.data= .dict eA ep∧Ea eA.toList es vs
def Eg(H:Hp)(a:Addr)(φ:Heap→Prop):XD→Prop
 | .pW b ps=>ps.Nodup∧∃es,φ=eu b a es∧fX H es ps
 | .pT ks vs=>ks.Nodup∧∃es,φ=fh a es vs∧fX H es ks
theorem Eg.mono{H H':Hp}(s:az H H'){a:Addr}{φ:Heap→Prop}:∀{k:XD},Eg H a φ k→Eg H' a φ k
 | .pW _ _,⟨n,es,e,p⟩=>⟨n,es,e,p.mono s⟩
 | .pT _ _,⟨n,es,e,p⟩=>⟨n,es,e,p.mono s⟩
mutual
inductive Dv (Z:DC) (H:Hp):V→D→Prop
 |aI:Dv Z H .aI .aI
 |bl (b:Bool):Dv Z H (.bl b) (.bl b)
 |int (i:Int):Dv Z H (.int i) (.int i)
 |str (x:Str) (h:PyData.strOk x=true):Dv Z H (.str x) (.str x)
 |lst {a:Addr} {xs:List V} {ds:List D}:H a=some (.lst xs)→aq Z H xs ds→Dv Z H (.ref a) (.lst ds)
 |tup {a:Addr} {xs:List V} {ds:List D}:H a=some (.tup xs)→aq Z H xs ds→Dv Z H (.ref a) (.tup ds)
 |obj (a:Addr):Dv Z H (.ref a) (.obj a)
 |rng {a:Addr} {lo hi:Int}:H a=some (.rng lo hi)→Dv Z H (.ref a) (.rng lo hi)
 |ij {a:Addr} {ns:List Int}:aD Z.K H a (ns.map V.int)→ns.length≤63→Dv Z H (.ref a) (.ij ns)
 |fw {p dx R:Addr} {w:List (List Nat)}:H p=some (.ins Z.C dx [("rows", .ref R)])→Dv Z H (.ref R) (aR w)→Wb.Good w→1≤w.length→w.length≤14→Dv Z H (.ref p) (.fw w)
 |set {a:Addr} {b:Bool} {ns:List Int}:H a=some (.ext (LN b a ns))→Dv Z H (.ref a) (.set b ns)
 |x {a:Addr} {φ:Heap→Prop} {k:XD}:H a=some (.ext φ)→Eg H a φ k→Dv Z H (.ref a) (.x k)
inductive aq (Z:DC) (H:Hp):List V→List D→Prop
 |nil:aq Z H [] []
 |cons {v:V} {vs:List V} {d:D} {ds:List D}:Dv Z H v d→aq Z H vs ds→aq Z H (v::vs) (d::ds)
end
theorem aD.mono{K:PySem.W.Frag}{H H':Hp}{a:Addr}{xs:List V}(s:az H H')(h:aD K H a xs):aD K H' a xs:=by
 rcases h with (h| ⟨o,h⟩) |h
 ·exact .inl (.inl (s _ _ h))
 ·exact .inl (.inr ⟨o,s _ _ h⟩)
 ·exact .inr h
section
variable {Z:DC} {H H' G G':Hp}
theorem Dv.ofInt{v:V}{i:Int}(h:Dv Z H v (.int i)):v= .int i:=by cases h;rfl
theorem Dv.MG{v:V}{b:Bool}(h:Dv Z H v (.bl b)):v= .bl b:=by cases h;rfl
theorem Dv.lD{v:V}{ds:List D}(h:Dv Z H v (.lst ds)):∃a xs,v= .ref a∧H a=some (.lst xs)∧aq Z H xs ds:=by cases h with|lst h e=>exact ⟨_,_,rfl,h,e⟩
theorem Dv.oz{v:V}{ds:List D}(h:Dv Z H v (.tup ds)):∃a xs,v= .ref a∧H a=some (.tup xs)∧aq Z H xs ds:=by cases h with|tup h e=>exact ⟨_,_,rfl,h,e⟩
theorem Dv.yy{v:V}{ns:List Int}(h:Dv Z H v (.ij ns)):∃a,v= .ref a∧aD Z.K H a (ns.map V.int)∧ns.length≤63:=by cases h with|ij h z=>exact ⟨_,rfl,h,z⟩
theorem aq.HY{vs:List V}(h:aq Z H vs []):vs= []:=by cases h;rfl
theorem aq.sV{vs:List V}{d:D}{ds:List D}(h:aq Z H vs (d::ds)):∃v us,vs=v::us∧Dv Z H v d∧aq Z H us ds:=by cases h with|cons a b=>exact ⟨_,_,rfl,a,b⟩
theorem aq.ofOne{vs:List V}{d:D}(h:aq Z H vs [d]):∃v,vs= [v]∧Dv Z H v d:=by
 obtain ⟨v,us,rfl,a,b⟩:=h.sV;rw [b.HY];exact ⟨v,rfl,a⟩
theorem aq.yz{vs:List V}{d e:D}(h:aq Z H vs [d,e]):∃v u,vs= [v,u]∧Dv Z H v d∧Dv Z H u e:=by
 obtain ⟨v,us,rfl,a,b⟩:=h.sV;obtain ⟨u,rfl,c⟩:=b.ofOne;exact ⟨v,u,rfl,a,c⟩
mutual
theorem Dv.mono(s:az H H'):∀{v:V}{d:D},Dv Z H v d→Dv Z H' v d
 |_,_, .aI=> .aI
 |_,_, .bl b=> .bl b
 |_,_, .int i=> .int i
 |_,_, .str x h=> .str x h
 |_,_, .lst h a=> .lst (s _ _ h) (aq.mono s a)
 |_,_, .tup h a=> .tup (s _ _ h) (aq.mono s a)
 |_,_, .obj a=> .obj a
 |_,_, .rng h=> .rng (s _ _ h)
 |_,_, .ij h z=> .ij (h.mono s) z
 |_,_, .fw h r g a b=> .fw (s _ _ h) (Dv.mono s r) g a b
 |_,_, .set h=> .set (s _ _ h)
 |_,_, .x h k=> .x (s _ _ h) (k.mono s)
theorem aq.mono(s:az H H'):∀{vs:List V}{ds:List D},aq Z H vs ds→aq Z H' vs ds
 |_,_, .nil=> .nil
 |_,_, .cons a as=> .cons (Dv.mono s a) (aq.mono s as)
end
theorem aq.length:∀{vs:List V}{ds:List D},aq Z H vs ds→vs.length=ds.length
 |_,_, .nil=>rfl
 |_,_, .cons _ as=>congrArg (·+1) as.length
theorem aq.get:∀{vs:List V}{ds:List D}{i:Nat}{d:D},aq Z H vs ds→ds[i]? =some d→∃v,vs[i]? =some v∧Dv Z H v d
 |_,_,_,_, .nil,e=>by simp at e
 |_,_,0,_, .cons a as,e=>by simp at e;subst e;exact ⟨_,rfl,a⟩
 |_,_,i+1,d, .cons a as,e=>by
  obtain ⟨v,h1,h2⟩:=aq.get (i:=i) (d:=d) as (by simpa using e)
  exact ⟨v,by simpa using h1,h2⟩
theorem aq.Dr:∀{vs:List V}{ds:List D}{i:Nat}{v:V},aq Z H vs ds→vs[i]? =some v→∃d,ds[i]? =some d∧Dv Z H v d
 |_,_,_,_, .nil,e=>by simp at e
 |_,_,0,_, .cons a as,e=>by simp at e;subst e;exact ⟨_,rfl,a⟩
 |_,_,i+1,d, .cons a as,e=>by
  obtain ⟨v,h1,h2⟩:=aq.Dr (i:=i) (v:=d) as (by simpa using e)
  exact ⟨v,by simpa using h1,h2⟩
theorem aq.append:∀{vs us:List V}{ds es:List D},aq Z H vs ds→aq Z H us es→aq Z H (vs++us) (ds++es)
 |_,_,_,_, .nil,b=>b
 |_,_,_,_, .cons a as,b=> .cons a (as.append b)
theorem aq.take:∀{vs:List V}{ds:List D}(n:Nat),aq Z H vs ds→aq Z H (vs.take n) (ds.take n)
 |_,_,0,_=>by simpa using aq.nil
 |_,_,n+1, .nil=>by simpa using aq.nil
 |_,_,n+1, .cons a as=>by simpa using aq.cons a (as.take n)
theorem aq.drop:∀{vs:List V}{ds:List D}(n:Nat),aq Z H vs ds→aq Z H (vs.drop n) (ds.drop n)
 |_,_,0,h=>h
 |_,_,n+1, .nil=>by simpa using aq.nil
 |_,_,n+1, .cons a as=>by simpa using as.drop n
theorem aq.set{v:V}{d:D}(h:Dv Z H v d):∀{vs:List V}{ds:List D}(n:Nat),aq Z H vs ds→aq Z H (vs.set n v) (ds.set n d)
 |_,_,_, .nil=> .nil
 |_,_,0, .cons a as=> .cons h as
 |_,_,n+1, .cons a as=> .cons a (aq.set h n as)
theorem aq.rev:∀{vs:List V}{ds:List D},aq Z H vs ds→aq Z H vs.reverse ds.reverse
 |_,_, .nil=> .nil
 |_,_, .cons a as=>by
  rw [List.reverse_cons,List.reverse_cons];exact as.rev.append (.cons a .nil)
theorem aq.ints:∀(ns:List Int),aq Z H (ns.map V.int) (ns.map D.int)
 | []=> .nil
 |n::ns=> .cons (.int n) (aq.ints ns)
theorem aq.snoc{vs:List V}{ds:List D}{v:V}{d:D}(a:aq Z H vs ds)(b:Dv Z H v d):aq Z H (vs++ [v]) (ds++ [d]):=a.append (.cons b .nil)
structure Ext (G H G' H':Hp):Prop where
 gg:az G G'
 sub:az G' H'
 hh:az H H'
 off:∀b,H b≠none→G b=none→G' b=none
theorem Ext.refl(s:az G H):Ext G H G H:=⟨.refl _,s, .refl _,λ_ _ h=>h⟩
theorem Ext.trans{G1 H1 G2 H2:Hp}(a:Ext G H G1 H1)(b:Ext G1 H1 G2 H2):Ext G H G2 H2:=
 ⟨a.gg.trans b.gg,b.sub,a.hh.trans b.hh,λx h g=>b.off x (λz=>by
  cases e:H x with
  |none=>exact h e
  |some o=>rw [a.hh x o e] at z;cases z) (a.off x h g)⟩
theorem Ext.new{p:Addr}{o:HO}(s:az G H)(h:H p=none):Ext G H (upd G p o) (upd H p o):=by
 have hg:G p=none:=s.free h;refine ⟨av hg o,λb u e=>?_,av h o,λb hb hg=>?_⟩
 ·by_cases z:b=p
  ·subst z;rw [aa] at e ⊢;exact e
  ·rw [ab z] at e ⊢;exact s b u e
 ·have:b≠p:=λz=>hb (by rw [z];exact h)
  rw [ab this];exact hg
end
abbrev DN:=List (Option D)
structure cU (Z:DC) (G:Hp) (σ:St) (ρ:DN):Prop where
 len:ρ.length=σ.length
 at_:∀(i:Nat)(d:D),ρ[i]? =some (some d)→∃v,σ[i]? =some (some v)∧Dv Z G v d
section
variable {Z:DC} {G G' H H':Hp} {σ:St} {ρ:DN}
theorem cU.mono(e:cU Z G σ ρ)(s:az G G'):cU Z G' σ ρ:=⟨e.len,λi d h=>let ⟨v,a,b⟩:=e.at_ i d h;⟨v,a,b.mono s⟩⟩
theorem cU.set{i:Nat}{v:V}{d:D}(e:cU Z G σ ρ)(h:Dv Z G v d):cU Z G (σ.set i (some v)) (ρ.set i (some d)):=by
 refine ⟨by rw [fe,fe];exact e.len,λj c hj=>?_⟩
 by_cases z:i=j
 ·subst z
  by_cases hi:i<ρ.length
  ·rw [mn hi] at hj
   cases hj;exact ⟨v,by rw [mn (by rw [←e.len];exact hi)],h⟩
  ·rw [AJ (kJ hi)] at hj
   rw [iO (kJ hi)] at hj;cases hj
 ·rw [sg z] at hj ⊢
  exact e.at_ j c hj
end
abbrev aU:=DN→(D→Prop)→Prop
abbrev dB:=DN→(Bool→Prop)→Prop
abbrev hJ:=DN→(List D→Prop)→Prop
abbrev hC:=D→D→(D→Prop)→Prop
abbrev dA:=D→DN→(DN→Prop)→Prop
abbrev iA:=DN→(List D→Prop)→Prop
def di(Z:DC)(t:aU):TE:=λσ H Q=>∃(G:Hp)(ρ:DN)(P:D→Prop),az G H∧cU Z G σ ρ∧t ρ P∧∀d,P d→∀v G' H',Ext G H G' H'→Dv Z G' v d→Q v H'
def liftT(Z:DC)(t:dB):TT:=λσ H Q=>∃(G:Hp)(ρ:DN)(P:Bool→Prop),az G H∧cU Z G σ ρ∧t ρ P∧∀b,P b→∀G' H',Ext G H G' H'→Q b H'
def BR(Z:DC)(t:hJ):TA:=λσ H Q=>∃(G:Hp)(ρ:DN)(P:List D→Prop),az G H∧cU Z G σ ρ∧t ρ P∧∀ds,P ds→∀vs G' H',Ext G H G' H'→aq Z G' vs ds→Q vs H'
def bZ(Z:DC)(r:hC):R2:=λx y H Q=>∃(G:Hp)(a b:D)(P:D→Prop),az G H∧Dv Z G x a∧Dv Z G y b∧r a b P∧∀d,P d→∀v G' H',Ext G H G' H'→Dv Z G' v d→Q v H'
def gS(Z:DC)(r:List D→(D→Prop)→Prop):List V→Hp→VK→Prop:=λvs H Q=>∃(G:Hp)(ds:List D)(P:D→Prop),az G H∧aq Z G vs ds∧r ds P∧∀d,P d→∀v G' H',Ext G H G' H'→Dv Z G' v d→Q v H'
abbrev dF:=List D→(D→Prop)→Prop
def aZ(Z:DC)(sd:dF):Sp:=λvs H Q _=>gS Z sd vs H Q
def DE(Z:DC)(X:Cx)(e:Expr)(t:aU):Prop:=PE X e (di Z t)
def DT(Z:DC)(X:Cx)(e:Expr)(t:dB):Prop:=PT X e (liftT Z t)
def DA(Z:DC)(X:Cx)(es:List Expr)(t:hJ):Prop:=PA X es (BR Z t)
theorem PE.imp{X:Cx}{e:Expr}{t t':TE}(h:PE X e t)(f:∀σ H Q,t' σ H Q→t σ H Q):PE X e t':=λpins s σ H Q I q=>h pins s σ H Q I (f _ _ _ q)
theorem PT.imp{X:Cx}{e:Expr}{t t':TT}(h:PT X e t)(f:∀σ H Q,t' σ H Q→t σ H Q):PT X e t':=λpins s σ H Q I q=>h pins s σ H Q I (f _ _ _ q)
theorem PW.imp{X:Cx}{e:Expr}{t t':TT}(h:PW X e t)(f:∀σ H Q,t' σ H Q→t σ H Q):PW X e t':=λwh pins s σ H Q I q=>h wh pins s σ H Q I (f _ _ _ q)
theorem PA.imp{X:Cx}{es:List Expr}{t t':TA}(h:PA X es t)(f:∀σ H Q,t' σ H Q→t σ H Q):PA X es t':=λpos pins s σ H Q I q=>h pos pins s σ H Q I (f _ _ _ q)
theorem OpR.imp{X:Cx}{f:Value→Value→Sem Value}{r r':R2}(h:OpR X f r)(g:∀x y H Q,r' x y H Q→r x y H Q):OpR X f r':=λpins s σ H x y v u Q I a b q=>h pins s σ H x y v u Q I a b (g _ _ _ _ q)
theorem bQ.imp{X:Cx}{f:Value}{r r':List V→Hp→VK→Prop}(h:bQ X f r)(g:∀xs H Q,r' xs H Q→r xs H Q):bQ X f r':=λpins s σ H xs us Q I a q=>h pins s σ H xs us Q I a (g _ _ _ q)
def Gd(i:Nat):aU:=λρ P=>∃d,ρ[i]? =some (some d)∧P d
def dC(d:D):aU:=λ_ P=>P d
section
variable {Z:DC} {X:Cx}
theorem U(i:Nat){x:Str}{pos:Pos}(hN:X.N[i]? =some x:=by rfl)(hv:qs X.env.scope x:=by first|exact Or.inl rfl|exact Or.inr (Or.inl rfl) |exact Or.inr (Or.inr rfl))(hd:(x==("__debug__":Str))=false:=by decide)
  (fj:(x==("__classdict__":Str))=false:=by decide):DE Z X (.Name x pos) (Gd i):=
 (DH hN hv hd fj).imp λσ H Q ⟨G,ρ,P,s,e,⟨d,hd,p⟩,q⟩=>let ⟨v,hv,dv⟩:=e.at_ i d hd;⟨v,hv,q d p v G H (.refl s) dv⟩
theorem aS{i j pos}:DE Z X (.Constant (.int i) j pos) (dC (.int i)):=aJ.imp λσ H Q ⟨G,ρ,P,s,e,p,q⟩=>q _ p _ G H (.refl s) (.int i)
theorem jj{b j pos}:DE Z X (.Constant (.bool b) j pos) (dC (.bl b)):=O5.imp λσ H Q ⟨G,ρ,P,s,e,p,q⟩=>q _ p _ G H (.refl s) (.bl b)
theorem gr{j pos}:DE Z X (.Constant .none j pos) (dC .aI):=K0.imp λσ H Q ⟨G,ρ,P,s,e,p,q⟩=>q _ p _ G H (.refl s) .aI
theorem oV{x j pos}(h:PyData.strOk x=true:=by decide+kernel):DE Z X (.Constant (.str x) j pos) (dC (.str x)):=K3.imp λσ H Q ⟨G,ρ,P,s,e,p,q⟩=>q _ p _ G H (.refl s) (.str x h)
theorem Em{x:Str}{i:Int}{pos:Pos}(hg:Gl X x)(hm:∃tk,X.mg x=some (.int i tk))(hd:(x==("__debug__":Str))=false:=by decide):DE Z X (.Name x pos) (dC (.int i)):=by
 obtain ⟨tk,hm⟩:=hm;exact (Iv hg hm (v:= .int i) ⟨tk,rfl⟩ hd).imp λσ H Q ⟨G,ρ,P,s,e,p,q⟩=>q _ p _ G H (.refl s) (.int i)
def Ek(r:hC)(ta tb:aU):aU:=λρ P=>ta ρ λa=>tb ρ λb=>r a b P
variable {a b c:Expr} {ta tb tc:aU} {pos:Pos}
theorem yk{r:hC}:∀σ H Q,di Z (Ek r ta tb) σ H Q→yR (bZ Z r) (di Z ta) (di Z tb) σ H Q:=by
 rintro σ H Q ⟨G,ρ,P,s,e,h,q⟩;refine ⟨G,ρ,_,s,e,h,λa ha v G1 H1 x1 dv=>?_⟩;refine ⟨G1,ρ,_,x1.sub,e.mono x1.gg,ha,λb hb u G2 H2 x2 du=>?_⟩;exact ⟨G2,a,b,P,x2.sub,dv.mono x2.gg,du,hb,λd hd v' G' H' x3 nP=>q d hd v' G' H' ((x1.trans x2).trans x3) nP⟩
theorem jk{op:Operator}{r:hC}(ho:OpR X (binaryOp op) (bZ Z r))(ha:DE Z X a ta)(hb:DE Z X b tb):DE Z X (.BinOp a op b pos) (Ek r ta tb):=(bU ho ha hb).imp yk
theorem mz{op:CmpOp}{r:hC}(ho:OpR X (compareOp op) (bZ Z r))(ha:DE Z X a ta)(hb:DE Z X b tb)(hm:behindInMarks op b=false):DE Z X (.Compare a [op] [b] pos) (Ek r ta tb):=(z9 ho ha hb hm).imp yk
def xJ(t:aU):dB:=λρ P=>t ρ λd=>∃k,d= .bl k∧P k
theorem wM{t:aU}:∀σ H Q,liftT Z (xJ t) σ H Q→CF (di Z t) σ H Q:=by
 rintro σ H Q ⟨G,ρ,P,s,e,h,q⟩;refine ⟨G,ρ,_,s,e,h,?_⟩;rintro _ ⟨k,rfl,p⟩ v G1 H1 x1 dv;cases dv;exact ⟨k,rfl,q k p G1 H1 x1⟩
theorem cg{op:CmpOp}{r:hC}(ho:OpR X (compareOp op) (bZ Z r))(ha:DE Z X a ta)(hb:DE Z X b tb)(hm:behindInMarks op b=false):DT Z X (.Compare a [op] [b] pos) (xJ (Ek r ta tb)):=
 (gH ho ha hb hm).imp λσ H Q h=>by
  obtain h:=wM σ H Q h;exact yk σ H _ h
def xI(r r':hC)(ta tb tc:aU):aU:=λρ P=>ta ρ λx=>tb ρ λy=>r x y λz=>∃k,z= .bl k∧(if k=true then tc ρ λw'=>r' y w' P else P (.bl false))
theorem uk{r r':hC}:∀σ H Q,di Z (xI r r' ta tb tc) σ H Q→yQ (bZ Z r) (bZ Z r') (di Z ta) (di Z tb) (di Z tc) σ H Q:=by
 rintro σ H Q ⟨G,ρ,P,s,e,h,q⟩;refine ⟨G,ρ,_,s,e,h,λa ha v G1 H1 x1 dv=>?_⟩;refine ⟨G1,ρ,_,x1.sub,e.mono x1.gg,ha,λb hb u G2 H2 x2 du=>?_⟩;refine ⟨G2,a,b,_,x2.sub,dv.mono x2.gg,du,hb,?_⟩;rintro _ ⟨k,rfl,hk⟩ v' G3 H3 x3 nP;cases nP;refine ⟨k,rfl,?_⟩;have x:=(x1.trans x2).trans x3;cases k with
 |false=>exact dh (q _ hk _ G3 H3 x (.bl false))
 |true=>
  refine eY ⟨G3,ρ,_,x3.sub,e.mono x.gg,hk,λc hc w' G4 H4 x4 dw=>?_⟩;exact ⟨G4,b,c,P,x4.sub,(du.mono x3.gg).mono x4.gg,dw,hc,λd hd v'' G' H' x5 d5=>q d hd v'' G' H' ((x.trans x4).trans x5) d5⟩
theorem El{op oE:CmpOp}{r r':hC}(ho:OpR X (compareOp op) (bZ Z r))(jl:OpR X (compareOp oE) (bZ Z r'))(ha:DE Z X a ta)(hb:DE Z X b tb)(hc:DE Z X c tc)
  (hm:lastMarks [op,oE] [b,c]=false:=by with_unfolding_all rfl):DE Z X (.Compare a [op,oE] [b,c] pos) (xI r r' ta tb tc):=(Fi ho jl ha hb hc hm).imp uk
theorem Eu{op oE:CmpOp}{r r':hC}(ho:OpR X (compareOp op) (bZ Z r))(jl:OpR X (compareOp oE) (bZ Z r'))(ha:DE Z X a ta)(hb:DE Z X b tb)(hc:DE Z X c tc)
  (hm:lastMarks [op,oE] [b,c]=false:=by with_unfolding_all rfl):DT Z X (.Compare a [op,oE] [b,c] pos) (xJ (xI r r' ta tb tc)):=
 (Fp ho jl ha hb hc hm).imp λσ H Q h=>by
  obtain h:=wM σ H Q h;exact uk σ H _ h
def xc:D→Bool
 | .aI=>false
 | .bl b=>b
 | .int i=>i !=0
 | .str x=>x.length !=0
 | .lst l=>!l.isEmpty
 | .tup l=>!l.isEmpty
 | .ij l=>!l.isEmpty
 | .rng lo hi=>decide (lo<hi)
 | .obj _=>true
 | .fw _=>true
 | .set _ l=>!l.isEmpty
 | .x _=>true
def SV:D→Bool
 | .bl _=>true
 | .int _=>true
 | .lst _=>true
 | .tup _=>true
 | .aI=>true
 |_=>false
def QT(t:aU):dB:=λρ P=>t ρ λd=>SV d=true∧P (xc d)
theorem rG{G:Hp}{vs:List V}{ds:List D}(h:aq Z G vs ds):vs.isEmpty=ds.isEmpty:=by cases h<;>rfl
theorem gw(ha:DE Z X a ta)(he:∀whole,isTrue a X.env whole=(do let v ←whole;standAt a.pos;holding [v] (truthy v)):=by intro _;rfl):DT Z X a (QT ta):=by
 refine (Fq ha he).imp ?_;rintro σ H Q ⟨G,ρ,P,s,e,h,q⟩;refine ⟨G,ρ,_,s,e,h,?_⟩;rintro d ⟨hd,p⟩ v G1 H1 x1 dv;refine ⟨xc d,?_,q _ p G1 H1 x1⟩;cases dv with
 |aI=>rfl
 |bl b=>rfl
 |int i=>rfl
 |lst h a=>exact .inl ⟨_,aD.of (x1.sub _ _ h),by rw [rG a];rfl⟩
 |tup h a=>exact .inr (.inl ⟨_,cZ.of (x1.sub _ _ h),by rw [rG a];rfl⟩)
 |_=>cases hd
def WW(t u:dB):dB:=λρ P=>t ρ λc=>if c=true then P true else u ρ P
def QO(t:dB):dB:=λρ P=>t ρ λc=>P (!c)
variable {tA CC:dB} {rest:List Expr}
def DW(Z:DC)(X:Cx)(e:Expr)(t:dB):Prop:=PW X e (liftT Z t)
theorem DW.dt{e:Expr}{t:dB}(h:DW Z X e t):DT Z X e t:=PW.pt h
theorem sR(ha:DT Z X a tA):DW Z X (.BoolOp .Or [a] pos) tA:=K9 ha
theorem tU(ha:DT Z X a tA)(hb:DW Z X (.BoolOp .Or (b::rest) pos) CC):DW Z X (.BoolOp .Or (a::b::rest) pos) (WW tA CC):=by
 refine (O7 ha hb).imp ?_;rintro σ H Q ⟨G,ρ,P,s,e,h,q⟩;refine ⟨G,ρ,_,s,e,h,λc hc G1 H1 x1=>?_⟩;cases c with
 |false=>exact dh ⟨G1,ρ,P,x1.sub,e.mono x1.gg,hc,λb hb G2 H2 x2=>q b hb G2 H2 (x1.trans x2)⟩
 |true=>exact eY (q _ hc G1 H1 x1)
theorem gv(ha:DT Z X a tA):DT Z X (.UnaryOp .Not a pos) (QO tA):=by
 refine (DJ ha).imp ?_;rintro σ H Q ⟨G,ρ,P,s,e,h,q⟩;exact ⟨G,ρ,_,s,e,h,λc hc G1 H1 x1=>q _ hc G1 H1 x1⟩
def Nq(ta tb:aU):aU:=λρ P=>ta ρ λx=>∃c,x= .bl c∧if c=true then tb ρ P else P (.bl false)
def Nt(ta:aU):aU:=λρ P=>ta ρ λx=>∃c,x= .bl c∧P (.bl (!c))
theorem sP{op}(h:DE Z X a ta):DE Z X (.BoolOp op [a] pos) ta:=K2 h
theorem mw(ha:DE Z X a ta)(hb:DE Z X (.BoolOp .And (b::rest) pos) tb):DE Z X (.BoolOp .And (a::b::rest) pos) (Nq ta tb):=by
 refine (KU ha hb).imp ?_;rintro σ H Q ⟨G,ρ,P,s,e,h,q⟩;refine ⟨G,ρ,_,s,e,h,?_⟩;rintro _ ⟨c,rfl,hc⟩ v G1 H1 x1 dv;cases dv;refine ⟨c,rfl,?_⟩;cases c with
 |true=>exact eY ⟨G1,ρ,P,x1.sub,e.mono x1.gg,hc,λb hb v G2 H2 x2 d2=>q b hb v G2 H2 (x1.trans x2) d2⟩
 |false=>exact dh (q _ hc _ G1 H1 x1 (.bl false))
theorem C9(ha:DE Z X a ta):DE Z X (.UnaryOp .Not a pos) (Nt ta):=by
 refine (K1 ha).imp ?_;rintro σ H Q ⟨G,ρ,P,s,e,h,q⟩;refine ⟨G,ρ,_,s,e,h,?_⟩;rintro _ ⟨c,rfl,hc⟩ v G1 H1 x1 dv;cases dv;exact ⟨c,rfl,q _ hc _ G1 H1 x1 (.bl _)⟩
def rk:hJ:=λ_ P=>P []
def F4(ta:aU)(t:hJ):hJ:=λρ P=>ta ρ λx=>t ρ λxs=>P (x::xs)
variable {es:List Expr} {t:hJ} {e:Expr}
theorem au:DA Z X [] rk:=ar.imp λσ H Q ⟨G,ρ,P,s,e,p,q⟩=>q _ p _ G H (.refl s) .nil
theorem af(ha:DE Z X e ta)(hr:DA Z X es t)(hs:starEach (e::es) X.env=(false,eval e X.env)::starEach es X.env:=by rfl):DA Z X (e::es) (F4 ta t):=by
 refine (ae ha hr hs).imp ?_;rintro σ H Q ⟨G,ρ,P,s,e,h,q⟩;refine ⟨G,ρ,_,s,e,h,λa ha v G1 H1 x1 dv=>?_⟩;exact ⟨G1,ρ,_,x1.sub,e.mono x1.gg,ha,λds hd vs G2 H2 x2 bh=>q _ hd _ G2 H2 (x1.trans x2) (.cons (dv.mono x2.gg) bh)⟩
def QU(t:hJ):aU:=λρ P=>t ρ λxs=>xs.length≤sizeLine∧P (.tup xs)
def QM(t:hJ):aU:=λρ P=>t ρ λxs=>xs.length≤sizeLine∧P (.lst xs)
theorem fM{x1}(h:DA Z X es t):DE Z X (.Tuple es x1 pos) (QU t):=by
 refine (sW h).imp ?_;rintro σ H Q ⟨G,ρ,P,s,e,h,q⟩;refine ⟨G,ρ,_,s,e,h,?_⟩;rintro ds ⟨hl,hp⟩ vs G1 H1 x1 bh;exact ⟨by rw [bh.length];exact hl,λp t9=>q _ hp _ _ _ (x1.trans (.new x1.sub t9)) (.tup aa (bh.mono (av (x1.sub.free t9) _)))⟩
theorem sO(h:DA Z X es t):DE Z X (.List es pos) (QM t):=by
 refine (cY h).imp ?_;rintro σ H Q ⟨G,ρ,P,s,e,h,q⟩;refine ⟨G,ρ,_,s,e,h,?_⟩;rintro ds ⟨hl,hp⟩ vs G1 H1 x1 bh;exact ⟨by rw [bh.length];exact hl,λp t9=>q _ hp _ _ _ (x1.trans (.new x1.sub t9)) (.lst aa (bh.mono (av (x1.sub.free t9) _)))⟩
def tP(r:List D→(D→Prop)→Prop)(t:hJ):aU:=λρ P=>t ρ λds=>r ds P
theorem qK{r:List D→(D→Prop)→Prop}:∀σ H Q,di Z (tP r t) σ H Q→BR Z t σ H λvs H1=>gS Z r vs H1 Q:=by
 rintro σ H Q ⟨G,ρ,P,s,e,h,q⟩;exact ⟨G,ρ,_,s,e,h,λds hd vs G1 H1 x1 bh=>⟨G1,ds,P,x1.sub,bh,hd,λd hp v G2 H2 x2 dv=>q d hp v G2 H2 (x1.trans x2) dv⟩⟩
theorem Gg{sd:dF}{k:Nat}{f:Addr}{fd:FuncData}{ps:List Str}{x:Str}{p:Pos}(F:FnOk X.prog X.w X.K X.mg X.base bY k f fd ps (aZ Z sd))(hr:b8 k X.A)(hg:Gl X x)(hm:X.mg x=some (.ref f))(hk:PySem.W.keepIn X.K (.ref f)=true)(hb:Binds X.K fd ps [])
  (ha:DA Z X (e::es) t) (iE:(x==("__debug__":Str))=false:=by decide) (he:starEach (e::es) X.env=(false,eval e X.env)::starEach es X.env:=by rfl) (dJ:(backTo pos (starEach es X.env)).any (·.1)=false:=by rfl):
  DE Z X (.Call (.Name x p) (e::es) [] pos) (tP sd t):=
 (aW F hr hg hm hk hb .nil bK ha iE he dJ).imp λσ H Q h=>by
  have h:=qK σ H Q h;obtain ⟨G,ρ,P,s,e,h,q⟩:=h;exact ⟨G,ρ,P,s,e,h,λds hd vs G1 H1 x1 bh=>by show aZ Z sd (vs++ []) H1 Q E0;rw [jh];exact q ds hd vs G1 H1 x1 bh⟩
theorem bw{id:String}{x:Str}{p:Pos}{r:List D→(D→Prop)→Prop}(hc:bQ X (.builtin id) (gS Z r))(hg:Gl X x)(hm:X.mg x=none)(hv:bootBuiltins x=some (.builtin id))(ha:DA Z X (e::es) t)(hn:x≠"__name__":=by decide)(iE:(x==("__debug__":Str))=false:=by decide)
  (he:starEach (e::es) X.env=(false,eval e X.env)::starEach es X.env:=by rfl) (dJ:(backTo pos (starEach es X.env)).any (·.1)=false:=by rfl):
  DE Z X (.Call (.Name x p) (e::es) [] pos) (tP r t):=(cq hc hg hm hv ha hn iE he dJ).imp qK
theorem Bg{T:String}{x:Str}{p:Pos}{r:List D→(D→Prop)→Prop}(hc:bQ X (.type T) (gS Z r))(hg:Gl X x)(hm:X.mg x=none)(hv:bootBuiltins x=some (.type T))(ha:DA Z X (e::es) t)(hn:x≠"__name__":=by decide)(iE:(x==("__debug__":Str))=false:=by decide)
  (he:starEach (e::es) X.env=(false,eval e X.env)::starEach es X.env:=by rfl) (dJ:(backTo pos (starEach es X.env)).any (·.1)=false:=by rfl):
  DE Z X (.Call (.Name x p) (e::es) [] pos) (tP r t):=(oF hc hg hm hv ha hn iE he dJ).imp qK
end
end L2
namespace L2
open PySem PySem.Spec PyProof.Rows
section
variable {Z:DC} {X:Cx}
def L7:hC:=λx y P=>match x,y with
 | .int i, .int j=>P (.int (i+j))
 | .lst a, .lst b=>a.length+b.length≤sizeLine∧P (.lst (a++b))
 | .tup a, .tup b=>a≠ []∧a.length+b.length≤sizeLine∧b≠ []∧P (.tup (a++b))
 |_,_=>False
def dI(c:Int→Int→Prop)(g:Int→Int→Int):hC:=λx y P=>match x,y with
 | .int i, .int j=>c i j∧P (.int (g i j))
 |_,_=>False
def QN:hC:=dI (λ_ j=>0<j) λi j=>i%j
theorem Ku{f:Value→Value→Sem Value}{c:Int→Int→Prop}{g:Int→Int→Int}(h:OpR X f (rI c λi j=> .int (g i j))):OpR X f (bZ Z (dI c g)):=by
 refine h.imp ?_;rintro x y H Q ⟨G,a,b,P,s,da,db,hr,q⟩;unfold dI at hr
 split at hr
 ·exact ⟨_,_,da.ofInt,db.ofInt,hr.1,q _ hr.2 _ G H (.refl s) (.int _)⟩
 ·exact hr.elim
theorem pP:OpR X (binaryOp .Mod) (bZ Z QN):=Ku mM
theorem pO(e:X.K=Z.K:=by rfl):OpR X (binaryOp .Add) (bZ Z L7):=by
 refine (fR.or (yD.or (Ij))).imp ?_;rintro x y H Q ⟨G,a,b,P,s,da,db,hr,q⟩;unfold L7 at hr
 split at hr
 ·exact .inl ⟨_,_,da.ofInt,db.ofInt,q _ hr _ G H (.refl s) (.int _)⟩
 ·obtain ⟨a1,xs1,rfl,h1,e1⟩:=da.lD
  obtain ⟨a2,xs2,rfl,h2,e2⟩:=db.lD;obtain ⟨hz,hp⟩:=hr;refine .inr (.inl ⟨_,_,_,_,rfl,rfl,s _ _ h1,s _ _ h2,by rw [e1.length,e2.length];exact hz,λp hn=>?_⟩)
  exact q _ hp _ _ _ (.new s hn) (.lst aa ((e1.append e2).mono (av (s.free hn) _)))
 ·obtain ⟨a1,xs1,rfl,h1,e1⟩:=da.oz
  obtain ⟨a2,xs2,rfl,h2,e2⟩:=db.oz;obtain ⟨h0,hz,Xz,hp⟩:=hr;refine .inr (.inr ⟨_,_,_,_,rfl,rfl,cZ.of (s _ _ h1),cZ.of (s _ _ h2),?_,by rw [e1.length,e2.length];exact hz,?_⟩)
  ·rintro rfl;cases e1;exact h0 rfl
  ·refine ⟨?_,λ_ p hn=>q _ hp _ _ _ (.new s hn) (.tup aa ((e1.append e2).mono (av (s.free hn) _)))⟩
   rintro rfl;cases e2;exact (Xz rfl).elim
 ·exact hr.elim
mutual
def D.py:D→Option PyData
 | .aI=>some .none
 | .bl b=>some (.bool b)
 | .int i=>some (.int i)
 | .str x=>some (.str x)
 | .lst l=>(gU l).map PyData.list
 | .tup l=>(gU l).map PyData.tuple
 | .ij _=>none
 | .rng _ _=>none
 | .obj _=>none
 | .fw _=>none
 | .set _ _=>none
 | .x _=>none
def gU:List D→Option (List PyData)
 | []=>some []
 |d::ds=>(D.py d).bind λa=>(gU ds).map λas=>a::as
end
mutual
theorem Dv.dp{K:PySem.W.Frag}{G:Hp}:∀{v:V}{d:D}{e:PyData},Dv Z G v d→d.py=some e→Dp K G v e
 |_,_,_, .aI,h=>by simp [D.py] at h;subst h;exact .aI
 |_,_,_, .bl b,h=>by simp [D.py] at h;subst h;exact .bl b
 |_,_,_, .int i,h=>by simp [D.py] at h;subst h;exact .int i
 |_,_,_, .str x k,h=>by simp [D.py] at h;subst h;exact .str x k
 |_,_,_, .lst a as,h=>by
  simp [D.py] at h;obtain ⟨l,h1,rfl⟩:=h;exact .lst (aD.of a) (aq.dp as h1)
 |_,_,_, .tup a as,h=>by
  simp [D.py] at h;obtain ⟨l,h1,rfl⟩:=h;exact .tup (cZ.of a) (aq.dp as h1)
 |_,_,_, .ij _ _,h=>by simp [D.py] at h
 |_,_,_, .rng _,h=>by simp [D.py] at h
 |_,_,_, .obj _,h=>by simp [D.py] at h
 |_,_,_, .fw _ _ _ _ _,h=>by simp [D.py] at h
 |_,_,_, .set _,h=>by simp [D.py] at h
 |_,_,_, .x _ _,h=>by simp [D.py] at h
theorem aq.dp{K:PySem.W.Frag}{G:Hp}:∀{vs:List V}{ds:List D}{es:List PyData},aq Z G vs ds→gU ds=some es→dP K G vs es
 |_,_,_, .nil,h=>by simp [gU] at h;subst h;exact .nil
 |_,_,_, .cons (d:=d) (ds:=ds) a as,h=>by
  rw [gU] at h;cases h1:d.py with
  |none=>rw [h1] at h;cases h
  |some x=>
   rw [h1] at h;cases h2:gU ds with
   |none=>rw [h2] at h;cases h
   |some y=>rw [h2] at h;cases h;exact .cons (Dv.dp a h1) (aq.dp as h2)
end
theorem cZ.mono{K:PySem.W.Frag}{H H':Hp}{a:Addr}{xs:List V}(s:az H H')(h:cZ K H a xs):cZ K H' a xs:=by
 rcases h with (h| ⟨o,h⟩) |h
 ·exact .inl (.inl (s _ _ h))
 ·exact .inl (.inr ⟨o,s _ _ h⟩)
 ·exact .inr h
mutual
theorem Dp.mono{K:PySem.W.Frag}{G H:Hp}(s:az G H):∀{v:V}{d:PyData},Dp K G v d→Dp K H v d
 |_,_, .aI=> .aI
 |_,_, .bl b=> .bl b
 |_,_, .int i=> .int i
 |_,_, .str x h=> .str x h
 |_,_, .lst h a=> .lst (h.mono s) (dP.mono s a)
 |_,_, .tup h a=> .tup (h.mono s) (dP.mono s a)
theorem dP.mono{K:PySem.W.Frag}{G H:Hp}(s:az G H):∀{vs:List V}{ds:List PyData},dP K G vs ds→dP K H vs ds
 |_,_, .nil=> .nil
 |_,_, .cons a as=> .cons (Dp.mono s a) (dP.mono s as)
end
def L8(neg:Bool):hC:=λx y P=>∃a b,x.py=some a∧y.py=some b∧a.depth≤64∧P (.bl (if neg then !PyData.eqv a b else PyData.eqv a b))
abbrev Bc:hC:=L8 false
abbrev Ej:hC:=L8 true
theorem ou(hu:X.A.units+64<cLine):OpR X (compareOp .Eq) (bZ Z Bc):=by
 refine (KP hu).imp ?_;rintro x y H Q ⟨G,a,b,P,s,da,db,⟨c,d,h1,h2,h3,hp⟩,q⟩;exact ⟨c,d,(da.dp h1).mono s,(db.dp h2).mono s,h3,q _ hp _ G H (.refl s) (.bl _)⟩
theorem yx(hu:X.A.units+64<cLine):OpR X (compareOp .NotEq) (bZ Z Ej):=by
 refine (yE hu).imp ?_;rintro x y H Q ⟨G,a,b,P,s,da,db,⟨c,d,h1,h2,h3,hp⟩,q⟩;exact ⟨c,d,(da.dp h1).mono s,(db.dp h2).mono s,h3,q _ hp _ G H (.refl s) (.bl _)⟩
theorem zh{i j:Int}{P:D→Prop}(h:P (.bl (decide (i=j)))):Bc (.int i) (.int j) P:=⟨.int i, .int j,rfl,rfl,by simp [PyData.depth],by
 have:PyData.eqv (.int i) (.int j)=decide (i=j):=by
  rw [PyData.eqv]
  by_cases z:i=j<;>simp [z]
 simpa [this] using h⟩
def C5(p:Int→Int→Bool):hC:=λx y P=>match x,y with
 | .int i, .int j=>P (.bl (p i j))
 |_,_=>False
theorem zV{f:Value→Value→Sem Value}{p:Int→Int→Bool}(h:OpR X f (Cn λi j=> .bl (p i j))):OpR X f (bZ Z (C5 p)):=by
 refine h.imp ?_;rintro x y H Q ⟨G,a,b,P,s,da,db,hr,q⟩;unfold C5 at hr
 split at hr
 ·exact ⟨_,_,da.ofInt,db.ofInt,q _ hr _ G H (.refl s) (.bl _)⟩
 ·exact hr.elim
end
end L2
namespace L2
open PySem PySem.Spec PyProof.Rows
section
variable {Z:DC} {X:Cx}
abbrev WV:hC:=C5 λi j=>decide (i<j)
abbrev WU:hC:=C5 λi j=>decide (i≤j)
theorem B2:OpR X (compareOp .Lt) (bZ Z WV):=zV B8
theorem yw:OpR X (compareOp .LtE) (bZ Z WU):=zV O1
def BL:D→Bool
 | .aI=>true
 |_=>false
def F5(neg:Bool):hC:=λx y P=>match y with
 | .aI=>P (.bl (if neg then !BL x else BL x))
 |_=>False
theorem wC{G:Hp}{v:V}{d:D}(h:Dv Z G v d):decide (v= .aI)=BL d:=by cases h<;>rfl
theorem yv:OpR X (compareOp .Is) (bZ Z (F5 false)):=by
 refine KQ.imp ?_;rintro x y H Q ⟨G,a,b,P,s,da,db,hr,q⟩;cases db<;>first|exact hr.elim|skip
 exact ⟨rfl,by rw [wC da];exact q _ hr _ G H (.refl s) (.bl _)⟩
theorem Fe:OpR X (compareOp .IsNot) (bZ Z (F5 true)):=by
 refine Io.imp ?_;rintro x y H Q ⟨G,a,b,P,s,da,db,hr,q⟩;cases db<;>first|exact hr.elim|skip
 exact ⟨rfl,by rw [wC da];exact q _ hr _ G H (.refl s) (.bl _)⟩
def gL:D→Bool
 | .aI=>true
 | .bl _=>true
 | .int _=>true
 | .str _=>true
 |_=>false
def i6:D→D→Bool
 | .aI, .aI=>true
 | .bl a, .bl b=>a==b
 | .bl a, .int b=>(if a then 1 else 0)==b
 | .int a, .bl b=>a==(if b then 1 else 0)
 | .int a, .int b=>a==b
 | .str a, .str b=>a==b
 |_,_=>false
def inD(x:D)(l:List D):Bool:=l.any λy=>i6 y x
theorem o9{G:Hp}{v:V}{d:D}(h:Dv Z G v d):fO v=gL d:=by cases h<;>rfl
theorem i7{G:Hp}:∀{vs:List V}{ds:List D},aq Z G vs ds→vs.all fO=ds.all gL
 |_,_, .nil=>rfl
 |_,_, .cons a as=>by rw [List.all_cons,List.all_cons,o9 a,i7 as]
theorem xP{G:Hp}{v u:V}{d e:D}(h:Dv Z G v d)(k:Dv Z G u e):nS v u=i6 d e:=by cases h<;>cases k<;>rfl
theorem BI{G:Hp}{v:V}{d:D}(h:Dv Z G v d):∀{vs:List V}{ds:List D},aq Z G vs ds→BH v vs=inD d ds
 |_,_, .nil=>rfl
 |_,_, .cons a as=>by
  unfold BH inD;rw [List.any_cons,List.any_cons,xP a h];exact congrArg _ (BI h as)
def JH(neg:Bool):hC:=λx y P=>match y with
 | .lst l=>gL x=true∧l.all gL=true∧P (.bl (if neg then !inD x l else inD x l))
 | .tup l=>gL x=true∧l.all gL=true∧P (.bl (if neg then !inD x l else inD x l))
 |_=>False
theorem IJ{neg:Bool}:∀x y H Q,bZ Z (JH neg) x y H Q→Lb X.K neg x y H Q:=by
 rintro x y H Q ⟨G,a,b,P,s,da,db,hr,q⟩;cases db<;>first|exact hr.elim|skip
 ·rename_i p xs ds h e
  obtain ⟨h1,h2,hp⟩:=hr;refine ⟨p,xs,rfl, .inl (aD.of (s _ _ h)),by rw [o9 da];exact h1,by rw [i7 e];exact h2,?_⟩
  rw [BI da e];exact q _ hp _ G H (.refl s) (.bl _)
 ·rename_i p xs ds h e
  obtain ⟨h1,h2,hp⟩:=hr;refine ⟨p,xs,rfl, .inr (cZ.of (s _ _ h)),by rw [o9 da];exact h1,by rw [i7 e];exact h2,?_⟩
  rw [BI da e];exact q _ hp _ G H (.refl s) (.bl _)
theorem HX:OpR X (compareOp .In) (bZ Z (JH false)):=B7.imp IJ
theorem wR:OpR X (compareOp .NotIn) (bZ Z (JH true)):=ni.imp IJ
def QK:hC:=λx y P=>match x,y with
 | .lst l, .int i=>∃d,e7 l i=some d∧P d
 | .tup l, .int i=>∃d,e7 l i=some d∧P d
 | .ij l, .int i=>∃n,e7 l i=some n∧P (.int n)
 |_,_=>False
theorem C0{G:Hp}{vs:List V}{ds:List D}{i:Int}{d:D}(h:aq Z G vs ds)(e:e7 ds i=some d):∃v,e7 vs i=some v∧Dv Z G v d:=by
 unfold e7 at e ⊢;rw [h.length];cases z:iF ds.length i with
 |none=>rw [z] at e;cases e
 |some j=>rw [z] at e;exact h.get e
theorem FP{α β:Type}(f:α→β)(l:List α)(i:Int):e7 (l.map f) i=(e7 l i).map f:=by
 unfold e7;rw [aM];cases iF l.length i with
 |none=>rfl
 |some j=>show (l.map f)[j]? =_;rw [bH];rfl
variable {a b c e:Expr} {ta tb tc te:aU} {pos:Pos}
theorem dQ(ha:DE Z X a ta)(hb:DE Z X b tb)(eK:X.K=Z.K:=by rfl)(hs:oQ b:=by exact λ_ _=>rfl):DE Z X (.Subscript a b pos) (Ek QK ta tb):=by
 refine (bT (bg.or Dx) ha hb hs).imp λσ H Q h=>?_;obtain ⟨G,ρ,P,s,e,h,q⟩:=yk σ H Q h;refine ⟨G,ρ,P,s,e,h,λd hd v G1 H1 x1 dv=>?_⟩;obtain ⟨G',aE,P',s',e',h',q'⟩:=q d hd v G1 H1 x1 dv;refine ⟨G',aE,P',s',e',h',λd2 hd2 v2 G2 H2 x2 NG=>?_⟩;obtain ⟨G,a,b,P,s,da,db,hr,q⟩:=q' d2 hd2 v2 G2 H2 x2 NG;unfold QK at hr
 split at hr
 ·obtain ⟨d,h1,hp⟩:=hr
  obtain ⟨_,_,rfl,h,e⟩:=da.lD;obtain ⟨v,hv,dv⟩:=C0 e h1;exact .inl ⟨_,_,_,v,rfl,db.ofInt,aD.of (s _ _ h),hv,q _ hp _ G _ (.refl s) dv⟩
 ·obtain ⟨d,h1,hp⟩:=hr
  obtain ⟨_,_,rfl,h,e⟩:=da.oz;obtain ⟨v,hv,dv⟩:=C0 e h1;exact .inr ⟨_,_,_,v,rfl,db.ofInt,cZ.of (s _ _ h),hv,q _ hp _ G _ (.refl s) dv⟩
 rotate_left
 ·exact hr.elim
 ·obtain ⟨d,h1,hp⟩:=hr
  obtain ⟨_,rfl,h,_⟩:=da.yy;refine .inl ⟨_,_,_, .int d,rfl,db.ofInt,by rw [eK];exact h.mono s,by rw [FP,h1];rfl,q _ hp _ G _ (.refl s) (.int d)⟩
def cutD{α:Type}(xs:List α)(lo hi:Option Int):List α:=(xs.drop (HT.bD xs.length 0 lo)).take (HT.bD xs.length xs.length hi-HT.bD xs.length 0 lo)
theorem C4{G:Hp}{vs:List V}{ds:List D}(h:aq Z G vs ds)(lo hi:Option Int):aq Z G (fY vs lo hi) (cutD ds lo hi):=by
 unfold fY cutD;rw [h.length];exact (h.drop _).take _
theorem Ei{α β:Type}(f:α→β)(l:List α)(lo hi:Option Int):cutD (l.map f) lo hi=(cutD l lo hi).map f:=by
 unfold cutD;rw [aM,List.map_take,List.map_drop]
abbrev AR:=DN→(Option Int→Prop)→Prop
def Ga:AR:=λ_ P=>P none
def Nu(t:aU):AR:=λρ P=>t ρ λd=>match d with
 | .int i=>P (some i)
 |_=>False
def ON(Z:DC)(t:AR):TO:=λσ H Q=>∃(G:Hp)(ρ:DN)(P:Option Int→Prop),az G H∧cU Z G σ ρ∧t ρ P∧∀o,P o→∀G' H',Ext G H G' H'→Q o H'
def DO(Z:DC)(X:Cx)(e:Option Expr)(t:AR):Prop:=PO X e (ON Z t)
theorem PO.imp{e:Option Expr}{t t':TO}(h:PO X e t)(f:∀σ H Q,t' σ H Q→t σ H Q):PO X e t':=λpins s σ H Q I q=>h pins s σ H Q I (f _ _ _ q)
theorem Gs:DO Z X none Ga:=uD.imp λσ H Q ⟨G,ρ,P,s,e,p,q⟩=>q _ p G H (.refl s)
theorem Gu(h:DE Z X e te):DO Z X (some e) (Nu te):=by
 refine (lG h).imp ?_;rintro σ H Q ⟨G,ρ,P,s,e,h,q⟩;refine ⟨G,ρ,_,s,e,h,λd hd v G1 H1 x1 dv=>?_⟩;cases dv<;>first|exact hd.elim|skip
 exact ⟨_,rfl,q _ hd G1 H1 x1⟩
def WX(te:aU)(tl th:AR):aU:=λρ P=>te ρ λx=>tl ρ λlo=>th ρ λhi=>match x with
 | .lst l=>P (.lst (cutD l lo hi))
 | .tup l=>¬(HT.bD l.length 0 lo=0∧HT.bD l.length l.length hi=l.length)∧P (.tup (cutD l lo hi))
 | .ij l=>P (.lst ((cutD l lo hi).map D.int))
 |_=>False
variable {lo hi:Option Expr} {tl th:AR} {p2:Pos}
theorem En(he:DE Z X e te)(hl:DO Z X lo tl)(hu:DO Z X hi th)(eK:X.K=Z.K:=by rfl):DE Z X (.Subscript e (.Slice lo hi none p2) pos) (WX te tl th):=by
 refine (mO (p9.or Lk) he hl hu).imp ?_;rintro σ H Q ⟨G,ρ,P,s,en,h,q⟩;refine ⟨G,ρ,_,s,en,h,λd hd v G1 H1 x1 dv=>?_⟩;refine ⟨G1,ρ,_,x1.sub,en.mono x1.gg,hd,λl hl G2 H2 x2=>?_⟩;refine ⟨G2,ρ,_,x2.sub,(en.mono x1.gg).mono x2.gg,hl,λu hu G3 H3 x3=>?_⟩;have x:=(x1.trans x2).trans x3;have dv:=(dv.mono x2.gg).mono x3.gg;cases dv<;>first|exact hu.elim|skip
 ·rename_i h e
  exact .inl ⟨_,_,rfl,aD.of (x3.sub _ _ h),λp hn=>q _ hu _ _ _ (x.trans (.new x3.sub hn)) (.lst aa ((C4 e l u).mono (av (x3.sub.free hn) _)))⟩
 ·rename_i h e
  refine .inr ⟨_,_,rfl,cZ.of (x3.sub _ _ h),by rw [e.length];exact hu.1,λp hn=>q _ hu.2 _ _ _ (x.trans (.new x3.sub hn)) (.tup aa ((C4 e l u).mono (av (x3.sub.free hn) _)))⟩
 ·rename_i h _
  refine .inl ⟨_,_,rfl,by rw [eK];exact h.mono x3.sub,λp hn=>q _ hu _ _ _ (x.trans (.new x3.sub hn)) (.lst aa ?_)⟩
  show aq Z _ (cutD _ l u) _;rw [Ei];exact .ints _
def C2:dF:=λds P=>match ds with
 | [.lst l]=>P (.int l.length)
 | [.tup l]=>P (.int l.length)
 | [.ij l]=>P (.int l.length)
 |_=>False
theorem fK(eK:X.K=Z.K:=by rfl):bQ X (.builtin "len") (gS Z C2):=by
 refine bP.imp ?_;rintro xs H Q ⟨G,ds,P,s,dv,hr,q⟩;unfold C2 at hr
 split at hr
 ·obtain ⟨_,rfl,a⟩:=dv.ofOne
  obtain ⟨_,_,rfl,h,e⟩:=a.lD;exact ⟨_,_,rfl, .inl (aD.of (s _ _ h)),by rw [e.length];exact q _ hr _ G H (.refl s) (.int _)⟩
 ·obtain ⟨_,rfl,a⟩:=dv.ofOne
  obtain ⟨_,_,rfl,h,e⟩:=a.oz;exact ⟨_,_,rfl, .inr (cZ.of (s _ _ h)),by rw [e.length];exact q _ hr _ G H (.refl s) (.int _)⟩
 ·obtain ⟨_,rfl,a⟩:=dv.ofOne
  obtain ⟨_,rfl,h,_⟩:=a.yy;exact ⟨_,_,rfl, .inl (by rw [eK];exact h.mono s),by rw [aM];exact q _ hr _ G H (.refl s) (.int _)⟩
 ·exact hr.elim
def FR:dF:=λds P=>match ds with
 | [.lst l]=>P (.lst l)
 | [.tup l]=>P (.lst l)
 |_=>False
theorem F0:bQ X (.type "list") (gS Z FR):=by
 refine m9.imp ?_;rintro xs H Q ⟨G,ds,P,s,dv,hr,q⟩;unfold FR at hr
 split at hr
 ·obtain ⟨_,rfl,a⟩:=dv.ofOne
  obtain ⟨_,_,rfl,h,e⟩:=a.lD;exact ⟨_,_,rfl, .inl (aD.of (s _ _ h)),λp hn=>q _ hr _ _ _ (.new s hn) (.lst aa (e.mono (av (s.free hn) _)))⟩
 ·obtain ⟨_,rfl,a⟩:=dv.ofOne
  obtain ⟨_,_,rfl,h,e⟩:=a.oz;exact ⟨_,_,rfl, .inr (cZ.of (s _ _ h)),λp hn=>q _ hr _ _ _ (.new s hn) (.lst aa (e.mono (av (s.free hn) _)))⟩
 ·exact hr.elim
def aab:dF:=λds P=>match ds with
 | [.int i]=>P (.int i)
 | [.bl b]=>P (.int (if b then 1 else 0))
 |_=>False
def SS:String→D→Bool
 |"int", .int _=>true
 |"int", .bl _=>true
 |"bool", .bl _=>true
 |"list", .lst _=>true
 |"tuple", .tup _=>true
 |_,_=>false
def OZ(n:String):Bool:=n=="int"||n=="bool"||n=="list"||n=="tuple"
def MM:D→Bool
 | .aI=>true
 | .bl _=>true
 | .int _=>true
 | .str _=>true
 | .lst _=>true
 | .tup _=>true
 |_=>false
def QJ(n:String)(t:aU):aU:=λρ P=>t ρ λd=>MM d=true∧P (.bl (SS n d))
theorem Ko{K:PySem.W.Frag}{H:Hp}{v:V}{d:D}{n:String}(hn:OZ n=true)(hd:MM d=true)(h:Dv Z H v d):∃t,iW K H v t∧PySem.W.kitOne K t (.type n)=some (SS n d):=by
 unfold OZ at hn;rw [Bool.or_eq_true,Bool.or_eq_true,Bool.or_eq_true,beq_iff_eq,beq_iff_eq,beq_iff_eq,beq_iff_eq] at hn;cases h with
 |aI=>refine ⟨_, .aI,?_⟩;rcases hn with ((rfl|rfl) |rfl) |rfl<;>kernel_rfl
 |bl b=>refine ⟨_, .bl b,?_⟩;rcases hn with ((rfl|rfl) |rfl) |rfl<;>kernel_rfl
 |int b=>refine ⟨_, .int b,?_⟩;rcases hn with ((rfl|rfl) |rfl) |rfl<;>kernel_rfl
 |str b=>refine ⟨_, .str b,?_⟩;rcases hn with ((rfl|rfl) |rfl) |rfl<;>kernel_rfl
 |lst h a=>refine ⟨_, .lst h,?_⟩;rcases hn with ((rfl|rfl) |rfl) |rfl<;>kernel_rfl
 |tup h a=>refine ⟨_, .tup h,?_⟩;rcases hn with ((rfl|rfl) |rfl) |rfl<;>kernel_rfl
 |_=>cases hd
end
section
variable {Z:DC} {X:Cx} {a b c e:Expr} {ta tb tc te:aU} {pos:Pos}
theorem jU(n:String){x:Str}{p p':Pos}(ha:DE Z X a ta)(hg:Gl X "isinstance")(hm:X.mg "isinstance"=none)(Yc:Gl X x)(BB:X.mg x=none)(hv:bootBuiltins x=some (.type n))(ok:OZ n=true:=by decide)
  (hn:x≠"__name__":=by decide) (hd:(x==("__debug__":Str))=false:=by decide) (hs:starEach [a, .Name x p'] X.env=(false,eval a X.env)::starEach [.Name x p'] X.env:=by rfl)
  (dJ:(backTo pos (starEach [.Name x p'] X.env)).any (·.1)=false:=by rfl) (qB:starEach [.Name x p'] X.env=(false,eval (.Name x p') X.env)::starEach [] X.env:=by rfl):
  DE Z X (.Call (.Name "isinstance" p) [a, .Name x p'] [] pos) (QJ n ta):=by
 have hb:PE X (.Name x p') (tC (.ty n)):=Ir Yc BB hv rfl hn hd;refine (cq xF hg hm (by decide+kernel) (ae ha (ae hb ar qB) hs) (by decide) (by decide) hs dJ).imp ?_
 rintro σ H Q ⟨G,ρ,P,s,e,h,q⟩;refine ⟨G,ρ,_,s,e,h,?_⟩;rintro d ⟨hk,hp⟩ v G1 H1 x1 dv;obtain ⟨t,ht,fP⟩:=Ko (K:=X.K) (H:=H1) ok hk (dv.mono x1.sub);exact ⟨v,n,t,_,rfl,ht,fP,q _ hp _ G1 H1 x1 (.bl _)⟩
def oh(Z:DC)(g:dA):TG:=λv σ H Q=>∃(G:Hp)(ρ:DN)(d:D)(P:DN→Prop),az G H∧cU Z G σ ρ∧Dv Z G v d∧g d ρ P∧∀aE,P aE→∀ay,cU Z G ay aE→Q ay H
def DG(Z:DC)(X:Cx)(e:Expr)(g:dA):Prop:=PG X e (oh Z g)
theorem PG.imp{e:Expr}{t t':TG}(h:PG X e t)(f:∀v σ H Q,t' v σ H Q→t v σ H Q):PG X e t':=λpins s σ H v u Q I r q=>h pins s σ H v u Q I r (f _ _ _ _ q)
def oY(i:Nat):dA:=λd ρ P=>P (ρ.set i (some d))
theorem cG(i:Nat){x:Str}(hN:X.N.Nodup)(hi:X.N[i]? =some x:=by rfl)(hx:Loc X.env.scope x:=by exact Or.inl rfl)(hf:X.fn x=true∨X.env.scope.names.lookup x=some .local:=by first|exact .inl rfl|exact .inr rfl|assumption):DG Z X (.Name x pos) (oY i):=
 (bG hN hi hx hf).imp λv σ H Q ⟨G,ρ,d,P,s,e,dv,h,q⟩=>q _ h _ (e.set dv)
abbrev kn:=List D→DN→(DN→Prop)→Prop
def Kt(Z:DC)(g:kn):vy:=λvs σ H Q=>∃(G:Hp)(ρ:DN)(ds:List D)(P:DN→Prop),az G H∧cU Z G σ ρ∧aq Z G vs ds∧g ds ρ P∧∀aE,P aE→∀ay,cU Z G ay aE→Q ay H
def Jv(Z:DC)(X:Cx)(es:List Expr)(g:kn):Prop:=xC X es (Kt Z g)
theorem xC.imp{es:List Expr}{t t':vy}(h:xC X es t)(f:∀v σ H Q,t' v σ H Q→t v σ H Q):xC X es t':=λpins s σ H v u Q I r q=>h pins s σ H v u Q I r (f _ _ _ _ q)
def Gq:kn:=λds ρ P=>ds= []∧P ρ
def Dc(g:dA)(gs:kn):kn:=λds ρ P=>match ds with
 |d::r=>g d ρ λaE=>gs r aE P
 | []=>False
theorem tS:Jv Z X [] Gq:=jF.imp λv σ H Q ⟨G,ρ,ds,P,s,e,dv,⟨h,p⟩,q⟩=>by
 subst h;cases dv;exact ⟨rfl,q _ p _ e⟩
theorem il{es:List Expr}{g:dA}{gs:kn}(h1:DG Z X e g)(h2:Jv Z X es gs)(hs:(assignEach (e::es) X.env).map (·.2)=assign e X.env::(assignEach es X.env).map (·.2):=by rfl):Jv Z X (e::es) (Dc g gs):=by
 refine (dO h1 h2 hs).imp ?_;rintro v σ H Q ⟨G,ρ,ds,P,s,e,dv,h,q⟩;cases dv with
 |nil=>exact h.elim
 |cons a as=>
  refine ⟨_,_,rfl,G,ρ,_,_,s,e,a,h,λaE hp ay e'=>?_⟩;exact ⟨G,aE,_,P,s,e',as,hp,q⟩
def Gr(n:Nat)(gs:kn):dA:=λd ρ P=>match d with
 | .tup l=>l.length=n∧gs l ρ P
 |_=>False
theorem xN(n:Nat){es:List Expr}{k:Nat}{gs:kn}(hc:X.calm=true)(h:Jv Z X es gs)(hn:(assignEach es X.env).length=n:=by rfl)(yd:(assignEach es X.env).findIdx? (·.1)=none:=by rfl):DG Z X (.Tuple es k pos) (Gr n gs):=by
 refine (mP hc h hn yd).imp ?_;rintro v σ H Q ⟨G,ρ,d,P,s,e,dv,h,q⟩;cases dv<;>first|exact h.elim|skip
 rename_i a xs ds ha es
 exact ⟨a,xs,rfl,cZ.of (s _ _ ha),by rw [es.length];exact h.1,G,ρ,_,P,s,e,es,h.2,q⟩
def tx(Z:DC)(G:Hp)(J:It)(ds:List D):Prop:=∀G2 H2,az G G2→az G2 H2→∀i:Nat,(i<ds.length→J.go i H2)∧(ds.length≤i→J.stop i H2)∧
 ∀x H',i<ds.length→J.yld i H2 x H'→∃G3 d,Ext G2 H2 G3 H'∧ds[i]? =some d∧Dv Z G3 x d
def qL(Z:DC)(wi:iA):TI:=λσ H R=>∃(G:Hp)(ρ:DN)(P:List D→Prop),az G H∧cU Z G σ ρ∧wi ρ P∧∀ds,P ds→∀J G' H',Ext G H G' H'→tx Z G' J ds→R J H'
def DI(Z:DC)(X:Cx)(tg e:Expr)(wi:iA):Prop:=PI X tg e (qL Z wi)
theorem PI.imp{tg e:Expr}{t t':TI}(h:PI X tg e t)(f:∀σ H Q,t' σ H Q→t σ H Q):PI X tg e t':=λpins s σ H Q I q=>h pins s σ H Q I (f _ _ _ q)
def NB(t:aU):iA:=λρ P=>t ρ λd=>match d with
 | .lst l=>P l
 |_=>False
theorem Hz{K:PySem.W.Frag}{G:Hp}{a:Addr}{xs:List V}{ds:List D}(h:G a=some (.lst xs))(e:aq Z G xs ds):tx Z G (Ef K a) ds:=by
 intro G2 H2 s1 s2 i;have h2:=aD.of (K:=K) (s2 _ _ (s1 _ _ h));have l:=e.length;refine ⟨λhi=>⟨xs,xs[i],h2,cN (by omega)⟩,λhi=>⟨xs,h2,by omega⟩,?_⟩
 rintro x H' hi ⟨rfl,hx⟩;obtain ⟨d,hd,dv⟩:=e.Dr (hx _ h2);exact ⟨G2,d, .refl s2,hd,dv.mono s1⟩
theorem cv{tg:Expr}(h:DE Z X e te):DI Z X tg e (NB te):=by
 refine (jG h).imp ?_;rintro σ H Q ⟨G,ρ,P,s,en,h,q⟩;refine ⟨G,ρ,_,s,en,h,λd hd v G1 H1 x1 dv=>?_⟩;cases dv<;>first|exact hd.elim|skip
 rename_i ha e
 exact ⟨_,rfl,⟨_,aD.of (x1.sub _ _ ha)⟩,q _ hd _ G1 H1 x1 (Hz ha e)⟩
def eX(lo:Int)(n:Nat):List D:=(List.range n).map λ(k:Nat)=>D.int (lo+(k:Int))
theorem rM{lo:Int}{n i:Nat}(h:i<n):(eX lo n)[i]? =some (.int (lo+i)):=by
 unfold eX;rw [bH,vo h];rfl
theorem wD{G:Hp}(lo:Int)(n:Nat):tx Z G (y2 lo n) (eX lo n):=by
 intro G2 H2 s1 s2 i;have l:(eX lo n).length=n:=by unfold eX;simp
 rw [l];refine ⟨λhi=>hi,λhi=>hi,?_⟩;rintro x H' hi ⟨rfl,rfl⟩;exact ⟨G2,_, .refl s2,rM hi, .int _⟩
def Mb(t:hJ):iA:=λρ P=>t ρ λds=>match ds with
 | [.int j]=>(-(2^62)≤j∧j<2^62)∧P (eX 0 j.toNat)
 |_=>False
variable {t:hJ}
theorem Bh{tg:Expr}{p:Pos}(hg:Gl X "range")(hm:X.mg "range"=none)(ha:DA Z X [a] t)(hs:starEach [a] X.env= [(false,eval a X.env)]:=by rfl):DI Z X tg (.Call (.Name "range" p) [a] [] pos) (Mb t):=by
 refine (iI hg hm ha hs).imp ?_;rintro σ H Q ⟨G,ρ,P,s,en,h,q⟩;refine ⟨G,ρ,_,s,en,h,λds hd vs G1 H1 x1 dv=>?_⟩
 split at hd
 ·obtain ⟨_,rfl,a⟩:=dv.ofOne
  exact ⟨_,by rw [a.ofInt],hd.1.1,hd.1.2,q _ hd.2 _ G1 H1 x1 (wD 0 _)⟩
 ·exact hd.elim
def fN(l:List D):List D:=l.mapIdx λi x=> .tup [.int (i:Int),x]
def JP(t:hJ):iA:=λρ P=>t ρ λds=>match ds with
 | [.lst l]=>P (fN l)
 |_=>False
theorem Hy{K:PySem.W.Frag}{G:Hp}{a:Addr}{xs:List V}{ds:List D}(h:G a=some (.lst xs))(e:aq Z G xs ds):tx Z G (Ee K a) (fN ds):=by
 intro G2 H2 s1 s2 i;have h2:=aD.of (K:=K) (s2 _ _ (s1 _ _ h));have l:=e.length;rw [show (fN ds).length=ds.length by unfold fN;simp]
 refine ⟨λhi=>⟨xs,xs[i],h2,cN (by omega)⟩,λhi=>⟨xs,h2,by omega⟩,?_⟩
 rintro x H' hi ⟨t,y,rfl,ht,rfl,hx⟩;obtain ⟨d,hd,dv⟩:=e.Dr (hx _ h2);refine ⟨_,_, .new s2 ht,by unfold fN;rw [List.getElem?_mapIdx,hd];rfl,?_⟩
 exact .tup aa (.cons (.int _) (.cons ((dv.mono s1).mono (av (s2.free ht) _)) .nil))
theorem gy{p:Pos}{es:List Expr}{k1}{tp:Pos}(hg:Gl X "enumerate")(hm:X.mg "enumerate"=none)(ha:DA Z X [a] t)(hs:starEach [a] X.env= [(false,eval a X.env)]:=by rfl):DI Z X (.Tuple es k1 tp) (.Call (.Name "enumerate" p) [a] [] pos) (JP t):=by
 refine (uC hg hm ha hs).imp ?_;rintro σ H Q ⟨G,ρ,P,s,en,h,q⟩;refine ⟨G,ρ,_,s,en,h,λds hd vs G1 H1 x1 dv=>?_⟩
 split at hd
 ·obtain ⟨_,rfl,a⟩:=dv.ofOne
  obtain ⟨_,_,rfl,h,e⟩:=a.lD;exact ⟨_,rfl,⟨_,x1.sub _ _ h⟩,q _ hd _ G1 H1 x1 (Hy h e)⟩
 ·exact hd.elim
def uP(src:List (Option Nat))(ρ:DN):DN:=src.map λo=>o.bind λi=>(ρ[i]?).bind id
theorem cU.src{G:Hp}{σ:St}{ρ:DN}(e:cU Z G σ ρ)(src:List (Option Nat)):cU Z G (lV src σ) (uP src ρ):=by
 refine ⟨by unfold lV uP;simp,λi d h=>?_⟩
 unfold uP at h;unfold lV;rw [bH] at h ⊢;cases k:src[i]? with
 |none=>rw [k] at h;cases h
 |some o=>
  rw [k] at h;cases o with
  |none=>cases h
  |some j=>
   have h':(ρ[j]?).bind id=some d:=Option.some.inj h;cases m:ρ[j]? with
   |none=>rw [m] at h';cases h'
   |some z=>
    rw [m] at h';have h2:z=some d:=h';subst h2;obtain ⟨v,hv,dv⟩:=e.at_ j d m;exact ⟨v,by show some ((σ[j]?).bind id)=_;rw [hv];rfl,dv⟩
def lcW(g:dA)(tt:dB)(te:aU):List D→DN→List D→(DN→List D→Prop)→Prop
 | [],ρ,acc,N=>N ρ acc
 |x::xs,ρ,acc,N=>g x ρ λbf=>tt bf λb=>if b=true then te bf λd=>acc.length<sizeLine∧lcW g tt te xs bf (acc++ [d]) N else lcW g tt te xs bf acc N
def QL(wi:iA)(g:dA)(tt:dB)(te:aU)(src:List (Option Nat)):aU:=λρ P=>wi ρ λds=>lcW g tt te ds (uP src ρ) [] λ_ out=>P (.lst out)
def nh(g:dA)(tt:dB)(fV:iA)(g1:dA)(cX:dB)(te:aU):List D→DN→List D→(List D→Prop)→Prop
 | [],_,acc,P=>P acc
 |x::xs,ρ,acc,P=>g x ρ λbf=>tt bf λb=>if b=true then fV bf λes=>lcW g1 cX te es bf acc λdq tF=>nh g tt fV g1 cX te xs dq tF P else nh g tt fV g1 cX te xs bf acc P
def Ma(wi:iA)(g:dA)(tt:dB)(fV:iA)(g1:dA)(cX:dB)(te:aU)(src:List (Option Nat)):aU:=λρ P=>wi ρ λds=>nh g tt fV g1 cX te ds (uP src ρ) [] λout=>P (.lst out)
def tQ:dB:=λ_ P=>P true
def AS(Z:DC)(X:Cx)(ifs:List Expr)(t:dB):Prop:=nK X ifs (liftT Z t)
theorem nK.imp{ifs:List Expr}{t t':TT}(h:nK X ifs t)(f:∀σ H Q,t' σ H Q→t σ H Q):nK X ifs t':=λpins s σ H Q I q=>h pins s σ H Q I (f _ _ _ q)
theorem gB:AS Z X [] tQ:=lI.imp λσ H Q ⟨G,ρ,P,s,e,p,q⟩=>q _ p G H (.refl s)
theorem GC{tA:dB}(h:DT Z X c tA):AS Z X [c] tA:=Ab h
def CS(Z:DC)(G1 H1:Hp)(Ad:Addr)(ρ:DN)(acc:List D)(σ:St)(H:Hp):Prop:=
 ∃(G:Hp)(ys:List V),az G1 G∧az G H∧az H1 H∧(∀b,H1 b≠none→G1 b=none→G b=none)∧G Ad=none∧H Ad=some (.lst ys)∧aq Z G ys acc∧cU Z G σ ρ
theorem gJ{H H':Hp}(s:az H H'){b:Addr}(h:H b≠none):H' b≠none:=λz=>by
 cases e:H b with
 |none=>exact h e
 |some o=>rw [s b o e] at z;cases z
theorem kS{α:Type}{l:List α}{i:Nat}{x:α}(h:l[i]? =some x):l.drop i=x::l.drop (i+1):=by
 obtain ⟨hi,e⟩:=bV.mp h;rw [rZ hi,e]
theorem wK{G1 H1:Hp}{Ad:Addr}{J:It}{ds:List D}{g:dA}{tt:dB}{te:aU}{N:DN→List D→Prop}(hA:H1 Ad=none)(G0:Hp)(it:tx Z G0 J ds)(i:Nat)(ρ:DN)(acc:List D)(σ:St)(H:Hp)
  (c:CS Z G1 H1 Ad ρ acc σ H) (hG:∀G,az G1 G→az G0 G) (hi:i<ds.length) (h:lcW g tt te (ds.drop i) ρ acc N):
  J.go i H∧∀x H3,J.yld i H x H3→oh Z g x σ H3 λcO H4=>liftT Z tt cO H4 λb H5=>
   if b=true then di Z te cO H5 λv H6=>∃ys,H6 Ad=some (.lst ys)∧ys.length<sizeLine∧(∃aE iX,CS Z G1 H1 Ad aE iX cO (upd H6 Ad (.lst (ys++ [v])))∧lcW g tt te (ds.drop (i+1)) aE iX N)
   else ∃aE iX,CS Z G1 H1 Ad aE iX cO H5∧lcW g tt te (ds.drop (i+1)) aE iX N:=by
 obtain ⟨G2,ys,s1,s2,s3,off,gA,nZ,bh,en⟩:=c;obtain ⟨go,_,yld⟩:=it G2 H (hG _ s1) s2 i;refine ⟨go hi,λx H3 y=>?_⟩;obtain ⟨G3,d,x3,hd,dv⟩:=yld x H3 hi y;rw [kS hd] at h;refine ⟨G3,ρ,d,_,x3.sub,en.mono x3.gg,dv,h,λbf h1 cO su=>?_⟩;refine ⟨G3,bf,_,x3.sub,su,h1,λb hb G5 H5 x5=>?_⟩;have mj:=x3.trans x5;have wU:∀{G tw:Hp},Ext G2 H G tw→G Ad=none:=λx=>x.off Ad (by rw [nZ];exact λz=>nomatch z) gA
 have z5:∀{G tw:Hp},Ext G2 H G tw→∀b,H1 b≠none→G1 b=none→G b=none:=λx b h1 h2=>x.off b (gJ s3 h1) (off b h1 h2);cases b with
 |false=>
  refine dh ⟨bf,acc,⟨G5,ys,s1.trans mj.gg,mj.sub,s3.trans mj.hh,z5 mj,wU mj,mj.hh _ _ nZ,bh.mono mj.gg,su.mono x5.gg⟩,?_⟩;simpa using hb
 |true=>
  refine eY ⟨G5,bf,_,x5.sub,su.mono x5.gg,(by simpa using hb),λd' iT v G6 H6 x6 Xf=>?_⟩
  have x:=mj.trans x6;refine ⟨ys,x.hh _ _ nZ,by rw [bh.length];exact iT.1,bf,_,⟨G6,ys++ [v],s1.trans x.gg,λb o e=>?_,λb o e=>?_,z5 x,wU x,aa,(bh.mono x.gg).snoc Xf,(su.mono x5.gg).mono x6.gg⟩,iT.2⟩
  ·rw [ab (ah e (wU x))];exact x.sub _ _ e
  ·rw [ab (ah e hA)];exact (s3.trans x.hh) _ _ e
theorem CS.done{G H G1 H1 H2:Hp}{Ad:Addr}{ρ:DN}{acc:List D}{σ:St}(c:CS Z G1 H1 Ad ρ acc σ H2)(x1:Ext G H G1 H1)(hA:H1 Ad=none):∃G',Ext G H G' H2∧Dv Z G' (.ref Ad) (.lst acc):=by
 obtain ⟨G2,ys,s1,s2,s3,off,gA,nZ,bh,en⟩:=c;refine ⟨upd G2 Ad (.lst ys),⟨(x1.gg.trans s1).trans (av gA _),λb o e=>?_,x1.hh.trans s3,λb hb hg=>?_⟩, .lst aa (bh.mono (av gA _))⟩
 ·by_cases z:b=Ad
  ·subst z;rw [aa] at e;cases e;exact nZ
  ·rw [ab z] at e;exact s2 _ _ e
 ·have h1:=gJ x1.hh hb
  rw [ab (λz=>h1 (by rw [z];exact hA))]
  exact off b h1 (x1.off b hb hg)
theorem CS.begin{G1 H1:Hp}{Ad:Addr}{ρ:DN}{σ:St}(s:az G1 H1)(hA:H1 Ad=none)(en:cU Z G1 σ ρ):CS Z G1 H1 Ad ρ [] σ (upd H1 Ad (.lst [])):=
 ⟨G1,[], .refl _,λb o e=>by rw [ab (ah e (s.free hA))];exact s _ _ e,av hA _,λ_ _ h=>h,s.free hA,aa, .nil,en⟩
variable {tg iter elt:Expr} {ifs:List Expr} {scope:Scope} {NC:List Str} {src:List (Option Nat)} {wi:iA} {g:dA} {tt:dB}
theorem Kw:∀σ H Q,di Z (QL wi g tt te src) σ H Q→Jk (qL Z wi) (oh Z g) (liftT Z tt) (di Z te) src σ H Q:=by
 rintro σ H Q ⟨G,ρ,P,s,en,h,q⟩;refine ⟨G,ρ,_,s,en,h,λds hd J G1 H1 x1 it Ad hA=>?_⟩;refine ⟨λi m cn H2=>m=ds.length-i∧i≤ds.length∧∃dq acc,CS Z G1 H1 Ad dq acc cn H2∧lcW g tt te (ds.drop i) dq acc λ_ out=>P (.lst out),⟨_,rfl,cW _,_,[], .begin x1.sub hA ((en.mono x1.gg).src src),hd⟩,?_⟩;rintro i m cn H2 ⟨rfl,hi,dq,acc,c,hl⟩
 by_cases bq:i<ds.length
 ·obtain ⟨go,turn⟩:=wK hA G1 it i dq acc cn H2 c (λ_ s=>s) bq hl
  exact .inr ⟨go,_,λay H' n=>⟨ds.length-(i+1),by omega,rfl,bq,n⟩,turn⟩
 ·have e:ds.drop i= []:=xh (by omega)
  rw [e] at hl;obtain ⟨G',x,dv⟩:=c.done x1 hA;obtain ⟨G2,ys,s1,s2,_⟩:=c;exact .inl ⟨(it G2 H2 s1 s2 i).2.1 (by omega),q _ hl _ G' H2 x dv⟩
theorem tR(hc:X.calm=true)(c:bE X scope)(fC:dg scope X.N src NC)(hi:DI Z X tg iter wi)
  (hg:∀ex s H,DG Z (dG X scope NC ex s H) tg g) (ht:∀ex s H,AS Z (dG X scope NC ex s H) ifs tt) (he:∀ex s H,DE Z (dG X scope NC ex s H) elt te)
  (hs:∀x,foldedSetIterable iter X.env x=pure x:=by intro _;rfl):DE Z X (.ListComp elt [⟨tg,iter,ifs,0⟩] scope pos) (QL wi g tt te src):=(Cc hc c fC hi hg ht he hs).imp Kw
variable {t0 i0 t1 i1:Expr} {f0 f1:List Expr} {fV:iA} {g1:dA} {cX:dB}
theorem HI:∀σ H Q,di Z (Ma wi g tt fV g1 cX te src) σ H Q→MS (qL Z wi) (oh Z g) (liftT Z tt) (qL Z fV) (oh Z g1) (liftT Z cX) (di Z te) src σ H Q:=by
 rintro σ H Q ⟨G,ρ,P,s,en,h,q⟩;refine ⟨G,ρ,_,s,en,h,λds hd J G1 H1 x1 it Ad hA=>?_⟩;refine ⟨λi m cn H2=>m=ds.length-i∧i≤ds.length∧∃dq acc,CS Z G1 H1 Ad dq acc cn H2∧nh g tt fV g1 cX te (ds.drop i) dq acc λout=>P (.lst out),⟨_,rfl,cW _,_,[], .begin x1.sub hA ((en.mono x1.gg).src src),hd⟩,?_⟩;rintro i m cn H2 ⟨rfl,hi,dq,acc,c,hl⟩
 by_cases bq:i<ds.length
 ·have c0:=c
  obtain ⟨G2,ys,s1,s2,s3,off,gA,nZ,bh,NK⟩:=c;obtain ⟨go,_,yld⟩:=it G2 H2 s1 s2 i;refine .inr ⟨go bq,λay H'=>∃aE iX,CS Z G1 H1 Ad aE iX ay H'∧nh g tt fV g1 cX te (ds.drop (i+1)) aE iX λout=>P (.lst out),λay H' n=>⟨ds.length-(i+1),by omega,rfl,bq,n⟩,λx H3 y=>?_⟩
  obtain ⟨G3,d,x3,Hb,dv⟩:=yld x H3 bq y;rw [kS Hb] at hl;refine ⟨G3,dq,d,_,x3.sub,NK.mono x3.gg,dv,hl,λbf h1 cO su=>?_⟩;refine ⟨G3,bf,_,x3.sub,su,h1,λb hb G5 H5 x5=>?_⟩;have mj:=x3.trans x5;have wU:∀{G tw:Hp},Ext G2 H2 G tw→G Ad=none:=λx=>x.off Ad (by rw [nZ];exact λz=>nomatch z) gA
  have z5:∀{G tw:Hp},Ext G2 H2 G tw→∀b,H1 b≠none→G1 b=none→G b=none:=λx b h1 h2=>x.off b (gJ s3 h1) (off b h1 h2);cases b with
  |false=>exact dh ⟨bf,acc,⟨G5,ys,s1.trans mj.gg,mj.sub,s3.trans mj.hh,z5 mj,wU mj,mj.hh _ _ nZ,bh.mono mj.gg,su.mono x5.gg⟩,by simpa using hb⟩
  |true=>
   refine eY ⟨G5,bf,_,x5.sub,su.mono x5.gg,(by simpa using hb),λes X9 J1 G6 H6 x6 Hx=>?_⟩
   have x:=mj.trans x6;have c6:CS Z G6 H6 Ad bf acc cO H6→True:=λ_=>trivial
   refine ⟨λk m qp H7=>m=es.length-k∧k≤es.length∧∃(Ju:DN)(y3:List D),(∃(G:Hp)(ys:List V),az G6 G∧az G H7∧az H1 H7∧(∀b,H1 b≠none→G1 b=none→G b=none)∧G Ad=none∧H7 Ad=some (.lst ys)∧aq Z G ys y3∧cU Z G qp Ju)∧
    lcW g1 cX te (es.drop k) Ju y3 λdq tF=>nh g tt fV g1 cX te (ds.drop (i+1)) dq tF λout=>P (.lst out),
    ⟨_,rfl,cW _,bf,acc,⟨G6,ys, .refl _,x.sub,s3.trans x.hh,z5 x,wU x,x.hh _ _ nZ,bh.mono x.gg,(su.mono x5.gg).mono x6.gg⟩,X9⟩,?_⟩
   rintro k m qp H7 ⟨rfl,hk,Ju,y3,⟨G7,LG,a1,a2,a3,a4,a5,a6,a7,a8⟩,t6⟩;have Xu:az G1 G6:=s1.trans x.gg
   by_cases Hg:k<es.length
   ·obtain ⟨Xy,_,VR⟩:=Hx G7 H7 a1 a2 k
    refine .inr ⟨Xy Hg,λay H'=>∃(aE:DN)(iX:List D),(∃(G:Hp)(ys:List V),az G6 G∧az G H'∧az H1 H'∧(∀b,H1 b≠none→G1 b=none→G b=none)∧G Ad=none∧H' Ad=some (.lst ys)∧aq Z G ys iX∧cU Z G ay aE)∧
     lcW g1 cX te (es.drop (k+1)) aE iX λdq tF=>nh g tt fV g1 cX te (ds.drop (i+1)) dq tF λout=>P (.lst out),λay H' n=>⟨es.length-(k+1),by omega,rfl,Hg,n⟩,λy H8 hy=>?_⟩
    obtain ⟨G8,d8,x8,X2,Xg⟩:=VR y H8 Hg hy;rw [kS X2] at t6;refine ⟨G8,Ju,d8,_,x8.sub,a8.mono x8.gg,Xg,t6,λLK h9 σ9 JT=>?_⟩;refine ⟨G8,LK,_,x8.sub,JT,h9,λb hb PJ xw Jr=>?_⟩;have xx:=x8.trans Jr;have oA:∀{G tw:Hp},Ext G7 H7 G tw→G Ad=none:=λx=>x.off Ad (by rw [a6];exact λz=>nomatch z) a5
    have oB:∀{G tw:Hp},Ext G7 H7 G tw→∀b,H1 b≠none→G1 b=none→G b=none:=λx b h1 h2=>x.off b (gJ a3 h1) (a4 b h1 h2);cases b with
    |false=>exact dh ⟨LK,y3,⟨PJ,LG,a1.trans xx.gg,xx.sub,a3.trans xx.hh,oB xx,oA xx,xx.hh _ _ a6,a7.mono xx.gg,JT.mono Jr.gg⟩,by simpa using hb⟩
    |true=>
     refine eY ⟨PJ,LK,_,Jr.sub,JT.mono Jr.gg,(by simpa using hb),λd' iT v V0 Ed VP Rh=>?_⟩
     have xz:=xx.trans VP;refine ⟨LG,xz.hh _ _ a6,by rw [a7.length];exact iT.1,LK,_,⟨V0,LG++ [v],a1.trans xz.gg,λb o e=>?_,λb o e=>?_,oB xz,oA xz,aa,(a7.mono xz.gg).snoc Rh,(JT.mono Jr.gg).mono VP.gg⟩,iT.2⟩
     ·rw [ab (ah e (oA xz))];exact xz.sub _ _ e
     ·rw [ab (ah e hA)];exact (a3.trans xz.hh) _ _ e
   ·have e:es.drop k= []:=xh (by omega)
    rw [e] at t6;exact .inl ⟨(Hx G7 H7 a1 a2 k).2.1 (by omega),Ju,y3,⟨G7,LG,Xu.trans a1,a2,a3,a4,a5,a6,a7,a8⟩,t6⟩
 ·have e:ds.drop i= []:=xh (by omega)
  rw [e] at hl;obtain ⟨G',x,dv⟩:=c.done x1 hA;obtain ⟨G2,ys,s1,s2,_⟩:=c;exact .inl ⟨(it G2 H2 s1 s2 i).2.1 (by omega),q _ hl _ G' H2 x dv⟩
theorem JM(hc:X.calm=true)(c:bE X scope)(fC:dg scope X.N src NC)(hi:DI Z X t0 i0 wi)
  (hg:∀ex s H,DG Z (dG X scope NC ex s H) t0 g) (ht:∀ex s H,AS Z (dG X scope NC ex s H) f0 tt) (zA:∀ex s H,DI Z (dG X scope NC ex s H) t1 i1 fV) (N8:∀ex s H,DG Z (dG X scope NC ex s H) t1 g1)
  (Ox:∀ex s H,AS Z (dG X scope NC ex s H) f1 cX) (he:∀ex s H,DE Z (dG X scope NC ex s H) elt te)
  (hs:∀x,foldedSetIterable i0 X.env x=pure x:=by intro _;rfl) (EW:∀env x,foldedSetIterable i1 env x=pure x:=by intro _ _;rfl):
  DE Z X (.ListComp elt [⟨t0,i0,f0,0⟩,⟨t1,i1,f1,0⟩] scope pos) (Ma wi g tt fV g1 cX te src):=(KZ hc c fC hi hg ht zA N8 Ox he hs EW).imp HI
end
inductive cp (R:V→D→List Addr→Prop):List V→List D→List Addr→Prop
 |nil:cp R [] [] []
 |cons {v:V} {vs:List V} {d:D} {ds:List D} {f fs:List Addr}:R v d f→cp R vs ds fs→cp R (v::vs) (d::ds) (f++fs)
def SU:D→Bool
 | .lst _=>true
 |_=>false
def Own(Z:DC)(G H:Hp):Nat→V→D→List Addr→Prop
 |0,v,d,fp=>Dv Z G v d∧fp= []
 |n+1,v,d,fp=>(∃a xs ds cE,v= .ref a∧d= .lst ds∧H a=some (.lst xs)∧fp=a::cE∧cp (Own Z G H n) xs ds cE)∨(1≤n∧∃a xs ds,v= .ref a∧d= .tup ds∧G a=some (.tup xs)∧cp (λv d f=>(SU d=true∧Own Z G H n v d f)∨(SU d=false∧Dv Z G v d∧f= [])) xs ds fp)∨(∃a φ,v= .ref a∧H a=some (.ext φ)∧fp= [a]∧((n=98∧∃b ns,d= .set b ns∧φ=LN b a ns)∨(n=97∧∃k,d= .x k∧Eg G a φ k)))
theorem Own.lst{Z:DC}{G H:Hp}{n:Nat}{v:V}{ds:List D}{fp:List Addr}(o:Own Z G H (n+1) v (.lst ds) fp):∃a xs gz cE,v= .ref a∧D.lst ds= .lst gz∧H a=some (.lst xs)∧fp=a::cE∧cp (Own Z G H n) xs gz cE:=by
 rcases o with o| ⟨_,a,xs,ds,_,e,_⟩ | ⟨a,φ,_,_,_,⟨_,b,ns,e,_⟩ | ⟨_,k,e,_⟩⟩
 ·exact o
 ·cases e
 ·cases e
 ·cases e
theorem Own.xA{Z:DC}{G H:Hp}{v:V}{k:XD}{fp:List Addr}(o:Own Z G H 98 v (.x k) fp):∃a φ,v= .ref a∧H a=some (.ext φ)∧fp= [a]∧Eg G a φ k:=by
 rcases o with ⟨_,_,_,_,_,e,_⟩ | ⟨_,a,xs,ds,_,e,_⟩ | ⟨a,φ,h1,h2,h3,⟨_,b,ns,e,e2⟩ | ⟨_,k,e,h4⟩⟩
 ·cases e
 ·cases e
 ·cases e
 ·cases e;exact ⟨a,φ,h1,h2,h3,h4⟩
theorem Own.one{Z:DC}{G H:Hp}{v:V}{d:D}{fp:List Addr}(o:Own Z G H 1 v d fp):∃a xs ds cE,v= .ref a∧d= .lst ds∧H a=some (.lst xs)∧fp=a::cE∧cp (Own Z G H 0) xs ds cE:=by
 rcases o with o| ⟨z,_⟩ | ⟨_,_,_,_,_,⟨z,_⟩ | ⟨z,_⟩⟩
 ·exact o
 ·exact absurd z (by decide)
 ·exact absurd z (by decide)
 ·exact absurd z (by decide)
theorem cp.imp{R R':V→D→List Addr→Prop}:∀{vs:List V}{ds:List D}{fp:List Addr},cp R vs ds fp→(∀v d f,(∀b∈f,b∈fp)→R v d f→R' v d f)→cp R' vs ds fp
 |_,_,_, .nil,_=> .nil
 |_,_,_, .cons a as,h=> .cons (h _ _ _ (λb hb=>se _ hb) a) (as.imp λv d f hf r=>h v d f (λb hb=>dX _ (hf b hb)) r)
theorem cp.length{R:V→D→List Addr→Prop}:∀{vs:List V}{ds:List D}{fp:List Addr},cp R vs ds fp→vs.length=ds.length
 |_,_,_, .nil=>rfl
 |_,_,_, .cons _ as=>congrArg (·+1) as.length
section
variable {Z:DC} {G G' H H':Hp}
theorem Own.keep:∀{n:Nat}{v:V}{d:D}{fp:List Addr},Own Z G H n v d fp→az G G'→(∀b∈fp,H' b=H b)→Own Z G' H' n v d fp
 |0,_,_,_,⟨a,b⟩,s,_=>⟨a.mono s,b⟩
 |n+1,_,_,_, .inl ⟨a,xs,ds,cE,hv,hd,ha,hf,ho⟩,s,k=>by
  subst hf;exact .inl ⟨a,xs,ds,cE,hv,hd,by rw [k a (b7 ..)];exact ha,rfl,ho.imp λv d f hb r=>Own.keep r s λb q=>k b (cm _ (hb b q))⟩
 |n+1,_,_,_, .inr (.inl ⟨h1,a,xs,ds,hv,hd,ha,ho⟩),s,k=> .inr (.inl ⟨h1,a,xs,ds,hv,hd,s _ _ ha,ho.imp λv d f hb r=>r.imp (λr=>⟨r.1,Own.keep r.2 s λb q=>k b (hb b q)⟩) λr=>⟨r.1,r.2.1.mono s,r.2.2⟩⟩)
 |n+1,_,_,_, .inr (.inr ⟨a,φ,hv,ha,hf,hx⟩),s,k=> .inr (.inr ⟨a,φ,hv,by rw [k a (by rw [hf];exact b7 ..)];exact ha,hf,hx.imp id λ⟨h1,k,h2,h3⟩=>⟨h1,k,h2,h3.mono s⟩⟩)
theorem cp.zt{R:V→D→List Addr→Prop}:∀{vs:List V}{ds:List D}{fp:List Addr},cp R vs ds fp→(∀v d f,(∀b∈f,b∈fp)→R v d f→Dv Z G' v d)→aq Z G' vs ds
 |_,_,_, .nil,_=> .nil
 |_,_,_, .cons a as,k=> .cons (k _ _ _ (λb hb=>se _ hb) a) (as.zt λv d f hf r=>k v d f (λb hb=>dX _ (hf b hb)) r)
theorem Own.dv:∀{n:Nat}{v:V}{d:D}{fp:List Addr},Own Z G H n v d fp→az G G'→(∀b∈fp,∀o,H b=some o→G' b=some o)→Dv Z G' v d
 |0,_,_,_,⟨a,_⟩,s,_=>a.mono s
 |n+1,_,_,_, .inl ⟨a,xs,ds,cE,hv,hd,ha,hf,ho⟩,s,k=>by
  subst hf hv hd;exact .lst (k a (b7 ..) _ ha) (ho.zt λv d f hf r=>Own.dv r s λb hb=>k b (cm _ (hf b hb)))
 |n+1,_,_,_, .inr (.inl ⟨_,a,xs,ds,hv,hd,ha,ho⟩),s,k=>by
  subst hv hd;exact .tup (s _ _ ha) (ho.zt λv d f hf r=>r.elim (λr=>Own.dv r.2 s λb hb=>k b (hf b hb)) λr=>r.2.1.mono s)
 |n+1,_,_,_, .inr (.inr ⟨a,φ,hv,ha,hf,hx⟩),s,k=>by
  subst hv hf
  rcases hx with ⟨_,b,ns,hd,hp⟩ | ⟨_,kx,hd,hp⟩
  ·subst hd hp
   exact .set (k a (b7 ..) _ ha)
  ·subst hd
   exact .x (k a (b7 ..) _ ha) (hp.mono s)
theorem cp.flat:∀{vs:List V}{ds:List D}{fp:List Addr},cp (Own Z G H 0) vs ds fp→aq Z G vs ds∧fp= []
 |_,_,_, .nil=>⟨.nil,rfl⟩
 |_,_,_, .cons a as=>by
  obtain ⟨h1,h2⟩:=as.flat;obtain ⟨a1,a2⟩:=a;exact ⟨.cons a1 h1,by rw [a2,h2];rfl⟩
theorem aq.own:∀{vs:List V}{ds:List D},aq Z G vs ds→cp (Own Z G H 0) vs ds []
 |_,_, .nil=> .nil
 |_,_, .cons a as=> .cons (f:= []) (fs:= []) ⟨a,rfl⟩ as.own
end
mutual
def lC:D→Bool
 | .aI=>true
 | .bl _=>true
 | .int _=>true
 | .str _=>true
 | .tup l=>Dz l
 |_=>false
def Dz:List D→Bool
 | []=>true
 |d::ds=>lC d&&Dz ds
end
mutual
theorem Dv.lC{Z:DC}{G G':Hp}(k:∀b xs,G b=some (.tup xs)→G' b=some (.tup xs)):∀{v:V}{d:D},Dv Z G v d→L2.lC d=true→Dv Z G' v d
 |_,_, .aI,_=> .aI
 |_,_, .bl b,_=> .bl b
 |_,_, .int i,_=> .int i
 |_,_, .str x h,_=> .str x h
 |_,_, .tup h a,f=> .tup (k _ _ h) (aq.lC k a (by rw [L2.lC] at f;exact f))
 |_,_, .lst _ _,f=>by simp [L2.lC] at f
 |_,_, .obj _,f=>by simp [L2.lC] at f
 |_,_, .rng _,f=>by simp [L2.lC] at f
 |_,_, .ij _ _,f=>by simp [L2.lC] at f
 |_,_, .fw _ _ _ _ _,f=>by simp [L2.lC] at f
 |_,_, .set _,f=>by simp [L2.lC] at f
 |_,_, .x _ _,f=>by simp [L2.lC] at f
theorem aq.lC{Z:DC}{G G':Hp}(k:∀b xs,G b=some (.tup xs)→G' b=some (.tup xs)):∀{vs:List V}{ds:List D},aq Z G vs ds→Dz ds=true→aq Z G' vs ds
 |_,_, .nil,_=> .nil
 |_,_, .cons a as,f=>by
  rw [Dz,xp] at f;exact .cons (Dv.lC k a f.1) (aq.lC k as f.2)
end
def MN:HO→Bool
 | .lst _=>true
 | .ext _=>true
 |_=>false
theorem Own.NH{Z:DC}{G G' H:Hp}:∀{n:Nat}{v:V}{d:D}{fp:List Addr},Own Z G H n v d fp→az G G'→(∀b∈fp,∀o,MN o=true→H b=some o→G' b=some o)→Dv Z G' v d
 |0,_,_,_,⟨a,_⟩,s,_=>a.mono s
 |n+1,_,_,_, .inl ⟨a,xs,ds,cE,hv,hd,ha,hf,ho⟩,s,k=>by
  subst hf hv hd;exact .lst (k a (b7 ..) _ rfl ha) (ho.zt λv d f hf r=>Own.NH r s λb hb=>k b (cm _ (hf b hb)))
 |n+1,_,_,_, .inr (.inl ⟨_,a,xs,ds,hv,hd,ha,ho⟩),s,k=>by
  subst hv hd;exact .tup (s _ _ ha) (ho.zt λv d f hf r=>r.elim (λr=>Own.NH r.2 s λb hb=>k b (hf b hb)) λr=>r.2.1.mono s)
 |n+1,_,_,_, .inr (.inr ⟨a,φ,hv,ha,hf,hx⟩),s,k=>by
  subst hv hf
  rcases hx with ⟨_,b,ns,hd,hp⟩ | ⟨_,kx,hd,hp⟩
  ·subst hd hp
   exact .set (k a (b7 ..) _ rfl ha)
  ·subst hd
   exact .x (k a (b7 ..) _ rfl ha) (hp.mono s)
structure Bs where
 G₀:Hp
 H₀:Hp
 Gf:Hp
structure SIx (Z:DC) (B:Bs) (md:List Nat) (ρ:DN) (σ:St) (H G:Hp) (fp:Nat→List Addr):Prop where
 ex:Ext B.G₀ B.H₀ G H
 fl:az B.Gf G
 len:ρ.length=σ.length
 at_:∀(i:Nat)(d:D),ρ[i]? =some (some d)→∃v,σ[i]? =some (some v)∧Own Z G H (md.getD i 0) v d (fp i)
 nd:∀i,(fp i).Nodup
 ap:∀i j b,i≠j→b∈fp i→b∉fp j
 nw:∀i b,b∈fp i→B.H₀ b=none∧H b≠none∧G b=none
def SI(Z:DC)(B:Bs)(md:List Nat)(ρ:DN)(σ:St)(H:Hp):Prop:=∃G fp,SIx Z B md ρ σ H G fp
def cF:List Nat→DN→DN
 |_,[]=> []
 | [],o::ρ=>o::ρ
 |0::md,o::ρ=>o::cF md ρ
 | (_+1)::md,_::ρ=>none::cF md ρ
theorem oG:∀(md:List Nat)(ρ:DN),(cF md ρ).length=ρ.length
 |md,[]=>by cases md<;>rfl
 | [],o::ρ=>rfl
 |0::md,o::ρ=>by rw [cF,cx,oG md ρ,cx]
 | (_+1)::md,_::ρ=>by rw [cF,cx,oG md ρ,cx]
theorem qQ{d:D}:∀(md:List Nat)(ρ:DN)(i:Nat),(cF md ρ)[i]? =some (some d)→md.getD i 0=0∧ρ[i]? =some (some d)
 |md,[],i,h=>by cases md<;>simp [cF] at h
 | [],o::ρ,i,h=>⟨by simp,h⟩
 |0::md,o::ρ,0,h=>⟨rfl,by simpa [cF] using h⟩
 |0::md,o::ρ,i+1,h=>by
  rw [cF,r6] at h;obtain ⟨a,b⟩:=qQ md ρ i h;exact ⟨by rw [List.getD_cons_succ];exact a,by rw [r6];exact b⟩
 | (_+1)::md,_::ρ,0,h=>by simp [cF] at h
 | (_+1)::md,_::ρ,i+1,h=>by
  rw [cF,r6] at h;obtain ⟨a,b⟩:=qQ md ρ i h;exact ⟨by rw [List.getD_cons_succ];exact a,by rw [r6];exact b⟩
def CK(md:List Nat):Bool→DN→DN
 |true,ρ=>ρ
 |false,ρ=>cF md ρ
def oZ:Bool→D→Prop
 |true,d=>lC d=true
 |false,_=>True
section
variable {Z:DC} {B:Bs} {md:List Nat} {ρ:DN} {σ:St} {H G:Hp} {fp:Nat→List Addr}
theorem Ck{i:Nat}{d:D}(h:(cF md ρ)[i]? =some (some d)):md.getD i 0=0∧ρ[i]? =some (some d):=qQ md ρ i h
theorem SIx.zv(S:SIx Z B md ρ σ H G fp):cU Z G σ (cF md ρ):=by
 refine ⟨by rw [oG];exact S.len,λi d h=>?_⟩
 obtain ⟨z,h⟩:=Ck h;obtain ⟨v,hv,o⟩:=S.at_ i d h;rw [z] at o;exact ⟨v,hv,o.1⟩
theorem SIx.GG(S:SIx Z B md ρ σ H G fp):cU Z H σ ρ:=by
 refine ⟨S.len,λi d h=>?_⟩;obtain ⟨v,hv,o⟩:=S.at_ i d h;exact ⟨v,hv,o.dv S.ex.sub λb _ u e=>e⟩
theorem SIx.grow{G' H':Hp}(S:SIx Z B md ρ σ H G fp)(x:Ext G H G' H'):SIx Z B md ρ σ H' G' fp where
 ex:=S.ex.trans x
 fl:=S.fl.trans x.gg
 len:=S.len
 at_:=λi d h=>by
  obtain ⟨v,hv,o⟩:=S.at_ i d h;refine ⟨v,hv,o.keep x.gg λb hb=>?_⟩;cases e:H b with
  |none=>exact absurd e (S.nw i b hb).2.1
  |some u=>exact x.hh _ _ e
 nd:=S.nd
 ap:=S.ap
 nw:=λi b hb=>let ⟨h1,h2,h3⟩:=S.nw i b hb;⟨h1,gJ x.hh h2,x.off b h2 h3⟩
theorem Ext.all{G' H':Hp}(s:az G H)(x:Ext H H G' H'):Ext G H G H':=⟨.refl _,s.trans x.hh,x.hh,λ_ _ h=>h⟩
open Classical in
noncomputable def gY(G H:Hp)(fp:Nat→List Addr):Hp:=λb=>if ∃i,b∈fp i then (match H b with|some (.lst xs)=>some (.lst xs) |some (.ext φ)=>some (.ext φ) |_=>none) else G b
open Classical in
noncomputable def qH(G:Hp)(fp:Nat→List Addr):Hp:=λb=>if ∃i,b∈fp i then none else G b
theorem FF{b:Addr}{o:HO}(i:Nat)(h:b∈fp i)(ho:MN o=true)(e:H b=some o):gY G H fp b=some o:=by
 unfold gY;rw [if_pos ⟨i,h⟩,e];cases o<;>first|rfl|cases ho
theorem oP{b:Addr}(h:¬∃i,b∈fp i):gY G H fp b=G b:=if_neg h
theorem SIx.Mf(S:SIx Z B md ρ σ H G fp):az G (gY G H fp)∧az (gY G H fp) H∧cU Z (gY G H fp) σ ρ:=by
 have s1:az G (gY G H fp):=λb o e=>by
  by_cases h:∃i,b∈fp i
  ·obtain ⟨i,hi⟩:=h
   rw [(S.nw i b hi).2.2] at e;cases e
  ·rw [oP h];exact e
 refine ⟨s1,λb o e=>?_,S.len,λi d h=>?_⟩
 ·by_cases h:∃i,b∈fp i
  ·unfold gY at e
   rw [if_pos h] at e
   split at e
   ·next xs hx=>rw [hx];exact e
   ·next φ hx=>rw [hx];exact e
   ·cases e
  ·rw [oP h] at e;exact S.ex.sub _ _ e
 ·obtain ⟨v,hv,o⟩:=S.at_ i d h
  exact ⟨v,hv,o.NH s1 λb hb u hu hx=>FF i hb hu hx⟩
theorem SIx.UD{G' H':Hp}(S:SIx Z B md ρ σ H G fp)(x:Ext (gY G H fp) H G' H'):Ext G H (qH G' fp) H'∧∀b xs,G' b=some (.tup xs)→qH G' fp b=some (.tup xs):=by
 obtain ⟨s1,s2,_⟩:=S.Mf;refine ⟨⟨λb o e=>?_,λb o e=>?_,x.hh,λb hb hg=>?_⟩,λb xs e=>?_⟩
 ·have h:¬∃i,b∈fp i:=by
   rintro ⟨i,hi⟩;rw [(S.nw i b hi).2.2] at e;cases e
  unfold qH;rw [if_neg h];exact x.gg _ _ (s1 _ _ e)
 ·unfold qH at e
  split at e
  ·cases e
  ·exact x.sub _ _ e
 ·unfold qH
  split
  ·rfl
  ·next h=>exact x.off b hb (by rw [oP h];exact hg)
 ·have h:¬∃i,b∈fp i:=by
   rintro ⟨i,hi⟩;have hb:=(S.nw i b hi).2.1;cases hw:gY G H fp b with
   |none=>rw [x.off b hb hw] at e;cases e
   |some o=>
    have:=x.gg _ _ hw
    rw [e] at this;cases this;unfold gY at hw;rw [if_pos ⟨i,hi⟩] at hw
    split at hw<;>cases hw
  unfold qH;rw [if_neg h];exact e
theorem SIx.ev{t:aU}{P:D→Prop}{Q:VK}(S:SIx Z B md ρ σ H G fp)(m:Bool)(h:t (CK md m ρ) P)
  (hq:∀d,P d→oZ m d∧∀v G' H',SIx Z B md ρ σ H' G' fp→Ext G H G' H'→Dv Z G' v d→Q v H'):di Z t σ H Q:=by
 cases m with
 |false=>exact ⟨G,_,P,S.ex.sub,S.zv,h,λd hd v G' H' x dv=>(hq d hd).2 v G' H' (S.grow x) x dv⟩
 |true=>
  obtain ⟨s1,s2,e⟩:=S.Mf;refine ⟨gY G H fp,_,P,s2,e,h,λd hd v G' H' x dv=>?_⟩;obtain ⟨x',k⟩:=S.UD x;exact (hq d hd).2 v _ H' (S.grow x') x' (dv.lC k (hq d hd).1)
theorem SIx.Rm{t:dB}{P:Bool→Prop}{Q:Bool→Hp→Prop}(S:SIx Z B md ρ σ H G fp)(h:t ρ P)(hq:∀b,P b→∀H',SIx Z B md ρ σ H' G fp→Q b H'):liftT Z t σ H Q:=
 ⟨H,ρ,P, .refl _,S.GG,h,λb hb G' H' x=>hq b hb H' (S.grow (Ext.all S.ex.sub x))⟩
theorem SIx.nz{i:Nat}{v:V}{d:D}(S:SIx Z B md ρ σ H G fp)(hm:md.getD i 0=0)(dv:Dv Z G v d):SIx Z B md (ρ.set i (some d)) (σ.set i (some v)) H G (λj=>if j=i then [] else fp j) where
 ex:=S.ex
 fl:=S.fl
 len:=by rw [fe,fe];exact S.len
 at_:=λj c h=>by
  by_cases z:i=j
  ·subst z
   by_cases hi:i<ρ.length
   ·rw [mn hi] at h
    cases h;exact ⟨v,mn (by rw [←S.len];exact hi),by rw [hm,if_pos rfl];exact ⟨dv,rfl⟩⟩
   ·rw [AJ (kJ hi),iO (kJ hi)] at h;cases h
  ·rw [sg z] at h ⊢
   rw [if_neg (Ne.symm z)];exact S.at_ j c h
 nd:=λj=>by split;exact jO;exact S.nd j
 ap:=λj k b ne hj hk=>by
  split at hj
  ·cases hj
  ·split at hk
   ·cases hk
   ·exact S.ap j k b ne hj hk
 nw:=λj b hb=>by
  split at hb
  ·cases hb
  ·exact S.nw j b hb
theorem SIx.IW{i n:Nat}{v:V}{d:D}{f:List Addr}(S:SIx Z B md ρ σ H G fp)(hm:md.getD i 0=n)(o:Own Z G H n v d f)(nd:f.Nodup)(nw:∀b∈f,B.H₀ b=none∧H b≠none∧G b=none)(ap:∀b∈f,∀j,j≠i→b∉fp j):
  SIx Z B md (ρ.set i (some d)) (σ.set i (some v)) H G (λj=>if j=i then f else fp j) where
 ex:=S.ex
 fl:=S.fl
 len:=by rw [fe,fe];exact S.len
 at_:=λj c h=>by
  by_cases z:i=j
  ·subst z
   by_cases hi:i<ρ.length
   ·rw [mn hi] at h
    cases h;exact ⟨v,mn (by rw [←S.len];exact hi),by rw [hm,if_pos rfl];exact o⟩
   ·rw [AJ (kJ hi),iO (kJ hi)] at h;cases h
  ·rw [sg z] at h ⊢
   rw [if_neg (Ne.symm z)];exact S.at_ j c h
 nd:=λj=>by split;exact nd;exact S.nd j
 ap:=λj k b ne hj hk=>by
  split at hj
  ·next z=>
   rw [if_neg (λw=>ne (z.trans w.symm))] at hk;exact ap b hj k (λw=>ne (z.trans w.symm)) hk
  ·next z=>
   split at hk
   ·exact ap b hk j z hj
   ·exact S.ap j k b ne hj hk
 nw:=λj b hb=>by
  split at hb
  ·exact nw b hb
  ·exact S.nw j b hb
noncomputable def plus(G H:Hp)(F:Addr→Prop):Hp:=λb=>open Classical in if F b then H b else G b
theorem eE{F:Addr→Prop}{b:Addr}(h:F b):plus G H F b=H b:=by unfold plus;rw [if_pos h]
theorem dm{F:Addr→Prop}{b:Addr}(h:¬F b):plus G H F b=G b:=by unfold plus;rw [if_neg h]
theorem jH{F:Addr→Prop}(s:az G H):az (plus G H F) H:=λb o e=>by
 by_cases h:F b
 ·rw [eE h] at e;exact e
 ·rw [dm h] at e;exact s _ _ e
theorem ix{F:Addr→Prop}(s:az G H):az G (plus G H F):=λb o e=>by
 by_cases h:F b
 ·rw [eE h];exact s _ _ e
 ·rw [dm h];exact e
theorem SIx.Xk{t:aU}{P:D→Prop}{Q:VK}(S:SIx Z B md ρ σ H G fp)(h:t ρ P)(hq:∀d,P d→∀v G' H',Ext B.G₀ B.H₀ G' H'→Dv Z G' v d→Q v H'):di Z t σ H Q:=by
 let F:Addr→Prop:=λb=>∃i,b∈fp i
 have s:=S.ex.sub
 have x0:Ext B.G₀ B.H₀ (plus G H F) H:=⟨S.ex.gg.trans (ix s),jH s,S.ex.hh,λb hb hg=>by
  rw [dm (λ⟨i,hi⟩=>hb (S.nw i b hi).1)];exact S.ex.off b hb hg⟩
 refine ⟨plus G H F,ρ,P,jH s,⟨S.len,λi d h=>?_⟩,h,λd hd v G' H' x dv=>hq d hd v G' H' (x0.trans x) dv⟩;obtain ⟨v,hv,o⟩:=S.at_ i d h;exact ⟨v,hv,o.dv (ix s) λb hb u e=>by rw [eE ⟨i,hb⟩];exact e⟩
end
structure eo where
 nx:DN→Prop
 rt:D→Prop
 bk:DN→Prop:=λ_=>False
 ct:DN→Prop:=λ_=>False
abbrev cP:=eo→DN→Prop
structure Meets (Z:DC) (B:Bs) (md:List Nat) (rn:Nat) (E:eo) (Dn:Ends):Prop where
 nx:∀ρ,E.nx ρ→∀σ H,SI Z B md ρ σ H→Dn.nx σ H
 rt:∀d,E.rt d→∀v f G' H',Ext B.G₀ B.H₀ G' H'→Own Z G' H' rn v d f→f.Nodup→(∀b∈f,B.H₀ b=none∧H' b≠none∧G' b=none)→Dn.rt v H'
 bk:∀ρ,E.bk ρ→∀σ H,SI Z B md ρ σ H→Dn.bk σ H
 ct:∀ρ,E.ct ρ→∀σ H,SI Z B md ρ σ H→Dn.ct σ H
def oi(Z:DC)(md:List Nat)(rn:Nat)(t:cP):TS:=λDn σ H=>∃(B:Bs)(ρ:DN)(E:eo),SI Z B md ρ σ H∧t E ρ∧Meets Z B md rn E Dn
def DSt(Z:DC)(X:Cx)(md:List Nat)(rn:Nat)(st:Stmt)(t:cP):Prop:=PS X st (oi Z md rn t)
def tu(Z:DC)(X:Cx)(md:List Nat)(rn:Nat)(Ly:List Stmt)(t:cP):Prop:=kK X Ly (oi Z md rn t)
theorem PS.imp{X:Cx}{st:Stmt}{t t':TS}(h:PS X st t)(f:∀D σ H,t' D σ H→t D σ H):PS X st t':=λpins s σ H D I q=>h pins s σ H D I (f _ _ _ q)
theorem kK.imp{X:Cx}{st:List Stmt}{t t':TS}(h:kK X st t)(f:∀D σ H,t' D σ H→t D σ H):kK X st t':=λpins s σ H D I q=>h pins s σ H D I (f _ _ _ q)
section
variable {Z:DC} {X:Cx} {md:List Nat} {rn:Nat} {st:Stmt} {Ly:List Stmt} {t u:cP} {e:Expr} {te:aU} {pos:Pos}
def F9:cP:=λE ρ=>E.nx ρ
def dSeq(t u:cP):cP:=λE ρ=>t {E with nx:=u E} ρ
theorem bz:tu Z X md rn [] F9:=lH.imp λD σ H ⟨B,ρ,E,S,h,M⟩=>M.nx _ h _ _ S
theorem ax(h1:DSt Z X md rn st t)(h2:tu Z X md rn Ly u):tu Z X md rn (st::Ly) (dSeq t u):=
 (aC h1 h2).imp λD σ H ⟨B,ρ,E,S,h,M⟩=>⟨B,ρ,_,S,h,⟨λaE h' ay H' S'=>⟨B,aE,E,S',h',M⟩,M.rt,M.bk,M.ct⟩⟩
theorem aw(h1:DSt Z X md rn st t):tu Z X md rn [st] t:=bb h1
theorem v7:DSt Z X md rn st (λ_ _=>False):=Fo.imp λD σ H ⟨B,ρ,E,S,h,M⟩=>h
def QR(te:aU):cP:=λE ρ=>te ρ E.rt
theorem aX(he:DE Z X e te):DSt Z X md 0 (.Return (some e) pos) (QR te):=(eV he).imp λD σ H ⟨B,ρ,E,⟨G,fp,S⟩,h,M⟩=>S.Xk h λd hd v G' H' x dv=>M.rt d hd v [] G' H' x ⟨dv,rfl⟩ jO (λb hb=>by cases hb)
def C6(c:dB)(t u:cP):cP:=λE ρ=>c ρ λb=>if b=true then t E ρ else u E ρ
theorem cD{c:Expr}{a b:List Stmt}{tc:dB}(hc:DT Z X c tc)(ha:tu Z X md rn a t)(hb:tu Z X md rn b u):DSt Z X md rn (.If c a b pos) (C6 tc t u):=by
 refine (uE hc ha hb).imp ?_;rintro D σ H ⟨B,ρ,E,⟨G,fp,S⟩,h,M⟩;refine S.Rm h λb hb H' S'=>?_;cases b with
 |true=>exact eY ⟨B,ρ,E,⟨G,fp,S'⟩,(by simpa using hb),M⟩
 |false=>exact dh ⟨B,ρ,E,⟨G,fp,S'⟩,(by simpa using hb),M⟩
def QS(md:List Nat)(m:Bool)(i:Nat)(te:aU):cP:=λE ρ=>te (CK md m ρ) λd=>oZ m d∧E.nx (ρ.set i (some d))
theorem gu(m:Bool)(i:Nat){x:Str}{pos':Pos}(hN:X.N.Nodup)(he:DE Z X e te)(hm:md.getD i 0=0:=by rfl)(hi:X.N[i]? =some x:=by rfl)(hx:Loc X.env.scope x:=by first|exact Or.inl rfl|exact Or.inr rfl)(hs:swapsWith e (some (.Name x pos')) pos.line X.env=pure false:=by rfl)
  (hf:X.fn x=true∨X.env.scope.names.lookup x=some .local:=by first|exact .inl rfl|exact .inr rfl|assumption):DSt Z X md rn (.Assign [.Name x pos'] e pos) (QS md m i te):=by
 refine (bA hN hi hx he hs hf).imp ?_;rintro D σ H ⟨B,ρ,E,⟨G,fp,S⟩,h,M⟩;exact S.ev m h λd hd=>⟨hd.1,λv G' H' S' x dv=>M.nx _ hd.2 _ _ ⟨G',_,S'.nz hm dv⟩⟩
end
end L2
namespace L2
open PySem PySem.Spec PyProof.Rows
section
variable {Z:DC} {X:Cx} {B:Bs} {md:List Nat} {rn:Nat} {ρ:DN} {σ:St} {H G:Hp} {fp:Nat→List Addr}
def Dy(Z:DC)(md:List Nat)(g:dA):TG:=λv σ H Q=>∃(B:Bs)(ρ:DN)(d:D)(P:DN→Prop)(G:Hp)(fp:Nat→List Addr),SIx Z B md ρ σ H G fp∧Dv Z G v d∧g d ρ P∧∀aE,P aE→∀ay Bn,SIx Z B md aE ay H G Bn→Q ay H
def HH(Z:DC)(md:List Nat)(g:kn):vy:=λvs σ H Q=>∃(B:Bs)(ρ:DN)(ds:List D)(P:DN→Prop)(G:Hp)(fp:Nat→List Addr),SIx Z B md ρ σ H G fp∧aq Z G vs ds∧g ds ρ P∧∀aE,P aE→∀ay Bn,SIx Z B md aE ay H G Bn→Q ay H
def Eb(Z:DC)(X:Cx)(md:List Nat)(e:Expr)(g:dA):Prop:=PG X e (Dy Z md g)
def CY(Z:DC)(X:Cx)(md:List Nat)(es:List Expr)(g:kn):Prop:=xC X es (HH Z md g)
theorem aV(i:Nat){x:Str}{pos:Pos}(hN:X.N.Nodup)(hm:md.getD i 0=0:=by rfl)(hi:X.N[i]? =some x:=by rfl)(hx:Loc X.env.scope x:=by first|exact Or.inl rfl|exact Or.inr rfl)(hf:X.fn x=true∨X.env.scope.names.lookup x=some .local:=by first|exact .inl rfl|exact .inr rfl|assumption):Eb Z X md (.Name x pos) (oY i):=
 (bG hN hi hx hf).imp λv σ H Q ⟨B,ρ,d,P,G,fp,S,dv,h,q⟩=>q _ h _ _ (S.nz hm dv)
theorem eQ:CY Z X md [] Gq:=jF.imp λv σ H Q ⟨B,ρ,ds,P,G,fp,S,dv,⟨h,p⟩,q⟩=>by
 subst h;cases dv;exact ⟨rfl,q _ p _ _ S⟩
theorem bx{e:Expr}{es:List Expr}{g:dA}{gs:kn}(h1:Eb Z X md e g)(h2:CY Z X md es gs)(hs:(assignEach (e::es) X.env).map (·.2)=assign e X.env::(assignEach es X.env).map (·.2):=by rfl):CY Z X md (e::es) (Dc g gs):=by
 refine (dO h1 h2 hs).imp ?_;rintro v σ H Q ⟨B,ρ,ds,P,G,fp,S,dv,h,q⟩;cases dv with
 |nil=>exact h.elim
 |cons a as=>exact ⟨_,_,rfl,B,ρ,_,_,G,fp,S,a,h,λaE hp ay Bn S'=>⟨B,aE,_,P,G,Bn,S',as,hp,q⟩⟩
theorem hZ(n:Nat){es:List Expr}{k:Nat}{pos:Pos}{gs:kn}(hc:X.calm=true)(h:CY Z X md es gs)(hn:(assignEach es X.env).length=n:=by rfl)(yd:(assignEach es X.env).findIdx? (·.1)=none:=by rfl):Eb Z X md (.Tuple es k pos) (Gr n gs):=by
 refine (mP hc h hn yd).imp ?_;rintro v σ H Q ⟨B,ρ,d,P,G,fp,S,dv,h,q⟩;cases dv<;>first|exact h.elim|skip
 rename_i a xs ds ha es
 exact ⟨a,xs,rfl,cZ.of (S.ex.sub _ _ ha),by rw [es.length];exact h.1,B,ρ,_,P,G,fp,S,es,h.2,q⟩
def QG(md:List Nat)(te:aU)(g:dA):cP:=λE ρ=>te (cF md ρ) λd=>g d ρ E.nx
theorem Dh{tg e:Expr}{te:aU}{g:dA}{pos:Pos}(he:DE Z X e te)(hg:Eb Z X md tg g)(hs:swapsWithSole [tg] e pos.line X.env=pure false:=by rfl)(hw:swappedStores [tg] e X.env=pure none:=by rfl)
  (h1:(assignEach [tg] X.env).map (·.2)= [assign tg X.env]:=by rfl):DSt Z X md rn (.Assign [tg] e pos) (QG md te g):=by
 refine (mQ he hg hs hw h1).imp ?_;rintro D σ H ⟨B,ρ,E,⟨G,fp,S⟩,h,M⟩;exact S.ev false h λd hd=>⟨trivial,λv G' H' S' x dv=>⟨B,ρ,d,E.nx,G',fp,S',dv,hd,λaE h' ay Bn S2=>M.nx _ h' _ _ ⟨G',Bn,S2⟩⟩⟩
def jx(g:dA)(tb:cP)(E:eo):List D→DN→Prop
 | [],ρ=>E.nx ρ
 |x::xs,ρ=>g x ρ λbf=>tb {nx:=jx g tb E xs,ct:=jx g tb E xs,bk:=E.nx,rt:=E.rt} bf
def L9(md:List Nat)(m:Bool)(wi:iA)(g:dA)(tb:cP):cP:=λE ρ=>wi (CK md m ρ) λds=>jx g tb E ds ρ
theorem wy{D':Ends}{J:It}{ds:List D}{g:dA}{tb:cP}{E:eo}(S:SIx Z B md ρ σ H G fp)(it:tx Z G J ds)(hd:jx g tb E ds ρ)(M:Meets Z B md rn E D'):
  ∃W:Nat→Nat→St→Hp→Prop,(∃m,W 0 m σ H)∧∀i m σ H,W i m σ H→
   (J.stop i H∧D'.nx σ H)∨(J.go i H∧∃N:St→Hp→Prop,(∀ay H',N ay H'→∃m',m'<m∧W (i+1) m' ay H')∧∀x H',J.yld i H x H'→Dy Z md g x σ H' λcn H2=>oi Z md rn tb {D' with nx:=N,ct:=N,bk:=D'.nx} cn H2):=by
 let B1:Bs:={B with Gf:=G}
 have back:∀ρ σ H,SI Z B1 md ρ σ H→SI Z B md ρ σ H:=λρ σ H ⟨G2,Bo,S2⟩=>⟨G2,Bo,⟨S2.ex,S.fl.trans S2.fl,S2.len,S2.at_,S2.nd,S2.ap,S2.nw⟩⟩;have S1:SIx Z B1 md ρ σ H G fp:=⟨S.ex, .refl _,S.len,S.at_,S.nd,S.ap,S.nw⟩;refine ⟨λi m σ H=>m=ds.length-i∧i≤ds.length∧∃ρ,SI Z B1 md ρ σ H∧jx g tb E (ds.drop i) ρ,⟨_,rfl,cW _,ρ,⟨G,fp,S1⟩,hd⟩,?_⟩;rintro i m cn H2 ⟨rfl,hi,dq,⟨G2,Bo,S2⟩,hf⟩;obtain ⟨go,stop,yld⟩:=it G2 H2 S2.fl S2.ex.sub i
 by_cases bq:i<ds.length
 ·refine .inr ⟨go bq,λay H'=>∃aE,SI Z B1 md aE ay H'∧jx g tb E (ds.drop (i+1)) aE,λay H' n=>⟨ds.length-(i+1),by omega,rfl,bq,n⟩,λx H' y=>?_⟩
  obtain ⟨G3,d,x3,Hb,dv⟩:=yld x H' bq y;rw [kS Hb] at hf;refine ⟨B1,dq,d,_,G3,Bo,S2.grow x3,dv,hf,λρ4 h4 cO Xr S4=>?_⟩;exact ⟨B1,ρ4,_,⟨G3,Xr,S4⟩,h4,⟨λaE h' ay H' s'=>⟨aE,s',h'⟩,M.rt,λaE h' ay H' s'=>M.nx _ h' _ _ (back _ _ _ s'),λaE h' ay H' s'=>⟨aE,s',h'⟩⟩⟩
 ·have e:ds.drop i= []:=xh (by omega)
  rw [e] at hf;exact .inl ⟨stop (by omega),M.nx _ hf _ _ (back _ _ _ ⟨G2,Bo,S2⟩)⟩
variable {tg iter:Expr} {body:List Stmt} {wi:iA} {g:dA} {tb:cP} {pos:Pos}
theorem eO(hc:X.calm=true)(hp:PassesOwn (model X.prog X.w) X.A X.env X.xe)(hi:DI Z X tg iter wi)(hg:Eb Z X md tg g)(hb:tu Z X md rn body tb)
  (hs:∀x,foldedSetIterable iter X.env x=pure x:=by intro _;rfl):DSt Z X md rn (.For tg iter body [] pos) (L9 md false wi g tb):=by
 refine (ic hp hc hi hg hb hs).imp ?_;rintro D σ H ⟨B,ρ,E,⟨G,fp,S⟩,h,M⟩;exact ⟨G,_,_,S.ex.sub,S.zv,h,λds hd J G1 H1 x1 it=>wy (S.grow x1) it hd M⟩
def Kv(Z:DC)(wi:iA):TI:=λσ H R=>∃(G:Hp)(ρ:DN)(P:List D→Prop),az G H∧cU Z G σ ρ∧wi ρ P∧∀ds,P ds→∀J G' H',Ext G H G' H'→(∀G2,tx Z G2 J ds)→R J H'
def PH(Z:DC)(X:Cx)(tg e:Expr)(wi:iA):Prop:=PI X tg e (Kv Z wi)
theorem Gz(hc:X.calm=true)(hp:PassesOwn (model X.prog X.w) X.A X.env X.xe)(hi:PH Z X tg iter wi)(hg:Eb Z X md tg g)(hb:tu Z X md rn body tb)
  (hs:∀x,foldedSetIterable iter X.env x=pure x:=by intro _;rfl):DSt Z X md rn (.For tg iter body [] pos) (L9 md true wi g tb):=by
 refine (ic hp hc hi hg hb hs).imp ?_;rintro D σ H ⟨B,ρ,E,⟨G,fp,S⟩,h,M⟩;exact ⟨H,ρ,_, .refl _,S.GG,h,λds hd J G1 H1 x1 it=>wy (S.grow (Ext.all S.ex.sub x1)) (it _) hd M⟩
variable {a b e:Expr} {ta te:aU} {t:hJ}
theorem Bi{p:Pos}(hg:Gl X "range")(hm:X.mg "range"=none)(ha:DA Z X [a] t)(hs:starEach [a] X.env= [(false,eval a X.env)]:=by rfl):PH Z X tg (.Call (.Name "range" p) [a] [] pos) (Mb t):=by
 refine (iI hg hm ha hs).imp ?_;rintro σ H Q ⟨G,ρ,P,s,en,h,q⟩;refine ⟨G,ρ,_,s,en,h,λds hd vs G1 H1 x1 dv=>?_⟩
 split at hd
 ·obtain ⟨_,rfl,a⟩:=dv.ofOne
  exact ⟨_,by rw [a.ofInt],hd.1.1,hd.1.2,q _ hd.2 _ G1 H1 x1 λ_=>wD 0 _⟩
 ·exact hd.elim
def C7(c:dB)(tb:cP):cP:=λE ρ=>∃W:Nat→DN→Prop,(∃m,W m ρ)∧∀m ρ,W m ρ→c ρ λb=>if b=true then tb {nx:=λaE=>∃m',m'<m∧W m' aE,ct:=λaE=>∃m',m'<m∧W m' aE,bk:=E.nx,rt:=E.rt} ρ else E.nx ρ
theorem v9{c:Expr}{tc:dB}(hp:PassesOwn (model X.prog X.w) X.A X.env X.xe)(hc:DT Z X c tc)(hb:tu Z X md rn body tb):DSt Z X md rn (.While c body [] pos) (C7 tc tb):=by
 refine (wW hp hc hb).imp ?_;rintro D σ H ⟨B,ρ,E,S,⟨W,⟨m0,w0⟩,turn⟩,M⟩;refine ⟨λm σ H=>∃ρ,SI Z B md ρ σ H∧W m ρ,⟨m0,ρ,S,w0⟩,?_⟩;rintro m cn H2 ⟨dq,⟨G2,Bo,S2⟩,w2⟩;refine S2.Rm (turn m dq w2) λb hb H' S'=>?_;cases b with
 |false=>exact dh (M.nx _ (by simpa using hb) _ _ ⟨G2,Bo,S'⟩)
 |true=>
  refine eY ⟨λay H'=>∃aE m',m'<m∧SI Z B md aE ay H'∧W m' aE,λay H' ⟨aE,m',h1,h2,h3⟩=>⟨m',h1,aE,h2,h3⟩,B,dq,_,⟨G2,Bo,S'⟩,(by simpa using hb),?_⟩
  exact ⟨λaE ⟨m',h1,h2⟩ ay H' s'=>⟨aE,m',h1,s',h2⟩,M.rt,M.nx,λaE ⟨m',h1,h2⟩ ay H' s'=>⟨aE,m',h1,s',h2⟩⟩
abbrev ji:=DN→(List D→Prop)→Prop
def um(Z:DC)(n:Nat)(t:ji):TE:=λσ H Q=>∃(G:Hp)(ρ:DN)(P:List D→Prop),az G H∧cU Z G σ ρ∧t ρ P∧∀ds,P ds→∀v f G' H',Ext G H G' H'→Own Z G' H' n v (.lst ds) f→f.Nodup→(∀b∈f,H b=none∧H' b≠none∧G' b=none)→Q v H'
def DF(Z:DC)(X:Cx)(n:Nat)(e:Expr)(t:ji):Prop:=PE X e (um Z n t)
theorem Ext.side{p:Addr}{o:HO}{G1 H1:Hp}(x:Ext G H G1 H1)(hp:H1 p=none):Ext G H G1 (upd H1 p o):=
 ⟨x.gg,λb u e=>by rw [ab (ah e (x.sub.free hp))];exact x.sub _ _ e,x.hh.trans (av hp _),x.off⟩
theorem uB{p:Addr}{xs:List V}{ds:List D}{G1 H1:Hp}(x:Ext G H G1 H1)(hp:H1 p=none)(dv:aq Z G1 xs ds):
  Own Z G1 (upd H1 p (.lst xs)) 1 (.ref p) (.lst ds) [p]∧([p]:List Addr).Nodup∧∀b∈([p]:List Addr),H b=none∧(upd H1 p (.lst xs)) b≠none∧G1 b=none:=by
 refine ⟨.inl ⟨p,xs,ds,[],rfl,rfl,aa,rfl,dv.own⟩,by simp,λb hb=>?_⟩
 have:b=p:=by simpa using hb
 subst this;exact ⟨x.hh.free hp,(by rw [aa];exact λz=>nomatch z),x.sub.free hp⟩
def Dq(t:hJ):ji:=λρ P=>t ρ λds=>ds.length≤sizeLine∧P ds
theorem oX{es:List Expr}(h:DA Z X es t):DF Z X 1 (.List es pos) (Dq t):=by
 refine (cY h).imp ?_;rintro σ H Q ⟨G,ρ,P,s,e,h,q⟩;refine ⟨G,ρ,_,s,e,h,?_⟩;rintro ds ⟨hl,hp⟩ vs G1 H1 x1 bh;refine ⟨by rw [bh.length];exact hl,λp t9=>?_⟩
 obtain ⟨o1,o2,o3⟩:=uB x1 t9 bh;exact q _ hp _ _ _ _ (x1.side t9) o1 o2 o3
def GI(te:aU):ji:=λρ P=>te ρ λd=>match d with
 | .lst l=>P l
 | .tup l=>P l
 |_=>False
theorem zl{x:Str}{p:Pos}(hx:x="list")(hg:Gl X x)(hm:X.mg x=none)(hv:bootBuiltins x=some (.type "list"))(ha:DE Z X a ta)(hn:x≠"__name__":=by decide)(iE:(x==("__debug__":Str))=false:=by decide)
  (he:starEach [a] X.env=(false,eval a X.env)::starEach [] X.env:=by rfl) (dJ:(backTo pos (starEach [] X.env)).any (·.1)=false:=by rfl):DF Z X 1 (.Call (.Name x p) [a] [] pos) (GI ta):=by
 refine (oF m9 hg hm hv (ae ha ar he) hn iE he dJ).imp ?_;rintro σ H Q ⟨G,ρ,P,s,e,h,q⟩;refine ⟨G,ρ,_,s,e,h,λd hd v G1 H1 x1 dv=>?_⟩;cases dv<;>first|exact hd.elim|skip
 ·rename_i h e
  refine ⟨_,_,rfl, .inl (aD.of (x1.sub _ _ h)),λp hp=>?_⟩;obtain ⟨o1,o2,o3⟩:=uB x1 hp e;exact q _ hd _ _ _ _ (x1.side hp) o1 o2 o3
 ·rename_i h e
  refine ⟨_,_,rfl, .inr (cZ.of (x1.sub _ _ h)),λp hp=>?_⟩;obtain ⟨o1,o2,o3⟩:=uB x1 hp e;exact q _ hd _ _ _ _ (x1.side hp) o1 o2 o3
def NM(wi:iA)(g:dA)(tt:dB)(te:aU)(src:List (Option Nat)):ji:=λρ P=>wi ρ λds=>lcW g tt te ds (uP src ρ) [] λ_ out=>P out
theorem zW{src:List (Option Nat)}{tt:dB}:∀σ H Q,um Z 1 (NM wi g tt te src) σ H Q→Jk (qL Z wi) (oh Z g) (liftT Z tt) (di Z te) src σ H Q:=by
 rintro σ H Q ⟨G,ρ,P,s,en,h,q⟩;refine ⟨G,ρ,_,s,en,h,λds hd J G1 H1 x1 it Ad hA=>?_⟩;refine ⟨λi m cn H2=>m=ds.length-i∧i≤ds.length∧∃dq acc,CS Z G1 H1 Ad dq acc cn H2∧lcW g tt te (ds.drop i) dq acc λ_ out=>P out,⟨_,rfl,cW _,_,[], .begin x1.sub hA ((en.mono x1.gg).src src),hd⟩,?_⟩;rintro i m cn H2 ⟨rfl,hi,dq,acc,c,hl⟩
 by_cases bq:i<ds.length
 ·obtain ⟨go,turn⟩:=wK hA G1 it i dq acc cn H2 c (λ_ s=>s) bq hl
  exact .inr ⟨go,_,λay H' n=>⟨ds.length-(i+1),by omega,rfl,bq,n⟩,turn⟩
 ·have e:ds.drop i= []:=xh (by omega)
  rw [e] at hl;obtain ⟨G2,ys,s1,s2,s3,off,gA,nZ,bh,en⟩:=c;refine .inl ⟨(it G2 H2 s1 s2 i).2.1 (by omega),q _ hl (.ref Ad) [Ad] G2 H2 ⟨x1.gg.trans s1,s2,x1.hh.trans s3,λb hb hg=>off b (gJ x1.hh hb) (x1.off b hb hg)⟩ (.inl ⟨Ad,ys,acc,[],rfl,rfl,nZ,rfl,bh.own⟩) (by simp) λb hb=>?_⟩
  have:b=Ad:=by simpa using hb
  subst this;exact ⟨x1.hh.free hA,(by rw [nZ];exact λz=>nomatch z),gA⟩
variable {elt:Expr} {ifs:List Expr} {scope:Scope} {NC:List Str} {src:List (Option Nat)} {tt:dB}
def F8(md:List Nat)(i:Nat)(t:ji):cP:=λE ρ=>t (cF md ρ) λds=>E.nx (ρ.set i (some (.lst ds)))
theorem qN{n i:Nat}{t:ji}{D':Ends}{E:eo}(hm:md.getD i 0=n)(S:SIx Z B md ρ σ H G fp)(h:t (cF md ρ) λds=>E.nx (ρ.set i (some (.lst ds))))(M:Meets Z B md rn E D'):um Z n t σ H λv H'=>D'.nx (σ.set i (some v)) H':=by
 refine ⟨G,_,_,S.ex.sub,S.zv,h,λds hd v f G' H' x o nd nw=>?_⟩;refine M.nx _ hd _ _ ⟨G',_,(S.grow x).IW hm o nd (λb hb=>⟨S.ex.hh.free (nw b hb).1,(nw b hb).2⟩) λb hb j _ hj=>(S.nw j b hj).2.1 (nw b hb).1⟩
theorem sQ(i:Nat){n:Nat}{x:Str}{pos':Pos}{t:ji}(hN:X.N.Nodup)(he:DF Z X n e t)(hm:md.getD i 0=n:=by rfl)(hi:X.N[i]? =some x:=by rfl)(hx:Loc X.env.scope x:=by first|exact Or.inl rfl|exact Or.inr rfl)(hs:swapsWith e (some (.Name x pos')) pos.line X.env=pure false:=by rfl)
  (hf:X.fn x=true∨X.env.scope.names.lookup x=some .local:=by first|exact .inl rfl|exact .inr rfl|assumption):DSt Z X md rn (.Assign [.Name x pos'] e pos) (F8 md i t):=by
 refine (bA hN hi hx he hs hf).imp ?_;rintro D σ H ⟨B,ρ,E,⟨G,fp,S⟩,h,M⟩;exact qN hm S h M
theorem Es(i:Nat){x:Str}{px lU:Pos}(hc:X.calm=true)(hN:X.N.Nodup)(c:bE X scope)(fC:dg scope X.N src NC)(hi:DI Z X tg iter wi)
  (hg:∀ex s H,DG Z (dG X scope NC ex s H) tg g) (ht:∀ex s H,AS Z (dG X scope NC ex s H) ifs tt) (he:∀ex s H,DE Z (dG X scope NC ex s H) elt te)
  (n6:swapsWith (.ListComp elt [⟨tg,iter,ifs,0⟩] scope pos) (some (.Name x px)) lU.line X.env=pure true:=by rfl) (hm:md.getD i 0=1:=by rfl) (eC:X.N[i]? =some x:=by rfl) (hx:Loc X.env.scope x:=by first|exact Or.inl rfl|exact Or.inr rfl)
  (hf:X.fn x=true∨X.env.scope.names.lookup x=some .local:=by first|exact .inl rfl|exact .inr rfl|assumption)
  (hs:∀x,foldedSetIterable iter X.env x=pure x:=by intro _;rfl):DSt Z X md rn (.Assign [.Name x px] (.ListComp elt [⟨tg,iter,ifs,0⟩] scope pos) lU) (F8 md i (NM wi g tt te src)):=by
 refine (jI hc hN eC hx c fC hi hg ht he n6 hf hs).imp ?_;rintro D σ H ⟨B,ρ,E,⟨G,fp,S⟩,h,M⟩;exact zW σ H _ (qN hm S h M)
end
section
variable {Z:DC} {X:Cx} {B:Bs} {md:List Nat} {rn:Nat} {ρ:DN} {σ:St} {H G:Hp} {fp:Nat→List Addr} {a e k o:Expr} {ta te tk tp:aU} {pos apos aL p2:Pos}
theorem SIx.mut{i:Nat}{v:V}{d':D}{b:Addr}{c:HO}(S:SIx Z B md ρ σ H G fp)(hi:σ[i]? =some (some v))(hb:b∈fp i)(o:Own Z G (upd H b c) (md.getD i 0) v d' (fp i)):SIx Z B md (ρ.set i (some d')) σ (upd H b c) G fp where
 ex:=by
  obtain ⟨h1,h2,h3⟩:=S.nw i b hb;exact ⟨S.ex.gg,λx u e=>by rw [ab (ah e h3)];exact S.ex.sub _ _ e,λx u e=>by rw [ab (ah e h1)];exact S.ex.hh _ _ e,S.ex.off⟩
 fl:=S.fl
 len:=by rw [fe];exact S.len
 at_:=λj w h=>by
  by_cases z:i=j
  ·subst z
   by_cases hl:i<ρ.length
   ·rw [mn hl] at h
    cases h;exact ⟨v,hi,o⟩
   ·rw [AJ (kJ hl),iO (kJ hl)] at h;cases h
  ·rw [sg z] at h
   obtain ⟨u,hu,ow⟩:=S.at_ j w h;exact ⟨u,hu,ow.keep (.refl _) λx hx=>ab λq=>S.ap i j b z hb (by rw [←q];exact hx)⟩
 nd:=S.nd
 ap:=S.ap
 nw:=λj x hx=>by
  obtain ⟨h1,h2,h3⟩:=S.nw j x hx;refine ⟨h1,?_,h3⟩
  by_cases z:x=b
  ·rw [z,aa];exact λq=>nomatch q
  ·rw [ab z];exact h2
theorem SIx.one{i:Nat}{d:D}(S:SIx Z B md ρ σ H G fp)(hm:md.getD i 0=1)(h:ρ[i]? =some (some d)):∃l xs ds,d= .lst ds∧σ[i]? =some (some (.ref l))∧H l=some (.lst xs)∧aq Z G xs ds∧
  ∀ik gz,aq Z G ik gz→SIx Z B md (ρ.set i (some (.lst gz))) σ (upd H l (.lst ik)) G fp:=by
 obtain ⟨v,hv,o⟩:=S.at_ i d h;rw [hm] at o;obtain ⟨l,xs,ds,cE,rfl,rfl,hl,hf,ol⟩:=o.one;obtain ⟨dv,rfl⟩:=ol.flat;refine ⟨l,xs,ds,rfl,hv,hl,dv,λik gz nP=>S.mut hv (by rw [hf];simp) ?_⟩
 rw [hm,hf];exact .inl ⟨l,ik,gz,[],rfl,rfl,aa,rfl,nP.own⟩
theorem cp.mW:∀{ys:List V}{dR:List D}{cE:List Addr}(p:Nat){dp:D},cp (Own Z G H 1) ys dR cE→cE.Nodup→dR[p]? =some dp→∃l xs ds,dp= .lst ds∧ys[p]? =some (.ref l)∧H l=some (.lst xs)∧aq Z G xs ds∧l∈cE∧
  ∀ik gz,aq Z G ik gz→cp (Own Z G (upd H l (.lst ik)) 1) ys (dR.set p (.lst gz)) cE
 |_,_,_,_,_, .nil,_,h=>by simp at h
 |_,_,_,0,dp, .cons (f:=f) (fs:=fs) a as,nd,h=>by
  simp at h;subst h;obtain ⟨l,xs,ds,cE,rfl,rfl,hl,hf,ol⟩:=a.one;obtain ⟨dv,rfl⟩:=ol.flat;subst hf;refine ⟨l,xs,ds,rfl,rfl,hl,dv,by simp,λik gz nP=> .cons (.inl ⟨l,ik,gz,[],rfl,rfl,aa,rfl,nP.own⟩) (as.imp λv d f hf r=>r.keep (.refl _) λb hb=>ab λz=>?_)⟩
  have:=(iP.mp nd).1
  exact this (by subst z;exact hf _ hb)
 |_,_,_,p+1,dp, .cons (f:=f) (fs:=fs) a as,nd,h=>by
  obtain ⟨BZ,yt,OT⟩:=jf.mp nd;obtain ⟨l,xs,ds,e1,e2,e3,e4,e5,e6⟩:=cp.mW p (dp:=dp) as yt (by simpa using h)
  refine ⟨l,xs,ds,e1,by simpa using e2,e3,e4,dX _ e5,λik gz nP=>?_⟩
  refine .cons (a.keep (.refl _) λb hb=>ab λz=>?_) (e6 ik gz nP);exact OT b hb l e5 z
theorem SIx.two{i p:Nat}{dR:List D}{dp:D}(S:SIx Z B md ρ σ H G fp)(hm:md.getD i 0=2)(h:ρ[i]? =some (some (.lst dR)))(hp:dR[p]? =some dp):∃T ys l xs ds,dp= .lst ds∧σ[i]? =some (some (.ref T))∧H T=some (.lst ys)∧ys.length=dR.length∧ys[p]? =some (.ref l)∧H l=some (.lst xs)∧aq Z G xs ds∧
  ∀ik gz,aq Z G ik gz→SIx Z B md (ρ.set i (some (.lst (dR.set p (.lst gz))))) σ (upd H l (.lst ik)) G fp:=by
 obtain ⟨v,hv,o⟩:=S.at_ i _ h;rw [hm] at o;obtain ⟨T,ys,Gv,cE,rfl,e0,hT,hf,ol⟩:=o.lst;cases e0;have nd:=S.nd i;rw [hf] at nd;obtain ⟨nT,yt⟩:=iP.mp nd;obtain ⟨l,xs,ds,e1,e2,e3,e4,e5,e6⟩:=cp.mW p ol yt hp;refine ⟨T,ys,l,xs,ds,e1,hv,hT,ol.length,e2,e3,e4,λik gz nP=>S.mut hv (by rw [hf];exact cm _ e5) ?_⟩
 rw [hm,hf];exact .inl ⟨T,ys,_,cE,rfl,rfl,by rw [ab (λz=>nT (by rw [z];exact e5))];exact hT,rfl,e6 ik gz nP⟩
theorem ty_list{K:PySem.W.Frag}{l:Addr}{xs:List V}(h:H l=some (.lst xs)):LD K "list" (.ref l) H:= .inl ⟨rfl,_,aD.of h⟩
def QF(md:List Nat)(m:Bool)(i:Nat)(te:aU):cP:=λE ρ=>∃ds,ρ[i]? =some (some (.lst ds))∧te (CK md m ρ) λd=>oZ m d∧ds.length<sizeLine∧E.nx (ρ.set i (some (.lst (ds++ [d]))))
theorem Dg(m:Bool)(i:Nat){x:Str}{px:Pos}(he:DE Z X e te)(hm:md.getD i 0=1:=by rfl)(hi:X.N[i]? =some x:=by rfl)(hv:qs X.env.scope x:=by first|exact Or.inl rfl|exact Or.inr (Or.inl rfl) |exact Or.inr (Or.inr rfl))(hd:(x==("__debug__":Str))=false:=by decide)(fj:(x==("__classdict__":Str))=false:=by decide)
  (dD:attributeBase (.Name x px) "append" X.env (eval (.Name x px) X.env)=eval (.Name x px) X.env:=by rfl)
  (jy:((backTo aL (starEach [e] X.env)).all (λx=>!x.1)&&(backToKw aL (keywordEach [] X.env)).all (λx=>x.1.isSome)&&decide (([e]:List Expr).length+([]:List Keyword).length+(if ([]:List Keyword).isEmpty then 0 else 1)<30))=true:=by rfl)
  (cw:(apos.endLine==aL.line)=true:=by rfl) (hs:starEach [e] X.env=(false,eval e X.env)::starEach [] X.env:=by rfl) (eS:(backTo aL (starEach [] X.env)).any (·.1)=false:=by rfl)
  (n6:swapsWith (.Call (.Attribute (.Name x px) "append" apos) [e] [] aL) none pos.line X.env=pure false:=by rfl):
  DSt Z X md rn (.Expr (.Call (.Attribute (.Name x px) "append" apos) [e] [] aL) pos) (QF md m i te):=by
 refine (cL (fu PySem.F.plainAttrs_list PySem.F.slot_list_append PySem.F.type_list_append ft (pv i hi hv hd fj) (ae he ar hs) dD jy cw hs eS) n6).imp ?_;rintro D σ H ⟨B,ρ,E,⟨G,fp,S⟩,⟨ds,h1,h⟩,M⟩;obtain ⟨l,xs,_,_,e2,e3,_⟩:=S.one hm h1;refine ⟨_,e2,ty_list e3,S.ev m h λd hd=>⟨hd.1,λv G' H' S' x dv=>?_⟩⟩;obtain ⟨_,h2,h3⟩:=hd;obtain ⟨l',ik,gz,e1,mY,GF,bh,put⟩:=S'.one hm h1;cases e1;rw [e2] at mY;cases mY;exact ⟨l,ik,v,rfl,rfl,GF,by rw [bh.length];exact h2,M.nx _ h3 _ _ ⟨G',fp,put _ _ (bh.snoc dv)⟩⟩
def Bb(md:List Nat)(m:Bool)(i:Nat)(tp te:aU):cP:=λE ρ=>∃dR,ρ[i]? =some (some (.lst dR))∧tp ρ λpp=>∃p j ds,pp= .int p∧iF dR.length p=some j∧dR[j]? =some (.lst ds)∧
 te (CK md m ρ) λd=>oZ m d∧ds.length<sizeLine∧E.nx (ρ.set i (some (.lst (dR.set j (.lst (ds++ [d]))))))
theorem C1{α:Type}{xs:List α}{i:Int}{j n:Nat}{v:α}(hn:xs.length=n)(h:iF n i=some j)(e:xs[j]? =some v):e7 xs i=some v:=by unfold e7;rw [hn,h];exact e
theorem zq(m:Bool)(i:Nat){x:Str}{px ps:Pos}(hp:DE Z X k tp)(he:DE Z X e te)(hm:md.getD i 0=2:=by rfl)(xZ:oQ k:=by exact λ_ _=>rfl)(hi:X.N[i]? =some x:=by rfl)(hv:qs X.env.scope x:=by first|exact Or.inl rfl|exact Or.inr (Or.inl rfl) |exact Or.inr (Or.inr rfl))(hd:(x==("__debug__":Str))=false:=by decide)(fj:(x==("__classdict__":Str))=false:=by decide)
  (dD:attributeBase (.Subscript (.Name x px) k ps) "append" X.env (eval (.Subscript (.Name x px) k ps) X.env)=eval (.Subscript (.Name x px) k ps) X.env:=by rfl)
  (jy:((backTo aL (starEach [e] X.env)).all (λx=>!x.1)&&(backToKw aL (keywordEach [] X.env)).all (λx=>x.1.isSome)&&decide (([e]:List Expr).length+([]:List Keyword).length+(if ([]:List Keyword).isEmpty then 0 else 1)<30))=true:=by rfl)
  (cw:(apos.endLine==aL.line)=true:=by rfl) (hs:starEach [e] X.env=(false,eval e X.env)::starEach [] X.env:=by rfl) (eS:(backTo aL (starEach [] X.env)).any (·.1)=false:=by rfl)
  (n6:swapsWith (.Call (.Attribute (.Subscript (.Name x px) k ps) "append" apos) [e] [] aL) none pos.line X.env=pure false:=by rfl):
  DSt Z X md rn (.Expr (.Call (.Attribute (.Subscript (.Name x px) k ps) "append" apos) [e] [] aL) pos) (Bb md m i tp te):=by
 refine (cL (fu PySem.F.plainAttrs_list PySem.F.slot_list_append PySem.F.type_list_append ft (bT bg (pv i hi hv hd fj) hp xZ) (ae he ar hs) dD jy cw hs eS) n6).imp ?_;rintro D σ H ⟨B,ρ,E,⟨G,fp,S⟩,⟨dR,h1,h⟩,M⟩;obtain ⟨v0,iU,o⟩:=S.at_ i _ h1;refine ⟨_,iU,S.ev true h ?_⟩;rintro _ ⟨p,j,ds,rfl,hj,hd,h⟩;refine ⟨rfl,λv1 G1 H1 S1 x1 GD=>?_⟩;cases GD;obtain ⟨T,ys,l,xs,gz,e1,e2,e3,e4,e5,e6,bh,_⟩:=S1.two hm h1 hd;rw [e2] at iU;cases iU;refine ⟨T,ys,p, .ref l,rfl,rfl,aD.of e3,C1 e4 hj e5,ty_list e6,S1.ev m h λd iT=>⟨iT.1,λv G' H' S' x dv=>?_⟩⟩;obtain ⟨T',ys',l',ik,jv,Xh,mY,GF,e4',Rk,Xi,Md,put⟩:=S'.two hm h1 hd;cases Xh;rw [e2] at mY;cases mY
 have:ys'=ys:=by
  have:=x.hh _ _ e3
  rw [GF] at this;cases this;rfl
 rw [this,e5] at Rk;cases Rk;exact ⟨l,ik,v,rfl,rfl,Xi,by rw [Md.length];exact iT.2.1,M.nx _ iT.2.2 _ _ ⟨G',fp,put _ _ (Md.snoc dv)⟩⟩
def JK(md:List Nat)(m:Bool)(i:Nat)(tk te:aU):cP:=λE ρ=>te (CK md m ρ) λd=>oZ m d∧∃ds,ρ[i]? =some (some (.lst ds))∧tk ρ λkk=>∃k j,kk= .int k∧iF ds.length k=some j∧E.nx (ρ.set i (some (.lst (ds.set j d))))
theorem v8(m:Bool)(i:Nat){x:Str}{px ps:Pos}(hk:DE Z X k tk)(he:DE Z X e te)(hm:md.getD i 0=1:=by rfl)(hi:X.N[i]? =some x:=by rfl)(hv:qs X.env.scope x:=by first|exact Or.inl rfl|exact Or.inr (Or.inl rfl) |exact Or.inr (Or.inr rfl))(hd:(x==("__debug__":Str))=false:=by decide)(fj:(x==("__classdict__":Str))=false:=by decide)
  (ha:∀v,assign (.Subscript (.Name x px) k ps) X.env v=(do
   let ov ←holding [v] (eval (.Name x px) X.env)
   let iv ←holding [v,ov] (eval k X.env)
   standAt ps
   holding [v,ov,iv] (setItem ov iv v)
   release [v,ov,iv] []):=by intro _;rfl)
  (hs:swapsWithSole [.Subscript (.Name x px) k ps] e pos.line X.env=pure false:=by rfl) (hw:swappedStores [.Subscript (.Name x px) k ps] e X.env=pure none:=by rfl)
  (h1:(assignEach [.Subscript (.Name x px) k ps] X.env).map (·.2)= [assign (.Subscript (.Name x px) k ps) X.env]:=by rfl):DSt Z X md rn (.Assign [.Subscript (.Name x px) k ps] e pos) (JK md m i tk te):=by
 refine (mQ he (yF (pv i hi hv hd fj) hk set_list ha) hs hw h1).imp ?_;rintro D σ H ⟨B,ρ,E,⟨G,fp,S⟩,h,M⟩;refine S.ev m h λd hd=>⟨hd.1,λv G' H' S' x dv=>?_⟩;obtain ⟨_,ds,h1,h⟩:=hd;obtain ⟨l,xs,_,_,e2,e3,_⟩:=S'.one hm h1;refine ⟨_,e2,S'.ev true h ?_⟩;rintro _ ⟨k,j,rfl,hj,h3⟩;refine ⟨rfl,λv1 G1 H1 S1 x1 GD=>?_⟩;cases GD;obtain ⟨l',ik,gz,e1,mY,GF,bh,put⟩:=S1.one hm h1;cases e1;rw [e2] at mY;cases mY;exact ⟨l,ik,k,j,rfl,rfl,GF,by rw [bh.length];exact hj,M.nx _ h3 _ _ ⟨G1,fp,put _ _ (bh.set (dv.mono x1.gg) j)⟩⟩
def QQ(md:List Nat)(i j:Nat):cP:=λE ρ=>∃ds d,ρ[j]? =some (some (.lst (ds++ [d])))∧E.nx ((ρ.set j (some (.lst ds))).set i (some d))
theorem JQ(i j:Nat){x y:Str}{px py:Pos}(hN:X.N.Nodup)(hm:md.getD i 0=0:=by rfl)(Oh:md.getD j 0=1:=by rfl)(hi:X.N[i]? =some x:=by rfl)(hx:Loc X.env.scope x:=by first|exact Or.inl rfl|exact Or.inr rfl)
  (hj:X.N[j]? =some y:=by rfl) (hv:qs X.env.scope y:=by first|exact Or.inl rfl|exact Or.inr (Or.inl rfl) |exact Or.inr (Or.inr rfl)) (hd:(y==("__debug__":Str))=false:=by decide) (fj:(y==("__classdict__":Str))=false:=by decide)
  (dD:attributeBase (.Name y py) "pop" X.env (eval (.Name y py) X.env)=eval (.Name y py) X.env:=by rfl) (cw:(apos.endLine==aL.line)=true:=by rfl)
  (hs:swapsWith (.Call (.Attribute (.Name y py) "pop" apos) [] [] aL) (some (.Name x px)) pos.line X.env=pure false:=by rfl)
  (hf:X.fn x=true∨X.env.scope.names.lookup x=some .local:=by first|exact .inl rfl|exact .inr rfl|assumption):DSt Z X md rn (.Assign [.Name x px] (.Call (.Attribute (.Name y py) "pop" apos) [] [] aL) pos) (QQ md i j):=by
 refine (bA hN hi hx (DD PySem.F.plainAttrs_list PySem.F.slot_list_pop PySem.F.type_list_pop Ky (pv j hj hv hd fj) dD cw) hs hf).imp ?_;rintro D σ H ⟨B,ρ,E,⟨G,fp,S⟩,⟨ds,d,h1,h⟩,M⟩;obtain ⟨l,xs,gz,e1,e2,e3,bh,put⟩:=S.one Oh h1;cases e1;have hl:xs.length=ds.length+1:=by rw [bh.length];simp
 obtain ⟨v,qC,dv⟩:=bh.get (i:=xs.length-1) (d:=d) (by rw [hl];simp)
 refine ⟨_,e2,ty_list e3,l,xs,v,rfl,rfl,e3,qC,M.nx _ h _ _ ⟨G,_,(put xs.dropLast ds ?_).nz hm dv⟩⟩
 have:=bh.take ds.length
 rw [List.take_left'] at this
 ·rw [List.dropLast_eq_take,hl];exact this
 ·rfl
end
structure PC (mg:Str→Option Value):Prop where
 len:mg "len"=none
 range:mg "range"=none
 max:mg "max"=none
 min:mg "min"=none
 enumerate:mg "enumerate"=none
 zip:mg "zip"=none
 sorted:mg "sorted"=none
 all:mg "all"=none
 isinstance:mg "isinstance"=none
 int:mg "int"=none
 bool:mg "bool"=none
 list:mg "list"=none
 tuple:mg "tuple"=none
 sum:mg "sum"=none
 reversed:mg "reversed"=none
theorem JB:bootBuiltins "min"=some (.builtin "min"):=by decide+kernel
theorem za:bootBuiltins "bool"=some (.type "bool"):=by decide+kernel
theorem C3:bootBuiltins "int"=some (.type "int"):=by decide+kernel
theorem ju:bootBuiltins "list"=some (.type "list"):=by decide+kernel
theorem JA:bootBuiltins "all"=some (.builtin "all"):=by decide+kernel
theorem jR:bootBuiltins "sorted"=some (.builtin "sorted"):=by decide+kernel
theorem fg:bootBuiltins "len"=some (.builtin "len"):=by decide+kernel
section
variable {P:Program} {w:World} {K:PySem.W.Frag} {mg:Str→Option Value} {base:Heap} {Z:DC}
def tj(N:List Str)(ds:List D):DN:=ds.map some++List.replicate (N.length-ds.length) none
def jC(Z:DC)(n:Nat)(sd:dF):Sp:=λvs H Q _=>∃(G:Hp)(ds:List D)(P:D→Prop),az G H∧aq Z G vs ds∧sd ds P∧∀d,P d→∀v f G' H',Ext G H G' H'→Own Z G' H' n v d f→f.Nodup→(∀b∈f,H b=none∧H' b≠none∧G' b=none)→Q v H'
theorem Own.pure{n:Nat}{v:V}{d:D}{f:List Addr}{G H G' H':Hp}(x:Ext G H G' H')(o:Own Z G' H' n v d f)(nw:∀b∈f,H b=none∧H' b≠none∧G' b=none):∃G2,Ext G H G2 H'∧Dv Z G2 v d:=by
 refine ⟨plus G' H' λb=>b∈f,⟨x.gg.trans (ix x.sub),jH x.sub,x.hh,λb hb hg=>?_⟩,o.dv (ix x.sub) λb hb u e=>by rw [eE hb];exact e⟩
 rw [dm (λz=>hb (nw b z).1)];exact x.off b hb hg
theorem spF{n:Nat}{sd:dF}:∀vs H Q E,aZ Z sd vs H Q E→jC Z n sd vs H Q E:=by
 rintro vs H Q E ⟨G,ds,P,s,dv,h,q⟩;exact ⟨G,ds,P,s,dv,h,λd hd v f G' H' x o nd nw=>let ⟨G2,x2,NG⟩:=o.pure x nw;q d hd v G2 H' x2 NG⟩
theorem wq(rn:Nat){x qual:Str}{st:Stmt}{f:Addr}{fd:FuncData}{N ps:List Str}{k:Nat}{sd:dF}(F:vx K x qual st f fd)(S:aG N ps (ao st))(md:List Nat)(Og:∀i,i<ps.length→md.getD i 0=0)(len:∀ds P,sd ds P→ds.length=ps.length)
  (n4:∀(bo:Value)(A:Around)(outer:List Env)(s:Shared)(H:Hp)(E:XK)(ds:List D)(R:D→Prop),b8 k (A.deeper (envOfC qual (ao st) s.heap.objs.size f bo))→sd ds R→
   ∃t,tu Z (oT bY P w K mg base N qual (ao st) f bo A outer s H E).iV md rn (eB st) t∧t {nx:=λ_=>rn=0∧R .aI,rt:=R} (tj N ds)):FnOk P w K mg base bY (k+1) f fd ps (jC Z rn sd):=by
 refine F.ok S (λvs H Q E h=>?_) (λbo A outer s H vs Q E hr h=>?_)
 ·obtain ⟨G,ds,R,s,dv,h,q⟩:=h
  rw [dv.length];exact len _ _ h
 obtain ⟨G,ds,R,s0,dv,h,q⟩:=h;have SA:=q;obtain ⟨t,ht,hq⟩:=n4 bo A outer s H E ds R hr h;have hl:=len _ _ h;refine ⟨_,ht,⟨G,H,G⟩,_,_,⟨G,λ_=> [],?_⟩,hq,⟨λρ SQ ay H' ⟨G',fp,S'⟩=>q _ SQ.2 _ [] G' H' S'.ex (by rw [SQ.1];exact ⟨.aI,rfl⟩) jO (λb hb=>by cases hb),SA,λ_ z=>z.elim,λ_ z=>z.elim⟩⟩
 refine ⟨.refl s0, .refl _,by unfold tj start;simp [dv.length],λi d hi=>?_,λ_=>jO,(λ_ _ _ _ z=>by cases z),(λ_ _ z=>by cases z)⟩
 unfold tj at hi
 have By:i<ds.length:=by
  apply Classical.byContradiction;intro z;rw [mm (by simpa using kJ z),AK] at hi
  split at hi<;>cases hi
 rw [kH (by simpa using By),bH] at hi
 have iT:ds[i]? =some d:=by
  cases z:ds[i]? with
  |none=>rw [z] at hi;cases hi
  |some d'=>rw [z] at hi;cases hi;rfl
 obtain ⟨v,hv,nP⟩:=dv.get iT;refine ⟨v,?_,by rw [Og i (by omega)];exact ⟨nP,rfl⟩⟩
 unfold start;rw [kH (by simpa [dv.length] using By),bH,hv];rfl
theorem bN{x qual:Str}{st:Stmt}{f:Addr}{fd:FuncData}{N ps:List Str}{k:Nat}{sd:dF}(F:vx K x qual st f fd)(S:aG N ps (ao st))(md:List Nat)(Og:∀i,i<ps.length→md.getD i 0=0)(len:∀ds P,sd ds P→ds.length=ps.length)
  (n4:∀(bo:Value)(A:Around)(outer:List Env)(s:Shared)(H:Hp)(E:XK)(ds:List D)(R:D→Prop),b8 k (A.deeper (envOfC qual (ao st) s.heap.objs.size f bo))→sd ds R→
   ∃t,tu Z (oT bY P w K mg base N qual (ao st) f bo A outer s H E).iV md 0 (eB st) t∧t {nx:=λ_=>0=0∧R .aI,rt:=R} (tj N ds)):FnOk P w K mg base bY (k+1) f fd ps (aZ Z sd):=
 (wq 0 F S md Og len λbo A outer s H E ds R hr h=>let ⟨t,a,b⟩:=n4 bo A outer s H E ds R hr h;⟨t,a,b⟩).imp spF
end
section
variable {Z:DC} {X:Cx} {a b c e o:Expr} {ta tb te:aU} {t:hJ} {es:List Expr} {pos apos:Pos}
def F7(ta:aU):aU:=λρ P=>ta ρ λd=>match d with
 | .int i=>P (.int (-i))
 |_=>False
theorem C8(ha:DE Z X a ta):DE Z X (.UnaryOp .USub a pos) (F7 ta):=by
 refine (O6 LF ha).imp ?_;rintro σ H Q ⟨G,ρ,P,s,en,h,q⟩;refine ⟨G,ρ,_,s,en,h,λd hd v G1 H1 x1 dv=>?_⟩;cases dv<;>first|exact hd.elim|skip
 exact ⟨_,rfl,q _ hd _ G1 H1 x1 (.int _)⟩
def Qd:dF:=λds P=>∃bs:List Bool,ds= [.lst (bs.map D.bl)]∧P (.bl (bs.all id))
theorem Dk{G:Hp}:∀{vs:List V}{bs:List Bool},aq Z G vs (bs.map D.bl)→vs=bs.map V.bl
 |vs,[],h=>by cases h;rfl
 |vs,b::bs,h=>by
  cases h with
  |cons a as=>cases a;rw [Dk as];rfl
theorem kW{G:Hp}:∀{vs:List V}{ns:List Int},aq Z G vs (ns.map D.int)→vs=ns.map V.int
 |vs,[],h=>by cases h;rfl
 |vs,b::bs,h=>by
  cases h with
  |cons a as=>cases a;rw [kW as];rfl
theorem JD(hc:X.calm=true):bQ X (.builtin "all") (gS Z Qd):=by
 refine (Eh hc).imp ?_;rintro xs H Q ⟨G,ds,P,s,dv,⟨bs,rfl,hp⟩,q⟩;cases dv with
 |cons a as=>
  cases as;cases a with
  |lst h e=>exact ⟨_,bs,rfl,by rw [←Dk e];exact s _ _ h,q _ hp _ G H (.refl s) (.bl _)⟩
def pairD(k:Nat×Nat):D:= .tup [.int (k.1:Nat), .int (k.2:Nat)]
def Jz:dF:=λds P=>∃ns:List (Nat×Nat),ds= [.lst (ns.map pairD)]∧ns.length≤1000∧∀ms:List (Nat×Nat),ms.Perm ns→ms.Pairwise Wb.lexLe→P (.lst (ms.map pairD))
theorem wb{G:Hp}:∀{vs:List V}{ns:List (Nat×Nat)},aq Z G vs (ns.map pairD)→∃L:List (Addr×(Nat×Nat)),vs=L.map (λe=>V.ref e.1)∧L.map (·.2)=ns∧nM G L
 |vs,[],h=>by cases h;exact ⟨[],rfl,rfl,λp hp=>by cases hp⟩
 |vs,n::ns,h=>by
  cases h with
  |cons a as=>
   obtain ⟨L,h1,h2,h3⟩:=wb as;unfold pairD at a;cases a with
   | @tup p xs ds hp e=>
    refine ⟨(p,n)::L,by rw [h1];rfl,by rw [←h2];rfl,λq hq=>?_⟩
    rcases cy.mp hq with rfl|hq
    ·have:xs=fS n:=by
      cases e with
      |cons a1 a2=>
       cases a2 with
       |cons b1 b2=>cases a1;cases b1;cases b2;rfl
     rw [←this];exact hp
    ·exact h3 q hq
theorem nM.dv{G:Hp}:∀{L:List (Addr×(Nat×Nat))},nM G L→aq Z G (L.map λe=>V.ref e.1) ((L.map (·.2)).map pairD)
 | [],_=> .nil
 |x::L,h=> .cons (.tup (h x (b7 ..)) (.cons (.int _) (.cons (.int _) .nil))) (nM.dv λp hp=>h p (cm _ hp))
theorem vX:bQ X (.builtin "sorted") (gS Z Jz):=by
 refine vz.imp ?_;rintro xs H Q ⟨G,ds,P,s,dv,⟨ns,rfl,hl,hp⟩,q⟩;cases dv with
 |cons a as=>
  cases as;cases a with
  | @lst p ik ds h e=>
   obtain ⟨L,rfl,h2,h3⟩:=wb e;have hL:L.length=ns.length:=by rw [←h2];simp
   refine ⟨_,L,rfl,aD.of (s _ _ h),λp hp=>s _ _ (h3 p hp),by omega,λp M hn m1 m2=>?_⟩
   have pm:(M.map (·.2)).Perm ns:=by rw [←h2];exact m1.map _
   have hM:nM (upd G p (.lst (M.map λe=>V.ref e.1))) M:=λx hx=>av (s.free hn) _ _ _ (h3 x (m1.mem_iff.mp hx));exact q _ (hp _ pm m2) _ _ _ (.new s hn) (.lst aa hM.dv)
def JJ(ta tb:aU):aU:=λρ P=>ta ρ λd=>∃l,d= .lst l∧tb ρ λy=>gL y=true∧l.all gL=true∧∃(j:Nat)(z:D),l[j]? =some z∧i6 z y=true∧(∀(m:Nat) z,m<j→l[m]? =some z→i6 z y=false)∧P (.int (j:Nat))
theorem v5{aL:Pos}(ho:DE Z X o ta)(he:DE Z X e tb)
  (dD:attributeBase o "index" X.env (eval o X.env)=eval o X.env:=by rfl)
  (jy:((backTo aL (starEach [e] X.env)).all (λx=>!x.1)&&(backToKw aL (keywordEach [] X.env)).all (λx=>x.1.isSome)&&decide (([e]:List Expr).length+([]:List Keyword).length+(if ([]:List Keyword).isEmpty then 0 else 1)<30))=true:=by rfl)
  (cw:(apos.endLine==aL.line)=true:=by rfl) (hs:starEach [e] X.env=(false,eval e X.env)::starEach [] X.env:=by rfl) (eS:(backTo aL (starEach [] X.env)).any (·.1)=false:=by rfl):
  DE Z X (.Call (.Attribute o "index" apos) [e] [] aL) (JJ ta tb):=by
 refine (fu PySem.F.plainAttrs_list PySem.F.slot_list_index PySem.F.type_list_index mL ho (ae he ar hs) dD jy cw hs eS).imp ?_;rintro σ H Q ⟨G,ρ,P,s,en,h,q⟩;refine ⟨G,ρ,_,s,en,h,?_⟩;rintro _ ⟨l,rfl,hd⟩ v G1 H1 x1 dv;cases dv with
 | @lst p xs ds hp e=>
  refine ⟨ty_list (x1.sub _ _ hp),G1,ρ,_,x1.sub,en.mono x1.gg,hd,λy hy u G2 H2 x2 du=>?_⟩;obtain ⟨h1,h2,j,z,h3,h4,h5,h6⟩:=hy;have e2:=e.mono x2.gg;obtain ⟨w,hw,dw⟩:=e2.get h3;refine ⟨p,xs,u,j,w,rfl,rfl,x2.hh _ _ (x1.sub _ _ hp),by rw [o9 du];exact h1,by rw [i7 e2];exact h2,hw,by rw [xP dw du];exact h4,λm z' hm hz=>?_,q _ h6 _ G2 H2 (x1.trans x2) (.int _)⟩
  obtain ⟨d',iT,nP⟩:=e2.Dr hz;rw [xP nP du];exact h5 m d' hm iT
end
structure CZ (Z:DC):Prop where
 cl:tq Z.K Z.C
 nR:jQ Z.K Z.C "rows"
section
variable {Z:DC} {X:Cx} {a b c e o:Expr} {ta tb te:aU} {t:hJ} {es:List Expr} {pos apos:Pos}
def Nw(ta:aU):aU:=λρ P=>ta ρ λd=>∃w,d= .fw w∧P (aR w)
theorem oU(T:CZ Z)(ha:DE Z X o ta)(eK:X.K=Z.K:=by rfl)(hb:attributeBase o "rows" X.env (eval o X.env)=eval o X.env:=by rfl):DE Z X (.Attribute o "rows" apos) (Nw ta):=by
 refine (KY ha hb).imp ?_;rintro σ H Q ⟨G,ρ,P,s,en,h,q⟩;refine ⟨G,ρ,_,s,en,h,?_⟩;rintro _ ⟨w,rfl,hd⟩ v G1 H1 x1 dv;cases dv with
 | @fw p dx R w hp hr g h1 h2=>exact ⟨p,Z.C,dx,_, .ref R,rfl,x1.sub _ _ hp,by rw [eK];exact T.cl,by rw [eK];exact T.nR,rfl,q _ hd _ G1 H1 x1 hr⟩
def Be(sd:dF)(ta:aU)(t:hJ):aU:=λρ P=>ta ρ λd=>∃w,d= .fw w∧t ρ λds=>sd (.fw w::ds) P
theorem wL{m:Str}{sd:dF}(hm:([("rows",V.ref 0)]:List (Str×V)).lookup m=none):∀σ H Q,di Z (Be sd ta t) σ H Q→CD Z.C m (aZ Z sd) [] E0 (di Z ta) (BR Z t) σ H Q:=by
 rintro σ H Q ⟨G,ρ,P,s,en,h,q⟩;refine ⟨G,ρ,_,s,en,h,?_⟩;rintro _ ⟨w,rfl,hd⟩ v G1 H1 x1 dv;have Xd:=dv;cases dv with
 | @fw p dx R w hp hr g h1 h2=>
  refine ⟨p,dx,_,rfl,x1.sub _ _ hp,?_,G1,ρ,_,x1.sub,en.mono x1.gg,hd,λds EN vs G2 H2 x2 bh=>?_⟩
  ·have hz:(m==("rows":Str))=false:=by
    cases z:(m==("rows":Str)) with
    |false=>rfl
    |true=>simp [List.lookup,z] at hm
   simp [List.lookup,hz]
  ·show aZ Z sd (V.ref p::(vs++ [])) H2 Q E0
   rw [jh];exact ⟨G2,_,P,x2.sub, .cons (Xd.mono x2.gg) bh,EN,λd hd v G3 H3 x3 Xe=>q d hd v G3 H3 ((x1.trans x2).trans x3) Xe⟩
variable {sd:dF} {k:Nat} {f:Addr} {fd:FuncData} {ps:List Str} {m:Str}
theorem zj{pl:Sem Bool}(T:CZ Z)(ho:DE Z X o ta)(hm:Meth Z.K Z.C m f)(F:FnOk X.prog X.w X.K X.mg X.base bY k f fd ps (aZ Z sd))(hr:b8 k X.A)(hb:Binds X.K fd ps [])(ha:DA Z X (e::es) t)(eK:X.K=Z.K:=by rfl)
  (Oj:([("rows",V.ref 0)]:List (Str×V)).lookup m=none:=by decide) (yd:starEach (e::es) X.env=(false,eval e X.env)::starEach es X.env:=by rfl) (dJ:(backTo pos (starEach es X.env)).any (·.1)=false:=by rfl)
  (ht:eval (.Call (.Attribute o m apos) (e::es) [] pos) X.env=(do
   let ov ←eval o X.env
   standAt apos.atName
   let (f,first) ←holding [ov] (getMethod ov m pl)
   callWith pos f first (backTo pos (starEach (e::es) X.env)) (backToKw pos (keywordEach [] X.env))):=by rfl):DE Z X (.Call (.Attribute o m apos) (e::es) [] pos) (Be sd ta t):=
 (Iy (pl:=pl) ho (by rw [eK];exact T.cl) (by rw [eK];exact hm) F hr hb .nil bK ha yd dJ ht).imp (wL Oj)
theorem mB{pl:Sem Bool}(T:CZ Z)(ho:DE Z X o ta)(hm:Meth Z.K Z.C m f)(F:FnOk X.prog X.w X.K X.mg X.base bY k f fd ps (aZ Z sd))(hr:b8 k X.A)(hb:Binds X.K fd ps [])(eK:X.K=Z.K:=by rfl)
  (Oj:([("rows",V.ref 0)]:List (Str×V)).lookup m=none:=by decide)
  (ht:eval (.Call (.Attribute o m apos) [] [] pos) X.env=(do
   let ov ←eval o X.env
   standAt apos.atName
   let (f,first) ←holding [ov] (getMethod ov m pl)
   callWith pos f first (backTo pos (starEach [] X.env)) (backToKw pos (keywordEach [] X.env))):=by rfl):DE Z X (.Call (.Attribute o m apos) [] [] pos) (Be sd ta rk):=
 (Fj (pl:=pl) ho (by rw [eK];exact T.cl) (by rw [eK];exact hm) F hr hb .nil bK ht).imp λσ H Q h=>by
  obtain ⟨G,ρ,P,s,en,h,q⟩:=wL Oj σ H Q h;refine ⟨G,ρ,P,s,en,h,λd hd v G1 H1 x1 dv=>?_⟩;obtain ⟨p,dx,fs,h1,h2,h3,G',aE,P',s',en',h',q'⟩:=q d hd v G1 H1 x1 dv;exact ⟨p,dx,fs,h1,h2,h3,q' _ h' _ G' _ (.refl s') .nil⟩
end
section
variable {Z:DC} {X:Cx} {pos:Pos}
def HE(g:dA)(tf:ji):List D→DN→List D→(List D→Prop)→Prop
 | [],_,acc,N=>N acc
 |x::xs,ρ,acc,N=>g x ρ λbf=>tf bf λds=>acc.length<sizeLine∧HE g tf xs bf (acc++ [.lst ds]) N
def Mg(wi:iA)(g:dA)(tf:ji)(src:List (Option Nat)):ji:=λρ P=>wi ρ λds=>HE g tf ds (uP src ρ) [] P
def PF(Z:DC)(n:Nat)(G1 H1:Hp)(Ad:Addr)(ρ:DN)(acc:List D)(σ:St)(H:Hp):Prop:=
 ∃(G:Hp)(ys:List V)(fs:List Addr),az G1 G∧az G H∧az H1 H∧(∀b,H1 b≠none→G1 b=none→G b=none)∧H Ad=some (.lst ys)∧cp (Own Z G H n) ys acc fs∧(Ad::fs).Nodup∧(∀b∈Ad::fs,H1 b=none∧H b≠none∧G b=none)∧cU Z G σ ρ
theorem cp.snoc{R:V→D→List Addr→Prop}:∀{vs:List V}{ds:List D}{fs:List Addr}{v:V}{d:D}{f:List Addr},cp R vs ds fs→R v d f→cp R (vs++ [v]) (ds++ [d]) (fs++f)
 |_,_,_,v,d,f, .nil,r=>by simpa using cp.cons r .nil
 |_,_,_,v,d,f, .cons a as,r=>by rw [nI];exact .cons a (as.snoc r)
theorem E3{n:Nat}{src:List (Option Nat)}{wi:iA}{g:dA}{tf:ji}:∀σ H Q,um Z (n+1) (Mg wi g tf src) σ H Q→Jk (qL Z wi) (oh Z g) D5 (um Z n tf) src σ H Q:=by
 rintro σ H Q ⟨G,ρ,P,s,en,h,q⟩;refine ⟨G,ρ,_,s,en,h,λds hd J G1 H1 x1 it Ad hA=>?_⟩;refine ⟨λi m cn H2=>m=ds.length-i∧i≤ds.length∧∃dq acc,PF Z n G1 H1 Ad dq acc cn H2∧HE g tf (ds.drop i) dq acc P,⟨_,rfl,cW _,_,[],⟨G1,[],[], .refl _,λb o e=>?_,av hA _,λ_ _ h=>h,aa, .nil,by simp,λb hb=>?_,(en.mono x1.gg).src src⟩,hd⟩,?_⟩
 ·rw [ab (ah e (x1.sub.free hA))];exact x1.sub _ _ e
 ·have:b=Ad:=by simpa using hb
  subst this;exact ⟨hA,(by rw [aa];exact λz=>nomatch z),x1.sub.free hA⟩
 rintro i m cn H2 ⟨rfl,hi,dq,acc,⟨G2,ys,fs,s1,s2,s3,off,nZ,ol,nd,nw,NK⟩,hl⟩
 by_cases bq:i<ds.length
 ·obtain ⟨go,_,yld⟩:=it G2 H2 s1 s2 i
  refine .inr ⟨go bq,λay H'=>∃aE iX,PF Z n G1 H1 Ad aE iX ay H'∧HE g tf (ds.drop (i+1)) aE iX P,λay H' k=>⟨ds.length-(i+1),by omega,rfl,bq,k⟩,λx H3 y=>?_⟩
  obtain ⟨G3,d,x3,Hb,dv⟩:=yld x H3 bq y;rw [kS Hb] at hl;refine ⟨G3,dq,d,_,x3.sub,NK.mono x3.gg,dv,hl,λbf h1 cO su=>?_⟩;unfold D5;dsimp only;rw [if_pos rfl];refine ⟨G3,bf,_,x3.sub,su,h1,λgz iT v f G6 H6 x6 ow JY Rq=>?_⟩;have x:=x3.trans x6;have aA:Ad∈Ad::fs:=b7 ..
  have qE:∀b∈Ad::fs,H6 b=H2 b∧G6 b=none:=λb hb=>by
   obtain ⟨_,q2,q3⟩:=nw b hb;refine ⟨?_,x.off b q2 q3⟩;cases e:H2 b with
   |none=>exact absurd e q2
   |some o=>exact x.hh _ _ e
  have XF:H6 Ad=some (.lst ys):=by rw [(qE Ad aA).1];exact nZ
  have Rn:∀b∈f,H2 b=none:=λb hb=>x3.hh.free (Rq b hb).1;have Rp:∀b∈f,∀c∈Ad::fs,b≠c:=λb hb c hc z=>(nw c hc).2.1 (by rw [←z];exact Rn b hb)
  refine ⟨ys,XF,by rw [ol.length];exact iT.1,bf,_,⟨G6,ys++ [v],fs++f,s1.trans x.gg,λb o e=>?_,λb o e=>?_,λb hb hg=>x.off b (gJ s3 hb) (off b hb hg),aa,?_,?_,λb hb=>?_,su.mono x6.gg⟩,iT.2⟩
  ·rw [ab (ah e (qE Ad aA).2)];exact x.sub _ _ e
  ·rw [ab (ah e hA)];exact (s3.trans x.hh) _ _ e
  ·refine cp.snoc (ol.imp λv d f' hf r=>r.keep x.gg λb hb=>?_) (ow.keep (.refl _) λb hb=>?_)
   ·have tZ:b∈fs:=hf b hb
    rw [ab (λz=>(iP.mp nd).1 (by rw [←z];exact tZ))]
    exact (qE b (cm _ tZ)).1
   ·exact ab (Rp b hb Ad aA)
  ·rw [←List.cons_append]
   exact jf.mpr ⟨nd,JY,λa ha b hb=>Ne.symm (Rp b hb a ha)⟩
  ·rw [←List.cons_append] at hb
   by_cases z:b=Ad
   ·subst z
    exact ⟨hA,(by rw [aa];exact λz=>nomatch z),(qE b aA).2⟩
   ·rcases cM.mp hb with hb|hb
    ·rw [ab z,(qE b hb).1]
     exact ⟨(nw b hb).1,(nw b hb).2.1,(qE b hb).2⟩
    ·rw [ab z]
     exact ⟨s3.free (Rn b hb),(Rq b hb).2⟩
 ·have e:ds.drop i= []:=xh (by omega)
  rw [e] at hl;refine .inl ⟨(it G2 H2 s1 s2 i).2.1 (by omega),q _ hl (.ref Ad) (Ad::fs) G2 H2 ⟨x1.gg.trans s1,s2,x1.hh.trans s3,λb hb hg=>off b (gJ x1.hh hb) (x1.off b hb hg)⟩ (.inl ⟨Ad,ys,acc,fs,rfl,rfl,nZ,rfl,ol⟩) nd λb hb=>⟨x1.hh.free (nw b hb).1,(nw b hb).2⟩⟩
variable {tg iter elt:Expr} {scope:Scope} {NC:List Str} {src:List (Option Nat)} {wi:iA} {g:dA} {tf:ji} {md:List Nat} {rn:Nat}
theorem tT(i:Nat){n:Nat}{x:Str}{px lU:Pos}(hc:X.calm=true)(hN:X.N.Nodup)(c:bE X scope)(fC:dg scope X.N src NC)(hi:DI Z X tg iter wi)
  (hg:∀ex s H,DG Z (dG X scope NC ex s H) tg g) (he:∀ex s H,DF Z (dG X scope NC ex s H) n elt tf)
  (n6:swapsWith (.ListComp elt [⟨tg,iter,[],0⟩] scope pos) (some (.Name x px)) lU.line X.env=pure true:=by rfl) (hm:md.getD i 0=n+1:=by rfl) (eC:X.N[i]? =some x:=by rfl) (hx:Loc X.env.scope x:=by first|exact Or.inl rfl|exact Or.inr rfl)
  (hf:X.fn x=true∨X.env.scope.names.lookup x=some .local:=by first|exact .inl rfl|exact .inr rfl|assumption)
  (hs:∀x,foldedSetIterable iter X.env x=pure x:=by intro _;rfl):DSt Z X md rn (.Assign [.Name x px] (.ListComp elt [⟨tg,iter,[],0⟩] scope pos) lU) (F8 md i (Mg wi g tf src)):=by
 refine (jI hc hN eC hx c fC hi hg (λ_ _ _=>lI) he n6 hf hs).imp ?_;rintro D σ H ⟨B,ρ,E,⟨G,fp,S⟩,h,M⟩;exact E3 σ H _ (qN hm S h M)
end
abbrev iu:=inClass
structure AV (Z:DC) (m qual:Str) (st:Stmt) (ps:List Str) where
 f:Addr
 fd:FuncData
 F:vx Z.K m qual st f fd
 b:Binds Z.K fd ps []
 m:Meth Z.K Z.C m f
def qb(K:PySem.W.Frag):Sp:=λvs H Q _=>∃(a:Addr)(ns:List Int),vs= [.ref a]∧aD K H a (ns.map V.int)∧ns.length≤63∧∀H',Q (.bl true) H'
def D0:dF:=λds P=>∃ns:List Int,ds= [.ij ns]∧ns.length≤63∧P (.bl true)
theorem Kr{Z:DC}:∀vs H Q E,qb Z.K vs H Q E→aZ Z D0 vs H Q E:=by
 rintro vs H Q E ⟨a,ns,rfl,hS,hl,q⟩;exact ⟨H,[.ij ns],λd=>d= .bl true, .refl _, .cons (.ij hS hl) .nil,⟨ns,rfl,hl,rfl⟩,λd hd v G' H' x dv=>by subst hd;cases dv;exact q H'⟩
theorem Pw(k:Nat){l:PySem.W.OpenLaw}{q:Program}{loose:List Str}{XP:(Str→Option Value)→Heap→Prop}{YP:World→Heap→Prop}{d:DefRec}{K:Params→PySem.W.Frag}(vE:3*k<150)(hn:l.most=some 63)(Bw:d.params.defaults= [])
  (hY:∀(w:World)(h:Heap),YP w h→(K w.params).In h)
  (F:∀(w:World)(mg:Str→Option Value)(fa:Addr)(h:Heap),(K w.params).In h→h.Ns mainGlobals mg→mg d.name=some (.ref fa)→
   ∃fd:FuncData,(∀(s:Shared)(u:Value),BindsTo s fd ⟨[u],[]⟩ [("_law_script",u)])∧∀base:Heap,(K w.params).In base→base.Ns mainGlobals mg→FnOk l.prog w (K w.params) mg base bY k fa fd ["_law_script"] (qb (K w.params))):
  PySem.W.WalkO q loose XP YP l.row.toRowW d [] (λf vs=>PySem.call f vs):=
 L2.Jp (n:=63) (k:=50) (x:="_law_script") (CX:=λ_=>bY) (sp:=λw=>qb (K w.params)) hn (by decide) Bw ⟨rfl,by decide,by decide⟩ hY (λw mg fa h a b c=>by
  obtain ⟨fd,h1,h2⟩:=F w mg fa h a b c;exact ⟨fd,h1,λbase x y=>(h2 base x y).mono (by omega)⟩) (λ_ _ a ns hl _ hS=>⟨a,ns,rfl,hS,hl,λ_=>rfl⟩) λ_ _ _ _ _ z=>z
theorem pD{c:Bool}{A B:Prop}(h1:c=true→A)(h2:c=false→B):if c=true then A else B:=by
 cases c with
 |true=>exact eY (h1 rfl)
 |false=>exact dh (h2 rfl)
theorem ug{i:Nat}{tt:dB}{te:aU}{ρ:DN}{α:Type}(enc:α→D)(p:α→Bool)(f:α→D):∀(ys:List α)(aE:DN)(acc:List D)(N:DN→List D→Prop),(∀y∈ys,∀(Y:D→Prop)(Nn:Prop),(p y=true→Y (f y))→(p y=false→Nn)→tt (ρ.set i (some (enc y))) λb=>if b=true then te (ρ.set i (some (enc y))) Y else Nn)→
  (∃o,aE=ρ.set i o)→acc.length+ys.length≤sizeLine→(∀aE,N aE (acc++(ys.filter p).map f))→lcW (oY i) tt te (ys.map enc) aE acc N
 | [],aE,acc,N,_,_,_,h=>by
  show N aE acc;simpa using h aE
 |y::ys,aE,acc,N,hs,⟨o,ho⟩,hz,h=>by
  show tt (aE.set i (some (enc y))) _;rw [ho,List.set_set];rw [cx] at hz;refine hs y (b7 ..) _ _ (λhp=>⟨by omega,?_⟩) (λhp=>?_)
  ·refine ug enc p f ys _ (acc++ [f y]) N (λz hz=>hs z (cm _ hz)) ⟨_,rfl⟩ (by simp;omega) λvv=>?_
   have:=h vv
   rw [List.filter_cons,hp] at this;simpa using this
  ·refine ug enc p f ys _ acc N (λz hz=>hs z (cm _ hz)) ⟨_,rfl⟩ (by omega) λvv=>?_
   have:=h vv
   rw [List.filter_cons,hp] at this;simpa using this
theorem pG{i:Nat}{te:aU}{ρ:DN}{α:Type}(enc:α→D)(f:α→D)(ys:List α)(N:DN→List D→Prop)(hs:∀y∈ys,∀(Y:D→Prop),Y (f y)→te (ρ.set i (some (enc y))) Y)(h0:ρ[i]? =some none)(hz:ys.length≤sizeLine)(h:∀aE,N aE (ys.map f)):lcW (oY i) tQ te (ys.map enc) ρ [] N:=by
 refine ug (ρ:=ρ) enc (λ_=>true) f ys ρ [] N (λy hy Y Nn h1 _=>?_) ⟨none,?_⟩ (by simpa using hz) λaE=>by rw [List.filter_eq_self.mpr (λ_ _=>rfl),xr];exact h aE
 ·unfold tQ
  dsimp only;rw [if_pos rfl];exact hs y hy Y (h1 rfl)
 ·obtain ⟨hi,e⟩:=bV.mp h0
  rw [←e,List.set_getElem_self]
theorem wu{g:dA}{tb:cP}{E:eo}(I:Nat→DN→Prop):∀(ds:List D)(k:Nat)(ρ:DN),I k ρ→(∀(j:Nat)(d:D)(ρ:DN),ds[j]? =some d→I (k+j) ρ→∀A:DN→Prop,(∀ρ,I (k+j+1) ρ→A ρ)→g d ρ λbf=>tb {nx:=A,ct:=A,bk:=E.nx,rt:=E.rt} bf)→
  (∀ρ,I (k+ds.length) ρ→E.nx ρ)→jx g tb E ds ρ
 | [],k,ρ,h0,hs,he=>he ρ h0
 |d::ds,k,ρ,h0,hs,he=>by
  refine hs 0 d ρ rfl h0 _ λaE h'=>?_
  exact wu I ds (k+1) aE h' (λj d' dq hj h2 A hA=>by
   refine hs (j+1) d' dq (by simpa using hj) (by rw [show k+(j+1)=k+1+j by omega];exact h2) A λρ3 h3=>hA ρ3 ?_
   rw [show k+1+j+1=k+(j+1)+1 by omega];exact h3) (λdq h2=>he dq (by rw [cx,show k+(ds.length+1)=k+1+ds.length by omega];exact h2))
theorem cJ{g:dA}{tb:cP}{E:eo}{ds:List D}{ρ:DN}(I:Nat→DN→Prop)(h0:I 0 ρ)(hs:∀(j:Nat)(d:D)(ρ:DN),ds[j]? =some d→I j ρ→∀A:DN→Prop,(∀ρ,I (j+1) ρ→A ρ)→g d ρ λbf=>tb {nx:=A,ct:=A,bk:=E.nx,rt:=E.rt} bf)
  (he:∀ρ,I ds.length ρ→E.nx ρ):jx g tb E ds ρ:=wu I ds 0 ρ h0 (λj d ρ hj h A hA=>hs j d ρ hj (by simpa using h) A λaE h'=>hA aE (by simpa using h')) (λρ h=>he ρ (by simpa using h))
theorem GK{g:dA}{tb:cP}{E:eo}{lo:Int}{n:Nat}{ρ:DN}(I:Nat→DN→Prop)(h0:I 0 ρ)(hs:∀(j:Nat)(ρ:DN),j<n→I j ρ→∀A:DN→Prop,(∀ρ,I (j+1) ρ→A ρ)→g (.int (lo+j)) ρ λbf=>tb {nx:=A,ct:=A,bk:=E.nx,rt:=E.rt} bf)
  (he:∀ρ,I n ρ→E.nx ρ):jx g tb E (eX lo n) ρ:=by
 have l:(eX lo n).length=n:=by unfold eX;simp
 refine cJ I h0 (λj d ρ hj h A hA=>?_) (λρ h=>he ρ (by rw [l] at h;exact h))
 have bq:j<n:=by
  have:=(bV.mp hj).1
  rw [l] at this;exact this
 rw [rM bq] at hj;cases hj;exact hs j ρ bq h A hA
theorem u0{c:dB}{tb:cP}{E:eo}{ρ:DN}(I:Nat→DN→Prop)(m0:Nat)(h0:I m0 ρ)(hs:∀m ρ,I m ρ→c ρ λb=>if b=true then tb {nx:=λaE=>∃m',m'<m∧I m' aE,ct:=λaE=>∃m',m'<m∧I m' aE,bk:=E.nx,rt:=E.rt} ρ else E.nx ρ):C7 c tb E ρ:=⟨I,⟨m0,h0⟩,hs⟩
section
variable {Z:DC} {X:Cx} {a b c e:Expr} {ta tb te:aU} {t:hJ} {pos:Pos}
variable {md:List Nat} {rn:Nat} {k:Expr} {tk:aU}
variable {apos aL:Pos}
variable {es:List Expr}
def GH(sd:dF)(t:hJ):ji:=λρ P=>t ρ λas=>sd as λd=>∃ds,d= .lst ds∧P ds
theorem Gn{n:Nat}{sd:dF}{k:Nat}{f:Addr}{fd:FuncData}{ps:List Str}{x:Str}{p:Pos}(F:FnOk X.prog X.w X.K X.mg X.base bY k f fd ps (jC Z n sd))(hr:b8 k X.A)(hg:Gl X x)(hm:X.mg x=some (.ref f))(hk:PySem.W.keepIn X.K (.ref f)=true)(hb:Binds X.K fd ps [])
  (ha:DA Z X (e::es) t) (iE:(x==("__debug__":Str))=false:=by decide) (he:starEach (e::es) X.env=(false,eval e X.env)::starEach es X.env:=by rfl) (dJ:(backTo pos (starEach es X.env)).any (·.1)=false:=by rfl):
  DF Z X n (.Call (.Name x p) (e::es) [] pos) (GH sd t):=by
 refine (aW F hr hg hm hk hb .nil bK ha iE he dJ).imp ?_;rintro σ H Q ⟨G,ρ,P,s,en,h,q⟩;refine ⟨G,ρ,_,s,en,h,λds hd vs G1 H1 x1 bh=>?_⟩;show jC Z n sd (vs++ []) H1 Q E0;rw [jh];refine ⟨G1,ds,_,x1.sub,bh,hd,?_⟩;rintro _ ⟨gz,rfl,hp⟩ v f G2 H2 x2 o nd nw;exact q _ hp v f G2 H2 (x1.trans x2) o nd λb hb=>⟨x1.hh.free (nw b hb).1,(nw b hb).2⟩
end
section
variable {X:Cx} {elt t0 i0 t1 i1:Expr} {f0 f1:List Expr} {scope:Scope} {pos:Pos} {wi fV:TI} {g g1:TG} {tt cX:TT} {te:TE} {src:List (Option Nat)} {NC:List Str}
end
section
variable {Z:DC} {X:Cx} {md:List Nat} {rn:Nat} {elt t0 i0 t1 i1:Expr} {f0 f1:List Expr} {scope:Scope} {pos:Pos} {wi fV:iA} {g g1:dA} {tt cX:dB} {te:aU} {src:List (Option Nat)} {NC:List Str}
end
section
variable {Z:DC} {X:Cx} {md:List Nat} {rn:Nat} {e:Expr} {pos:Pos}
end
theorem jV{l:List D}{j:Nat}{d:D}(h:(fN l)[j]? =some d):∃x,l[j]? =some x∧d= .tup [.int (j:Int),x]:=by
 unfold fN at h;rw [List.getElem?_mapIdx] at h;cases e:l[j]? with
 |none=>rw [e] at h;cases h
 |some x=>rw [e] at h;cases h;exact ⟨x,rfl,rfl⟩
theorem nQ(l:List D):(fN l).length=l.length:=by unfold fN;simp
theorem dj{α β:Type}{f:α→β}{l:List α}{j:Nat}{y:β}(h:(l.map f)[j]? =some y):∃x,l[j]? =some x∧y=f x:=by
 rw [bH] at h;cases e:l[j]? with
 |none=>rw [e] at h;cases h
 |some x=>rw [e] at h;cases h;exact ⟨x,rfl,rfl⟩
theorem gd(r:List Nat):(r.map aB).all gL=true:=by simp [aB,gL]
theorem pB{r:List Nat}{p:Nat}:inD (aB p) (r.map aB)=decide (p∈r):=by
 unfold inD;rw [List.any_map]
 have:((λy=>i6 y (aB p))∘aB)=λq:Nat=>decide (q=p):=by
  funext q
  simp [aB,i6,Function.comp]
  by_cases z:q=p
  ·simp [z]
  ·have:¬(q:Int)=(p:Int):=by omega
   simp [z,this]
 rw [this]
 by_cases h:p∈r
 ·rw [decide_eq_true h,List.any_eq_true];exact ⟨p,h,by simp⟩
 ·rw [decide_eq_false h]
  apply qi.mpr;intro z;rw [List.any_eq_true] at z;obtain ⟨q,hq,e⟩:=z
  exact h (by have:q=p:=by simpa using e
              rw [←this];exact hq)
theorem f7{l:List D}{p:Nat}{d:D}(h:l[p]? =some d):e7 l (p:Int)=some d:=bS h
theorem uZ{w:List (List Nat)}{p:Nat}(h:p<w.length):(w.map aH)[p]? =some (aH (Wb.row w p)):=by
 rw [bH,Wb.Ah h];rfl
section
variable {Z:DC} {X:Cx} {md:List Nat} {rn:Nat} {e:Expr} {te:aU} {pos:Pos}
end
theorem MV{ρ:DN}{A B:Prop}(h:A):tQ ρ (λb=>if b=true then A else B):=by
 unfold tQ;dsimp only;rw [if_pos rfl];exact h
theorem SW{c:Bool}{A B:Prop}(e:c=true)(h:A):if c=true then A else B:=by rw [if_pos e];exact h
theorem wF{c:Bool}{A B:Prop}(e:c=false)(h:B):if c=true then A else B:=by rw [if_neg (by rw [e];exact cB)];exact h
theorem pH{g:dA}{tt:dB}{te:aU}{α:Type}(I:DN→Prop)(enc:α→D)(p:α→Bool)(f:α→D):∀(ys:List α)(aE:DN)(acc:List D)(N:DN→List D→Prop),(∀y∈ys,∀aE,I aE→∀(Y:DN→D→Prop)(Nn:DN→Prop),(∀bf,I bf→p y=true→Y bf (f y))→(∀bf,I bf→p y=false→Nn bf)→g (enc y) aE λbf=>tt bf λb=>if b=true then te bf (Y bf) else Nn bf)→
  I aE→acc.length+ys.length≤sizeLine→(∀aE,I aE→N aE (acc++(ys.filter p).map f))→lcW g tt te (ys.map enc) aE acc N
 | [],aE,acc,N,_,hI,_,h=>by
  show N aE acc;simpa using h aE hI
 |y::ys,aE,acc,N,hs,hI,hz,h=>by
  rw [cx] at hz;refine hs y (b7 ..) aE hI (λbf d=>acc.length<sizeLine∧lcW g tt te (ys.map enc) bf (acc++ [d]) N) (λbf=>lcW g tt te (ys.map enc) bf acc N) (λbf h1 hp=>⟨by omega,?_⟩) (λbf h1 hp=>?_)
  ·refine pH I enc p f ys _ (acc++ [f y]) N (λz hz=>hs z (cm _ hz)) h1 (by simp;omega) λvv h2=>?_
   have:=h vv h2
   rw [List.filter_cons,hp] at this;simpa using this
  ·refine pH I enc p f ys _ acc N (λz hz=>hs z (cm _ hz)) h1 (by omega) λvv h2=>?_
   have:=h vv h2
   rw [List.filter_cons,hp] at this;simpa using this
theorem i9{α:Type}{us:List α}(h:us.length=1):∃a0,us= [a0]:=by
 cases us with
 |nil=>cases h
 |cons a l=>
  cases l with
  |nil=>exact ⟨a,rfl⟩
  |cons _ _=>cases h
theorem jB{α:Type}{us:List α}(h:us.length=2):∃a0 a1,us= [a0,a1]:=by
 cases us with
 |nil=>cases h
 |cons a l=>
  obtain ⟨a1,rfl⟩:=i9 (Nat.succ.inj h);exact ⟨a,a1,rfl⟩
theorem zT{α:Type}{us:List α}(h:us.length=3):∃a0 a1 a2,us= [a0,a1,a2]:=by
 cases us with
 |nil=>cases h
 |cons a l=>
  obtain ⟨a1,a2,rfl⟩:=jB (Nat.succ.inj h);exact ⟨a,a1,a2,rfl⟩
section
variable {Z:DC} {X:Cx} {e:Expr} {es:List Expr} {t:hJ} {pos:Pos}
theorem bJ{sd:dF}{k j:Nat}{x:Str}{st:Stmt}{ps:List Str}{p:Pos}(d:bM X.K X.mg x st ps)(F:FnOk X.prog X.w X.K X.mg X.base bY k d.f d.fd ps (aZ Z sd))(hr:b8 j X.A)(ha:DA Z X (e::es) t)(hg:Gl X x:=by rfl)(hk:k≤j:=by first|decide|omega)
  (iE:(x==("__debug__":Str))=false:=by decide) (he:starEach (e::es) X.env=(false,eval e X.env)::starEach es X.env:=by rfl) (dJ:(backTo pos (starEach es X.env)).any (·.1)=false:=by rfl):
  DE Z X (.Call (.Name x p) (e::es) [] pos) (tP sd t):=Gg F (hr.mono hk) hg d.m d.F.kp d.b ha iE he dJ
theorem Er{n:Nat}{sd:dF}{k j:Nat}{x:Str}{st:Stmt}{ps:List Str}{p:Pos}(d:bM X.K X.mg x st ps)(F:FnOk X.prog X.w X.K X.mg X.base bY k d.f d.fd ps (jC Z n sd))(hr:b8 j X.A)(ha:DA Z X (e::es) t)(hg:Gl X x:=by rfl)(hk:k≤j:=by first|decide|omega)
  (iE:(x==("__debug__":Str))=false:=by decide) (he:starEach (e::es) X.env=(false,eval e X.env)::starEach es X.env:=by rfl) (dJ:(backTo pos (starEach es X.env)).any (·.1)=false:=by rfl):
  DF Z X n (.Call (.Name x p) (e::es) [] pos) (GH sd t):=Gn F (hr.mono hk) hg d.m d.F.kp d.b ha iE he dJ
theorem vA{scope:Scope}(sc:Scope)(e:X.env.scope=sc:=by rfl)(k:scope.kind= .function:=by rfl)(a:∀x∈scope.names,x.2= .local→scope.names.lookup x.1=some .local:=by decide+kernel)(b:∀x∈scope.names,x.2≠ .cell:=by decide+kernel)
  (c:∀x∈scope.names,x.2= .free→sc.names.lookup x.1=some .cell∨sc.names.lookup x.1=some .free:=by decide+kernel):bE X scope:=bE.of sc e k a b c
end
section
variable {K:PySem.W.Frag} {h:Heap} {mg:Str→Option Value}
abbrev gK(K:PySem.W.Frag)(x:Str)(d:Addr):Prop:=PySem.W.nsIn K mainGlobals x=some (some (.ref d))
abbrev eZ(K:PySem.W.Frag)(x qual:Str)(st:Stmt)(d:Addr)(od an:Option Addr)(sl:Array (Option Value))(oc kV dc pm cd ct:Value):Prop:=K.lookup d=some ⟨oc,od, .func (PySem.W.fnOf x qual (iD st) (eB st) (ao st) .none kV dc pm an cd ct),sl⟩
def bM.of{x:Str}{st:Stmt}{ps:List Str}{d:Addr}{od an:Option Addr}{sl:Array (Option Value)}{oc kV dc pm cd ct:Value}(X:K.In h)(G:h.Ns mainGlobals mg)(a:gK K x d)(l:eZ K x x st d od an sl oc kV dc pm cd ct)(c:PySem.W.codeIn K cd x=true)(k:PySem.W.keepIn K (.ref d)=true)
  (b:∀(kV doc pm:Value)(an:Option Addr)(bo ct:Value)(us:List Value),us.length=ps.length→bindArgs (PySem.W.fnOf x x (iD st) (eB st) (ao st) .none kV doc pm an bo ct) ⟨us,[]⟩=pure (ps.zip us)):bM K mg x st ps:=
 ⟨d,_,pj l c k,(pj l c k).binds b,PySem.W.mg_of X G a⟩
def AV.of{Z:DC}{m qual:Str}{st:Stmt}{ps:List Str}{d:Addr}{od an:Option Addr}{sl:Array (Option Value)}{oc kV dc pm cd ct:Value}(a:PySem.W.findIn Z.K (.ref Z.C) m=some (some (.ref d)))(f:PySem.W.isFn Z.K (.ref d)=true)(l:eZ Z.K m qual st d od an sl oc kV dc pm cd ct)(c:PySem.W.codeIn Z.K cd qual=true)(k:PySem.W.keepIn Z.K (.ref d)=true)
  (b:∀(kV doc pm:Value)(an:Option Addr)(bo ct:Value)(us:List Value),us.length=ps.length→bindArgs (PySem.W.fnOf m qual (iD st) (eB st) (ao st) .none kV doc pm an bo ct) ⟨us,[]⟩=pure (ps.zip us)):AV Z m qual st ps:=
 ⟨d,_,pj l c k,(pj l c k).binds b,⟨a,f,k⟩⟩
end
end L2
namespace Wb
def fI(w:W):Nat:=(w.map List.length).sum
theorem oW{r:List Nat}:∀{w:W}{p:Nat},p<w.length→fI (w.set p r)+(row w p).length=fI w+r.length
 | [],_,h=>by simp at h
 |a::w,0,_=>by simp [fI,row];omega
 |a::w,p+1,h=>by
  have ih:=oW (r:=r) (w:=w) (p:=p) (by simpa using h)
  have e:row (a::w) (p+1)=row w p:=by simp [row]
  rw [e];simp only [fI,List.set_cons_succ,fF,List.sum_cons] at ih ⊢;omega
theorem Ep(w:W)(r:List Nat):fI (w++ [r])=fI w+r.length:=by simp [fI]
theorem Eo{w:W}{p i:Nat}(h:p<w.length):fI (leaf w p i)=fI w+2:=by
 unfold leaf
 have:=oW (r:=ins (row w p) i w.length) h
 rw [ud] at this;rw [Ep];simp;omega
theorem Gm{w:W}{p i u j:Nat}(hp:p<w.length)(hu:u<w.length)(ne:u≠p):fI (yS w p i u j)=fI w+2:=by
 unfold yS;have h1:=oW (r:=ins (row w p) i u) hp;have h2:=oW (w:=w.set p (ins (row w p) i u)) (r:=ins (row w u) j p) (p:=u) (by simpa using hu)
 rw [gI hp,if_neg (Ne.symm ne)] at h2;rw [ud] at h1 h2;omega
theorem Fm{l l':List Nat}(h:l.Perm l'):l.sum=l'.sum:=by
 induction h with
 |nil=>rfl
 |cons x _ ih=>simp [ih]
 |swap x y l=>simp;omega
 |trans _ _ YS YT=>exact YS.trans YT
theorem qw(w:W):fI w=((List.range w.length).map λp=>(row w p).length).sum:=by
 unfold fI
 congr 1
 refine List.ext_getElem (by simp) λi h1 h2=>?_
 rw [List.getElem_map,List.getElem_map,List.getElem_range];have hi:i<w.length:=by simpa using h1
 have:=Ah hi
 rw [cN hi] at this;rw [Option.some.inj this]
theorem Gk{w w':W}{ord:List Nat}(hl:w'.length=w.length)(pm:ord.Perm (List.range w.length))(gG:∀p,p<w.length→(row w' (ord.getD p 0)).Perm ((row w p).map λx=>ord.getD x 0)):fI w'=fI w:=by
 rw [qw w',hl,qw w,←Fm (pm.map λp=>(row w' p).length)]
 congr 1
 have ll:ord.length=w.length:=by rw [pm.length_eq,qh]
 refine List.ext_getElem (by simp [ll]) λi h1 h2=>?_
 rw [List.getElem_map,List.getElem_map,List.getElem_range];have hi:i<w.length:=by simpa using h2
 have e:ord.getD i 0=ord[i]'(by rw [ll];exact hi):=by rw [fW,cN (by rw [ll];exact hi)];rfl
 have:=(gG i hi).length_eq
 rw [aM,e] at this;exact this
theorem jT(w:W):(aK w).length=fI w:=by
 rw [qw];unfold aK;rw [List.length_flatMap]
 congr 1
 apply List.map_congr_left;intro p _;rw [aM]
theorem fL{w:W}(g:Good w):(aK w).Nodup:=by
 unfold aK List.Nodup;refine lF (λp _=>?_) ?_
 ·rw [jM]
  exact (g.nod p).imp λne e=>ne (congrArg Prod.snd e)
 ·refine List.Pairwise.imp ?_ List.pairwise_lt_range
  intro a b lt x hx y hy e;obtain ⟨_,_,rfl⟩:=bX.mp hx;obtain ⟨_,_,rfl⟩:=bX.mp hy
  have:=congrArg Prod.fst e
  simp at this;omega
theorem lX(w:W):jb (row w) w.length=(aK w).filter λd=>decide (d.1<d.2):=by
 unfold jb aK;rw [List.filter_flatMap]
 congr 1
 funext p
 rw [List.filter_map];rfl
theorem CH{w:W}(g:Good w):2*(jb (row w) w.length).length≤fI w:=by
 rw [lX,←jT];have h1:=List.length_eq_countP_add_countP (λd:Nat×Nat=>decide (d.1<d.2)) (l:=aK w)
 have h2:((aK w).filter λd=>decide (d.1<d.2)).length≤((aK w).filter λd=>decide (d.2<d.1)).length:=by
  have:=aN (l:=((aK w).filter λd=>decide (d.1<d.2)).map λd=>(d.2,d.1)) (m:=(aK w).filter λd=>decide (d.2<d.1)) ?_ ?_
  ·rwa [aM] at this
  ·unfold List.Nodup
   rw [jM];refine List.Pairwise.imp ?_ ((fL g).filter _);intro a b ne e;have e1:=congrArg Prod.fst e;have e2:=congrArg Prod.snd e;exact ne (Prod.ext e2 e1)
  ·intro x hx
   obtain ⟨d,hd,rfl⟩:=bX.mp hx;obtain ⟨X1,hd2⟩:=vi.mp hd;refine vi.mpr ⟨bF.mpr (g.sym _ _ (bF.mp X1)),?_⟩;simpa using hd2
 have h3:((aK w).filter λd=>decide (d.2<d.1)).length≤(aK w).countP λd=>!decide (d.1<d.2):=by
  rw [←List.countP_eq_length_filter];apply List.countP_mono_left;intro d _ h;simp at h ⊢;omega
 rw [List.countP_eq_length_filter] at h1
 have h4:(aK w).countP (λd=>!decide (d.1<d.2))=List.countP (λa=>decide ¬(decide (a.1<a.2)=true)) (aK w):=by
  congr 1
  funext d
  by_cases h:d.1<d.2<;>simp [h]
 omega
structure RI (w:W) (bs:List Bool) (ws ex:List Nat) (c:Nat):Prop where
 len:bs.length=w.length
 z:bs[0]? =some true
 wt:∀x∈ws,bs[x]? =some true
 cl:∀x,bs[x]? =some true→x∈ws∨x∈ex∨∀q∈row w x,bs[q]? =some true
 cnt:bs.count false+ws.length≤c
theorem RI.pop{w:W}{bs:List Bool}{ws:List Nat}{p c:Nat}(h:RI w bs (ws++ [p]) [] (c+1)):RI w bs ws [p] c:=
 ⟨h.len,h.z,λx hx=>h.wt x (se _ hx),λx hx=>by
  rcases h.cl x hx with q|q|q
  ·rcases cM.mp q with q|q
   ·exact .inl q
   ·exact .inr (.inl q)
  ·cases q
  ·exact .inr (.inr q),by have:=h.cnt;rw [dE] at this;simp at this;omega⟩
theorem RI.push{w:W}{bs:List Bool}{ws ex:List Nat}{q c:Nat}(h:RI w bs ws ex c)(hq:bs[q]? =some false):RI w (bs.set q true) (ws++ [q]) ex c:=by
 obtain ⟨hl,he⟩:=bV.mp hq
 have up:∀x,bs[x]? =some true→(bs.set q true)[x]? =some true:=λx hx=>by
  rw [qg]
  by_cases e:q=x
  ·rw [if_pos e,if_pos hl]
  ·rw [if_neg e];exact hx
 refine ⟨by rw [fe];exact h.len,up _ h.z,λx hx=>?_,λx hx=>?_,?_⟩
 ·rcases cM.mp hx with z|z
  ·exact up _ (h.wt x z)
  ·have:x=q:=by simpa using z
   rw [this,qg,if_pos rfl,if_pos hl]
 ·by_cases e:q=x
  ·exact .inl (by rw [e];simp)
  ·rw [qg,if_neg e] at hx
   rcases h.cl x hx with z|z|z
   ·exact .inl (se _ z)
   ·exact .inr (.inl z)
   ·exact .inr (.inr λy hy=>up _ (z y hy))
 ·have hc:=h.cnt
  have:0<bs.count false:=List.count_pos_iff.mpr (by rw [←he];exact jN hl)
  rw [List.count_set hl,he,dE];simp;omega
theorem RI.close{w:W}{bs:List Bool}{ws:List Nat}{p c:Nat}(h:RI w bs ws [p] c)(hp:∀q∈row w p,bs[q]? =some true):RI w bs ws [] c:=
 ⟨h.len,h.z,h.wt,λx hx=>by
  rcases h.cl x hx with q|q|q
  ·exact .inl q
  ·have:x=p:=by simpa using q
   rw [this];exact .inr (.inr hp)
  ·exact .inr (.inr q),h.cnt⟩
theorem RI.all{w:W}{bs:List Bool}{c:Nat}(g:Good w)(h:RI w bs [] [] c):bs=List.replicate w.length true:=by
 have:=zf g (S:=λx=>bs[x]? =some true) h.z λp q hp hq=>by
  rcases h.cl p hp with z|z|z
  ·cases z
  ·cases z
  ·exact z q hq
 refine xn λi=>?_
 by_cases hi:i<w.length
 ·rw [this i hi,AK,if_pos hi]
 ·rw [iO (by rw [h.len];omega),iO (by simp;omega)]
end Wb
namespace AU
open PySem L2 Wb
def top(i:Nat):Stmt:=PySem.Challenge.pw_mapdye_k13_whole_lands_walked.main.body.getD i (.Pass ⟨0,0,0,0⟩)
abbrev jr:Stmt:=top 9
abbrev lO:Stmt:=top 10
abbrev lN:Stmt:=top 13
abbrev iK:Stmt:=top 14
abbrev js:Stmt:=top 15
abbrev iN:Stmt:=top 16
abbrev jq:Stmt:=top 17
abbrev cz:Stmt:=top 18
abbrev iL:Stmt:=top 19
abbrev iM:Stmt:=top 20
abbrev pX:Stmt:=top 23
abbrev nk:Stmt:=top 24
abbrev lM:Stmt:=top 25
abbrev pY:Stmt:=top 26
abbrev pZ:Stmt:=top 27
abbrev kc:Stmt:=top 28
abbrev nq:Stmt:=top 29
abbrev rP:Stmt:=top 30
abbrev kA:Stmt:=top 31
abbrev rQ:Stmt:=top 32
abbrev iJ:Stmt:=top 33
abbrev fc:Stmt:=top 34
abbrev ig:Stmt:=top 35
abbrev yJ:Stmt:=top 36
abbrev dN:Stmt:=L2.iu (top 21) 0
abbrev lK:Stmt:=L2.iu (top 21) 1
abbrev ie:Stmt:=L2.iu (top 21) 2
abbrev ja:Stmt:=L2.iu (top 21) 3
abbrev rO:Stmt:=L2.iu (top 21) 4
abbrev jo:Stmt:=L2.iu (top 21) 5
theorem lS:aG ["web","side","sides","p","q"] ["web","side"] (ao jr):=⟨rfl,rfl,rfl,by decide+kernel,rfl,by decide+kernel,by decide+kernel⟩
theorem xa:aG ["web","walked","told","side","sides","step"] ["web"] (ao lO):=⟨rfl,rfl,rfl,by decide+kernel,rfl,by decide+kernel,by decide+kernel⟩
theorem p6:aG ["thing","many"] ["thing","many"] (ao lN):=⟨rfl,rfl,rfl,by decide+kernel,rfl,by decide+kernel,by decide+kernel⟩
theorem kC:aG ["rows","p","row","q"] ["rows"] (ao iK):=⟨rfl,rfl,rfl,by decide+kernel,rfl,by decide+kernel,by decide+kernel⟩
theorem lT:aG ["rows","p","row"] ["rows"] (ao js):=⟨rfl,rfl,rfl,by decide+kernel,rfl,by decide+kernel,by decide+kernel⟩
theorem kF:aG ["rows","p","row","place","q"] ["rows"] (ao iN):=⟨rfl,rfl,rfl,by decide+kernel,rfl,by decide+kernel,by decide+kernel⟩
theorem lR:aG ["rows","p","row","q"] ["rows"] (ao jq):=⟨rfl,rfl,rfl,by decide+kernel,rfl,by decide+kernel,by decide+kernel⟩
theorem fU:aG ["rows","reached","waiting","p","q"] ["rows"] (ao cz):=⟨rfl,rfl,rfl,by decide+kernel,rfl,by decide+kernel,by decide+kernel⟩
theorem kD:aG ["rows","q","reached"] ["rows"] (ao iL):=⟨rfl,rfl,rfl,by decide+kernel,rfl,by decide+kernel,by decide+kernel⟩
theorem kE:aG ["rows","fault"] ["rows"] (ao iM):=⟨rfl,rfl,rfl,by decide+kernel,rfl,by decide+kernel,by decide+kernel⟩
theorem nv:aG ["_law_turns","_law_side","_law_p","_law_q"] ["_law_turns","_law_side"] (ao kc):=⟨rfl,rfl,rfl,by decide+kernel,rfl,by decide+kernel,by decide+kernel⟩
theorem kB:aG ["_law_found"] ["_law_found"] (ao iJ):=⟨rfl,rfl,rfl,by decide+kernel,rfl,by decide+kernel,by decide+kernel⟩
theorem lQ:aG ["_law_land","_law_many"] ["_law_land","_law_many"] (ao fc):=⟨rfl,rfl,rfl,by decide+kernel,rfl,by decide+kernel,by decide+kernel⟩
theorem nu:aG ["_law_found","_law_turns","_law_seen","_law_land","_law_sides_here","_law_k","_law_side"] ["_law_found","_law_turns"] (ao ig):=⟨rfl,rfl,rfl,by decide+kernel,rfl,by decide+kernel,by decide+kernel⟩
theorem DZ:aG ["_law_script","_law_turns","_law_handed","_law_web_here","_law_again","_law_found"] ["_law_script"] (ao yJ):=⟨rfl,rfl,rfl,by decide+kernel,rfl,by decide+kernel,by decide+kernel⟩
theorem jJ:aG ["self","turns","rows","fault"] ["self","turns"] (ao dN):=⟨rfl,rfl,rfl,by decide+kernel,rfl,by decide+kernel,by decide+kernel⟩
theorem p4:aG ["self"] ["self"] (ao lK):=⟨rfl,rfl,rfl,by decide+kernel,rfl,by decide+kernel,by decide+kernel⟩
theorem nr:aG ["self"] ["self"] (ao ie):=⟨rfl,rfl,rfl,by decide+kernel,rfl,by decide+kernel,by decide+kernel⟩
theorem p5:aG ["self"] ["self"] (ao ja):=⟨rfl,rfl,rfl,by decide+kernel,rfl,by decide+kernel,by decide+kernel⟩
theorem lP:aG ["self","p","q","row"] ["self","p","q"] (ao jo):=⟨rfl,rfl,rfl,by decide+kernel,rfl,by decide+kernel,by decide+kernel⟩
structure Txt (Z:DC) (mg:Str→Option Value) where
 B:PC mg
 x_set:mg "set"=none
 d_round_from:bM Z.K mg "round_from" jr ["web","side"]
 d_lands:bM Z.K mg "lands" lO ["web"]
 d_is_among:bM Z.K mg "is_among" lN ["thing","many"]
 d_alien_fault:bM Z.K mg "alien_fault" iK ["rows"]
 d_self_fault:bM Z.K mg "self_fault" js ["rows"]
 d_twice_fault:bM Z.K mg "twice_fault" iN ["rows"]
 d_lone_fault:bM Z.K mg "lone_fault" jq ["rows"]
 d_reached_from_first:bM Z.K mg "reached_from_first" cz ["rows"]
 d_apart_fault:bM Z.K mg "apart_fault" iL ["rows"]
 d_first_fault:bM Z.K mg "first_fault" iM ["rows"]
 d__law_cell:bM Z.K mg "_law_cell" pX ["_law_script","_law_k"]
 d__law_mixed:bM Z.K mg "_law_mixed" nk ["_law_script","_law_turn"]
 d__law_digits:bM Z.K mg "_law_digits" lM ["_law_script","_law_at"]
 d__law_take:bM Z.K mg "_law_take" pY ["_law_left","_law_many"]
 d__law_tree:bM Z.K mg "_law_tree" pZ ["_law_many","_law_left"]
 d__law_next:bM Z.K mg "_law_next" kc ["_law_turns","_law_side"]
 d__law_round:bM Z.K mg "_law_round" nq ["_law_turns","_law_side"]
 d__law_tie:bM Z.K mg "_law_tie" rP ["_law_turns","_law_left","_law_plane"]
 d__law_renamed:bM Z.K mg "_law_renamed" kA ["_law_turns","_law_order","_law_left"]
 d__law_web:bM Z.K mg "_law_web" rQ ["_law_script","_law_most","_law_plane"]
 d__law_is_int:bM Z.K mg "_law_is_int" iJ ["_law_found"]
 d__law_sides:bM Z.K mg "_law_sides" fc ["_law_land","_law_many"]
 d__law_good:bM Z.K mg "_law_good" ig ["_law_found","_law_turns"]
 d_law:bM Z.K mg "law" yJ ["_law_script"]
 W:CZ Z
 mC:mg "Web"=some (.ref Z.C)
 i_f:Addr
 i_fd:FuncData
 i_F:vx Z.K "__init__" "Web.__init__" dN i_f i_fd
 mkW:Mk Z.K Z.C i_f
 m___init__b:Binds Z.K i_fd ["self","turns"] []
 m_many:AV Z "many" "Web.many" lK ["self"]
 m_turns:AV Z "turns" "Web.turns" ie ["self"]
 m_ties:AV Z "ties" "Web.ties" ja ["self"]
 m_tied:AV Z "tied" "Web.tied" rO ["self","a","b"]
 m_behind:AV Z "behind" "Web.behind" jo ["self","p","q"]
 c_MOST_POINTS:∃tk,mg "MOST_POINTS"=some (.int 14 tk)
variable {P:Program} {w:World} {mg:Str→Option Value} {base:Heap} {Z:DC} (T:Txt Z mg)
def I0:dF:=λds P=>∃(i n:Int),ds= [.int i, .int n]∧P (.bl (decide (0≤i∧i<n)))
theorem yC:FnOk P w Z.K mg base bY 1 T.d_is_among.f T.d_is_among.fd ["thing","many"] (aZ Z I0):=by
 have nd:=p6.nd;refine bN T.d_is_among.F p6 [0,0] (by decide) (λds R h=>by obtain ⟨_,_,rfl,_⟩:=h;rfl) (λbo A outer s H E ds R hr h=>?_)
 have hu:=hr.units;refine ⟨_,(aw (aX (mw (jU "int" (U 0) rfl T.B.isinstance rfl T.B.int C3) (mw (C9 (jU "bool" (U 0) rfl T.B.isinstance rfl T.B.bool za)) (sP (El yw B2 aS (U 0) (U 1))))))),?_⟩;obtain ⟨i,n,rfl,q⟩:=h;refine ⟨_,rfl,rfl,true,rfl,eY ⟨_,rfl,rfl,false,rfl,true,rfl,eY ⟨_,rfl,?_⟩⟩⟩;refine ⟨_,rfl,pD (λh0=>⟨_,rfl,?_⟩) (λh0=>?_)⟩
 ·have h0:0≤i:=of_decide_eq_true h0
  show R (.bl (decide (i<n)));rw [show decide (i<n)=decide (0≤i∧i<n) by simp [h0]]
  exact q
 ·have h0:¬0≤i:=of_decide_eq_false h0
  rw [show decide (0≤i∧i<n)=false by simp [h0]] at q
  exact q
def mT:dF:=λds P=>∃(w:W),ds= [aR w]∧Good w∧1≤w.length∧w.length≤14∧P .aI
theorem AB{w:W}{j:Nat}{d:D}(h:(fN (w.map aH))[j]? =some d):j<w.length∧d= .tup [.int (j:Int),aH (row w j)]:=by
 obtain ⟨x,hx,rfl⟩:=jV h;obtain ⟨r,hr,rfl⟩:=dj hx;have hj:j<w.length:=(bV.mp hr).1;refine ⟨hj,?_⟩;rw [Lh hr]
theorem sD:FnOk P w Z.K mg base bY 2 T.d_alien_fault.f T.d_alien_fault.fd ["rows"] (aZ Z mT):=by
 have nd:=kC.nd;refine bN T.d_alien_fault.F kC [0,0,0,0] (by decide) (λds R h=>by obtain ⟨_,rfl,_⟩:=h;rfl) (λbo A outer s H E ds R hr h=>?_)
 have hu:=hr.units
 refine ⟨_,(ax (eO rfl PassesOwn.never (gy rfl T.B.enumerate (af (U 0) au)) (hZ 2 rfl (bx (aV 1 nd) (bx (aV 2 nd) eQ))) (aw (eO rfl PassesOwn.never (cv (U 2)) (aV 3 nd) (aw (cD (gv (gw (bJ T.d_is_among (yC T) hr (af (U 3) (af (bw fK rfl T.B.len fg (af (U 0) au)) au))))) (aw (aX (fM (af oV (af (U 1) (af (U 3) au)))))) bz)))))
   (aw (aX gr))),?_⟩
 obtain ⟨w',rfl,g,h1,cK,q⟩:=h;refine ⟨_,rfl,cJ (λ_ ρ=>∃o1 o2 o3,ρ= [some (aR w'),o1,o2,o3]) ⟨_,_,_,rfl⟩ ?_ ?_⟩
 ·rintro j d _ hd ⟨o1,o2,o3,rfl⟩ A hA
  obtain ⟨hj,rfl⟩:=AB hd;refine ⟨rfl,rfl,?_⟩;refine ⟨_,rfl,cJ (λ_ ρ=>∃o3,ρ= [some (aR w'),some (.int (j:Int)),some (aH (row w' j)),o3]) ⟨_,rfl⟩ ?_ ?_⟩
  ·rintro k d' _ hk ⟨o4,rfl⟩ A' GU
   obtain ⟨x,hx,rfl⟩:=dj hk;refine ⟨_,rfl,_,rfl,_,_,rfl,⟨rfl,?_⟩⟩;have bq:x<w'.length:=g.rng _ _ (cT hx);rw [show decide ((0:Int)≤(x:Int)∧(x:Int)<((w'.map aH).length:Int))=true by simp;omega]
   exact dh (GU _ ⟨_,rfl⟩)
  ·rintro _ ⟨o4,rfl⟩
   exact hA _ ⟨_,_,_,rfl⟩
 ·rintro _ ⟨o1,o2,o3,rfl⟩
  exact q
theorem uA:FnOk P w Z.K mg base bY 1 T.d_self_fault.f T.d_self_fault.fd ["rows"] (aZ Z mT):=by
 have nd:=lT.nd;refine bN T.d_self_fault.F lT [0,0,0] (by decide) (λds R h=>by obtain ⟨_,rfl,_⟩:=h;rfl) (λbo A outer s H E ds R hr h=>?_)
 have hu:=hr.units
 refine ⟨_,(ax (eO rfl PassesOwn.never (gy rfl T.B.enumerate (af (U 0) au)) (hZ 2 rfl (bx (aV 1 nd) (bx (aV 2 nd) eQ))) (aw (cD (cg HX (U 1) (U 2) (by with_unfolding_all rfl)) (aw (aX (fM (af oV (af (U 1) (af (U 1) au)))))) bz)))
   (aw (aX gr))),?_⟩
 obtain ⟨w',rfl,g,h1,cK,q⟩:=h;refine ⟨_,rfl,cJ (λ_ ρ=>∃o1 o2,ρ= [some (aR w'),o1,o2]) ⟨_,_,rfl⟩ ?_ ?_⟩
 ·rintro j d _ hd ⟨o1,o2,rfl⟩ A hA
  obtain ⟨hj,rfl⟩:=AB hd;refine ⟨rfl,rfl,?_⟩;refine ⟨_,rfl,_,rfl,rfl,gd _,_,rfl,?_⟩
  have e:inD (.int (j:Int)) ((row w' j).map aB)=false:=by
   have:=pB (r:=row w' j) (p:=j)
   rw [decide_eq_false (g.irr j)] at this;exact this
  rw [if_neg cB,e];exact dh (hA _ ⟨_,_,rfl⟩)
 ·rintro _ ⟨o1,o2,rfl⟩
  exact q
theorem Ba{α:Type}(l:List α)(k:Nat)(h:k≤l.length):cutD l none (some (k:Int))=l.take k:=by
 unfold cutD;have e1:HT.bD l.length 0 none=0:=rfl
 have e2:HT.bD l.length l.length (some (k:Int))=k:=by
  simp only [HT.bD]
  split<;>omega
 rw [e1,e2];simp
theorem sH:FnOk P w Z.K mg base bY 1 T.d_twice_fault.f T.d_twice_fault.fd ["rows"] (aZ Z mT):=by
 have nd:=kF.nd;refine bN T.d_twice_fault.F kF [0,0,0,0,0] (by decide) (λds R h=>by obtain ⟨_,rfl,_⟩:=h;rfl) (λbo A outer s H E ds R hr h=>?_)
 have hu:=hr.units
 refine ⟨_,(ax (eO rfl PassesOwn.never (gy rfl T.B.enumerate (af (U 0) au)) (hZ 2 rfl (bx (aV 1 nd) (bx (aV 2 nd) eQ))) (aw (eO rfl PassesOwn.never (gy rfl T.B.enumerate (af (U 2) au)) (hZ 2 rfl (bx (aV 3 nd) (bx (aV 4 nd) eQ))) (aw (cD (cg HX (U 4) (En (U 2) Gs (Gu (U 3))) (by with_unfolding_all rfl)) (aw (aX (fM (af oV (af (U 1) (af (U 4) au)))))) bz)))))
   (aw (aX gr))),?_⟩
 obtain ⟨w',rfl,g,h1,cK,q⟩:=h;refine ⟨_,rfl,cJ (λ_ ρ=>∃o1 o2 o3 o4,ρ= [some (aR w'),o1,o2,o3,o4]) ⟨_,_,_,_,rfl⟩ ?_ ?_⟩
 ·rintro j d _ hd ⟨o1,o2,o3,o4,rfl⟩ A hA
  obtain ⟨hj,rfl⟩:=AB hd;refine ⟨rfl,rfl,?_⟩;refine ⟨_,rfl,cJ (λ_ ρ=>∃o3 o4,ρ= [some (aR w'),some (.int (j:Int)),some (aH (row w' j)),o3,o4]) ⟨_,_,rfl⟩ ?_ ?_⟩
  ·rintro k d' _ hk ⟨o5,o6,rfl⟩ A' GU
   obtain ⟨y,hy,rfl⟩:=jV hk;obtain ⟨x,hx,rfl⟩:=dj hy;have fP:k<(row w' j).length:=(bV.mp hx).1;refine ⟨rfl,rfl,?_⟩;refine ⟨_,rfl,_,rfl,_,rfl,?_⟩;have ec:cutD ((row w' j).map aB) none (some (k:Int))=((row w' j).take k).map aB:=by rw [Ba _ _ (by simp;omega),List.map_take]
   refine (?_:JH false (aB x) (.lst (cutD ((row w' j).map aB) none (some (k:Int)))) _);rw [ec];refine ⟨rfl,gd _,_,rfl,?_⟩
   have e:inD (aB x) (((row w' j).take k).map aB)=false:=by
    rw [pB,decide_eq_false];intro z;obtain ⟨m,hm⟩:=fZ z
    have BB:m<k:=by
     have:=(bV.mp hm).1
     rw [jg] at this;omega
    rw [D9 BB] at hm;exact absurd ((List.getElem?_inj (by omega) (g.nod j)).mp (hm.trans hx.symm)) (by omega)
   rw [if_neg cB,e];exact dh (GU _ ⟨_,_,rfl⟩)
  ·rintro _ ⟨o5,o6,rfl⟩
   exact hA _ ⟨_,_,_,_,rfl⟩
 ·rintro _ ⟨o1,o2,o3,o4,rfl⟩
  exact q
theorem uy:FnOk P w Z.K mg base bY 1 T.d_lone_fault.f T.d_lone_fault.fd ["rows"] (aZ Z mT):=by
 have nd:=lR.nd;refine bN T.d_lone_fault.F lR [0,0,0,0] (by decide) (λds R h=>by obtain ⟨_,rfl,_⟩:=h;rfl) (λbo A outer s H E ds R hr h=>?_)
 have hu:=hr.units
 refine ⟨_,(ax (eO rfl PassesOwn.never (gy rfl T.B.enumerate (af (U 0) au)) (hZ 2 rfl (bx (aV 1 nd) (bx (aV 2 nd) eQ))) (aw (eO rfl PassesOwn.never (cv (U 2)) (aV 3 nd) (aw (cD (cg wR (U 1) (dQ (U 0) (U 3)) (by with_unfolding_all rfl)) (aw (aX (fM (af oV (af (U 1) (af (U 3) au)))))) bz)))))
   (aw (aX gr))),?_⟩
 obtain ⟨w',rfl,g,h1,cK,q⟩:=h;refine ⟨_,rfl,cJ (λ_ ρ=>∃o1 o2 o3,ρ= [some (aR w'),o1,o2,o3]) ⟨_,_,_,rfl⟩ ?_ ?_⟩
 ·rintro j d _ hd ⟨o1,o2,o3,rfl⟩ A hA
  obtain ⟨hj,rfl⟩:=AB hd;refine ⟨rfl,rfl,?_⟩;refine ⟨_,rfl,cJ (λ_ ρ=>∃o3,ρ= [some (aR w'),some (.int (j:Int)),some (aH (row w' j)),o3]) ⟨_,rfl⟩ ?_ ?_⟩
  ·rintro k d' _ hk ⟨o4,rfl⟩ A' GU
   obtain ⟨x,hx,rfl⟩:=dj hk;have SK:=cT hx;have bq:x<w'.length:=g.rng _ _ SK;refine ⟨_,rfl,_,rfl,_,rfl,_,f7 (uZ bq),rfl,gd _,_,rfl,?_⟩
   have e:inD (.int (j:Int)) ((row w' x).map aB)=true:=by
    have:=pB (r:=row w' x) (p:=j)
    rw [decide_eq_true (g.sym _ _ SK)] at this;exact this
   rw [if_pos rfl,e];exact dh (GU _ ⟨_,rfl⟩)
  ·rintro _ ⟨o4,rfl⟩
   exact hA _ ⟨_,_,_,rfl⟩
 ·rintro _ ⟨o1,o2,o3,rfl⟩
  exact q
def tL(bs:List Bool):List D:=bs.map D.bl
theorem FX{bs:List Bool}{i:Nat}{b:Bool}(h:bs[i]? =some b):(tL bs)[i]? =some (.bl b):=by unfold tL;rw [bH,h];rfl
theorem zd(bs:List Bool)(i:Nat)(b:Bool):(tL bs).set i (.bl b)=tL (bs.set i b):=by unfold tL;rw [List.map_set]
theorem zc(bs:List Bool):(tL bs).length=bs.length:=aM _
theorem wG{n k:Nat}(h:k<n):iF n (k:Int)=some k:=by unfold iF;rw [if_pos (by omega),if_pos (by omega)];simp
def Cy:dF:=λds P=>∃(w:W),ds= [aR w]∧Good w∧1≤w.length∧w.length≤14∧P (.lst (tL (List.replicate w.length true)))
theorem j5:FnOk P w Z.K mg base bY 1 T.d_reached_from_first.f T.d_reached_from_first.fd ["rows"] (aZ Z Cy):=by
 have nd:=fU.nd;refine bN T.d_reached_from_first.F fU [0,1,1,0,0] (by decide) (λds R h=>by obtain ⟨_,rfl,_⟩:=h;rfl) (λbo A outer s H E ds R hr h=>?_)
 have hu:=hr.units
 refine ⟨_,(ax (Es 1 (NC:= ["row"]) (src:= [none]) rfl nd (vA (ao cz)) trivial (cv (U 0)) (λ_ _ _=>(cG 0 (show (["row"]:List Str).Nodup from by decide+kernel))) (λ_ _ _=>gB) (λ_ _ _=>jj))
   (ax (v8 false 1 aS jj)
   (ax (sQ 2 nd (oX (af aS au)))
   (ax (v9 PassesOwn.never (gw (U 2)) (ax (JQ 3 2 nd)
   (aw (eO rfl PassesOwn.never (cv (dQ (U 0) (U 3))) (aV 4 nd) (aw (cD (gv (gw (dQ (U 1) (U 4)))) (ax (v8 false 1 (U 4) jj)
   (aw (Dg false 2 (U 4)))) bz))))))
   (aw (aX (U 1))))))),?_⟩
 obtain ⟨w',rfl,g,h1,cK,q⟩:=h;refine ⟨_,rfl,pG (ρ:= [none]) aH (λ_=> .bl false) w' _ (λy hy Y h=>h) rfl (small (by omega)) λaE=>?_⟩
 have e0:w'.map (λ_=>D.bl false)=tL (List.replicate w'.length false):=by unfold tL;rw [List.map_replicate,List.map_const']
 rw [e0];refine ⟨trivial,_,rfl,0,0,rfl,by rw [zc,r9];exact wG (k:=0) (by omega),?_⟩
 rw [zd];refine ⟨by show 1≤sizeLine;decide,?_⟩
 refine u0 (λm ρ=>∃(bs:List Bool)(ws:List Nat)(o3 o4:Option D),ρ= [some (aR w'),some (.lst (tL bs)),some (.lst (ws.map aB)),o3,o4]∧RI w' bs ws [] m∧m≤14∧bs.count false+ws.length=m) w'.length ?_ ?_
 ·refine ⟨_,[0],none,none,rfl,⟨by simp,?_,?_,λx hx=>?_,?_⟩,cK,?_⟩
  ·rw [qg,if_pos rfl,if_pos (by rw [r9];omega)]
  ·intro x hx
   have:x=0:=by simpa using hx
   rw [this,qg,if_pos rfl,if_pos (by rw [r9];omega)]
  ·by_cases e:0=x
   ·exact .inl (by rw [←e];simp)
   ·rw [qg,if_neg e,AK] at hx
    split at hx<;>cases hx
  ·rw [List.count_set (by rw [r9];omega),List.count_replicate_self,List.getElem_replicate]
   simp;omega
  ·rw [List.count_set (by rw [r9];omega),List.count_replicate_self,List.getElem_replicate]
   simp;omega
 ·rintro m _ ⟨bs,ws,o3,o4,rfl,ri,hc,RP⟩
  refine ⟨_,rfl,rfl,?_⟩
  rcases List.eq_nil_or_concat ws with rfl| ⟨Px,p,e⟩
  ·refine dh ?_
   have e:=ri.all g;rw [←e] at q;exact ⟨_,rfl,q⟩
  ·rw [List.concat_eq_append] at e
   subst e;rw [show xc (.lst ((Px++ [p]).map aB))=true by simp [xc]]
   refine eY ?_;rw [dE] at RP;simp only [List.length_singleton] at RP;obtain ⟨c',rfl⟩:∃c',m=c'+1:=⟨m-1,by omega⟩
   have ri2:=ri.pop;have hp:bs[p]? =some true:=ri.wt p (by simp)
   have BE:p<w'.length:=by rw [←ri.len];exact (bV.mp hp).1
   refine ⟨Px.map aB,aB p,by rw [dY];rfl,?_⟩
   refine ⟨_,rfl,_,rfl,_,f7 (uZ BE),cJ (λj ρ=>∃(oS:List Bool)(vW:List Nat)(o4:Option D),ρ= [some (aR w'),some (.lst (tL oS)),some (.lst (vW.map aB)),some (aB p),o4]∧RI w' oS vW [p] c'∧(∀k y,k<j→(row w' p)[k]? =some y→oS[y]? =some true)∧oS.count false+vW.length=c') ?_ ?_ ?_⟩
   ·exact ⟨bs,Px,_,rfl,ri2,(λk n hk=>by omega),by omega⟩
   ·rintro j x _ hx ⟨oS,vW,o5,rfl,IK,De,M6⟩ A hA
    obtain ⟨n,hn,rfl⟩:=dj hx;have Ol:=g.rng _ _ (cT hn);have J7:n<oS.length:=by rw [IK.len];exact Ol
    have G9:oS[n]? =some (oS[n]):=cN J7;refine ⟨_,rfl,_,rfl,_,f7 (FX G9),rfl,?_⟩;generalize oS[n]=bn at G9;cases bn with
    |true=>
     refine dh (hA _ ⟨oS,vW,_,rfl,IK,λk y hk hy=>?_,M6⟩)
     by_cases e:k=j
     ·rw [e,hn] at hy;cases hy;exact G9
     ·exact De k y (by omega) hy
    |false=>
     refine eY ?_;refine ⟨trivial,_,rfl,_,rfl,_,n,rfl,by rw [zc];exact wG J7,?_⟩
     rw [zd];have Le:=IK.push G9;have aac:=Le.cnt;refine ⟨_,rfl,_,rfl,trivial,ba (by rw [aM];omega),?_⟩
     have er:vW.map aB++ [aB n]=(vW++ [n]).map aB:=by rw [dY];rfl
     rw [er];refine hA _ ⟨oS.set n true,vW++ [n],_,rfl,Le,λk y hk hy=>?_,?_⟩
     ·rw [qg]
      by_cases e:n=y
      ·rw [if_pos e,if_pos J7]
      ·rw [if_neg e]
       refine De k y ?_ hy;apply Classical.byContradiction;intro z
       have:k=j:=by omega
       rw [this,hn] at hy;cases hy;exact e rfl
     ·obtain ⟨hl,he⟩:=bV.mp G9
      have:0<oS.count false:=List.count_pos_iff.mpr (by rw [←he];exact jN hl)
      rw [List.count_set hl,he,dE];simp;omega
   ·rintro _ ⟨oS,vW,o5,rfl,IK,De,M6⟩
    have Le:=IK.close λy hy=>by
     obtain ⟨k,hk⟩:=fZ hy;exact De k y (by rw [aM];exact (bV.mp hk).1) hk
    exact ⟨c',by omega,oS,vW,_,_,rfl,Le,by omega,M6⟩
theorem sE:FnOk P w Z.K mg base bY 2 T.d_apart_fault.f T.d_apart_fault.fd ["rows"] (aZ Z mT):=by
 have nd:=kD.nd;refine bN T.d_apart_fault.F kD [0,0,0] (by decide) (λds R h=>by obtain ⟨_,rfl,_⟩:=h;rfl) (λbo A outer s H E ds R hr h=>?_)
 have hu:=hr.units
 refine ⟨_,(ax (eO rfl PassesOwn.never (gy rfl T.B.enumerate (af (bJ T.d_reached_from_first (j5 T) hr (af (U 0) au)) au)) (hZ 2 rfl (bx (aV 1 nd) (bx (aV 2 nd) eQ))) (aw (cD (gv (gw (U 2))) (aw (aX (fM (af oV (af aS (af (U 1) au)))))) bz)))
   (aw (aX gr))),?_⟩
 obtain ⟨w',rfl,g,h1,cK,q⟩:=h;refine ⟨_,rfl,w',rfl,g,h1,cK,cJ (λ_ ρ=>∃o1 o2,ρ= [some (aR w'),o1,o2]) ⟨_,_,rfl⟩ ?_ ?_⟩
 ·rintro j d _ hd ⟨o1,o2,rfl⟩ A hA
  obtain ⟨y,hy,rfl⟩:=jV hd
  have ey:y= .bl true:=by
   obtain ⟨b,hb,rfl⟩:=dj hy
   have:=cT hb
   rw [List.mem_replicate] at this;rw [this.2]
  subst ey;refine ⟨rfl,rfl,?_⟩;exact ⟨_,rfl,rfl,dh (hA _ ⟨_,_,rfl⟩)⟩
 ·rintro _ ⟨o1,o2,rfl⟩
  exact q
theorem sF:FnOk P w Z.K mg base bY 3 T.d_first_fault.f T.d_first_fault.fd ["rows"] (aZ Z mT):=by
 have nd:=kE.nd;refine bN T.d_first_fault.F kE [0,0] (by decide) (λds R h=>by obtain ⟨_,rfl,_⟩:=h;rfl) (λbo A outer s H E ds R hr h=>?_)
 have hu:=hr.units
 refine ⟨_,(ax (gu false 1 nd (bJ T.d_alien_fault (sD T) hr (af (U 0) au)))
   (ax (cD (cg yv (U 1) gr (bu _)) (aw (gu false 1 nd (bJ T.d_self_fault (uA T) hr (af (U 0) au)))) bz)
   (ax (cD (cg yv (U 1) gr (bu _)) (aw (gu false 1 nd (bJ T.d_twice_fault (sH T) hr (af (U 0) au)))) bz)
   (ax (cD (cg yv (U 1) gr (bu _)) (aw (gu false 1 nd (bJ T.d_lone_fault (uy T) hr (af (U 0) au)))) bz)
   (ax (cD (cg yv (U 1) gr (bu _)) (aw (gu false 1 nd (bJ T.d_apart_fault (sE T) hr (af (U 0) au)))) bz)
   (aw (aX (U 1)))))))),?_⟩
 obtain ⟨w',rfl,g,h1,cK,q⟩:=h;have no:∀(u:cP)(E:eo)(ρ:DN)(te:aU),ρ[1]? =some (some .aI)→E.nx ρ→C6 (xJ (Ek (F5 false) (Gd 1) (dC .aI))) u F9 E ρ→True:=λ_ _ _ _ _ _ _=>trivial;refine ⟨_,rfl,w',rfl,g,h1,cK,trivial,?_⟩;refine ⟨_,rfl,_,rfl,eY ⟨_,rfl,w',rfl,g,h1,cK,trivial,?_⟩⟩;refine ⟨_,rfl,_,rfl,eY ⟨_,rfl,w',rfl,g,h1,cK,trivial,?_⟩⟩;refine ⟨_,rfl,_,rfl,eY ⟨_,rfl,w',rfl,g,h1,cK,trivial,?_⟩⟩;refine ⟨_,rfl,_,rfl,eY ⟨_,rfl,w',rfl,g,h1,cK,trivial,?_⟩⟩;exact ⟨_,rfl,q⟩
def Lo:dF:=λds P=>∃(w:W),ds= [.fw w]∧P (.int (w.length:Int))
theorem yA:FnOk P w Z.K mg base bY 1 T.m_many.f T.m_many.fd ["self"] (aZ Z Lo):=by
 have nd:=p4.nd;refine bN T.m_many.F p4 [0] (by decide) (λds R h=>by obtain ⟨_,rfl,_⟩:=h;rfl) (λbo A outer s H E ds R hr h=>?_)
 have hu:=hr.units;refine ⟨_,(aw (aX (bw fK rfl T.B.len fg (af (oU T.W (U 0)) au)))),?_⟩;obtain ⟨w',rfl,q⟩:=h;refine ⟨_,rfl,w',rfl,?_⟩;refine (?_:R (.int ((w'.map aH).length:Int)));rw [aM];exact q
def Jf:dF:=λds P=>∃(w:W),ds= [.fw w]∧w.length≤14∧P (aR w)
theorem vO:FnOk P w Z.K mg base bY 1 T.m_turns.f T.m_turns.fd ["self"] (aZ Z Jf):=by
 have nd:=nr.nd;refine bN T.m_turns.F nr [0] (by decide) (λds R h=>by obtain ⟨_,rfl,_⟩:=h;rfl) (λbo A outer s H E ds R hr h=>?_)
 have hu:=hr.units;refine ⟨_,(aw (aX (tR (NC:= ["row"]) (src:= [none]) rfl (vA (ao ie)) trivial (cv (oU T.W (U 0))) (λ_ _ _=>(cG 0 (show (["row"]:List Str).Nodup from by decide+kernel))) (λ_ _ _=>gB) (λ_ _ _=>(Bg F0 rfl T.B.list ju (af (U 0) au)))))),?_⟩
 obtain ⟨w',rfl,cK,q⟩:=h;exact ⟨_,rfl,w',rfl,pG (ρ:= [none]) aH aH w' _ (λy hy Y h=>⟨_,rfl,h⟩) rfl (small (by omega)) λaE=>q⟩
end AU
namespace L2
open PySem PySem.Spec PyProof.Rows
section
variable {Z:DC} {X:Cx} {md:List Nat} {rn:Nat} {a b e k:Expr} {pos:Pos} {ta tb te tk:aU} {t:ji}
variable {tg iter elt:Expr} {ifs:List Expr} {scope:Scope} {NC:List Str} {src:List (Option Nat)} {wi:iA} {g:dA} {tt:dB}
theorem NA(hc:X.calm=true)(c:bE X scope)(fC:dg scope X.N src NC)(hi:DI Z X tg iter wi)
  (hg:∀ex s H,DG Z (dG X scope NC ex s H) tg g) (ht:∀ex s H,AS Z (dG X scope NC ex s H) ifs tt) (he:∀ex s H,DE Z (dG X scope NC ex s H) elt te)
  (hs:∀x,foldedSetIterable iter X.env x=pure x:=by intro _;rfl):DF Z X 1 (.ListComp elt [⟨tg,iter,ifs,0⟩] scope pos) (NM wi g tt te src):=(Cc hc c fC hi hg ht he hs).imp zW
variable {B:Bs} {ρ:DN} {σ:St} {H G:Hp} {fp:Nat→List Addr}
end
section
variable {Z:DC} {X:Cx} {md:List Nat} {rn:Nat} {e:Expr} {pos p2:Pos} {te:aU} {t:ji} {lo hi:Option Expr} {tl th:AR}
def Nv(t:ji):cP:=λE ρ=>t ρ λds=>E.rt (.lst ds)
theorem GA(he:DF Z X rn e t):DSt Z X md rn (.Return (some e) pos) (Nv t):=(eV he).imp λD σ H ⟨B,ρ,E,⟨G,fp,S⟩,h,M⟩=>by
 let F:Addr→Prop:=λb=>∃i,b∈fp i
 have s:=S.ex.sub
 have x0:Ext B.G₀ B.H₀ (plus G H F) H:=⟨S.ex.gg.trans (ix s),jH s,S.ex.hh,λb hb hg=>by
  rw [dm (λ⟨i,hi⟩=>hb (S.nw i b hi).1)];exact S.ex.off b hb hg⟩
 refine ⟨plus G H F,ρ,_,jH s,⟨S.len,λi d h=>?_⟩,h,λds hd v f G' H' x o nd nw=>M.rt _ hd v f G' H' (x0.trans x) o nd λb hb=>⟨S.ex.hh.free (nw b hb).1,(nw b hb).2⟩⟩;obtain ⟨v,hv,o⟩:=S.at_ i d h;exact ⟨v,hv,o.dv (ix s) λb hb u e=>by rw [eE ⟨i,hb⟩];exact e⟩
end
section
variable {Z:DC} {X:Cx} {md:List Nat} {rn:Nat} {elt t0 i0 t1 i1:Expr} {f0 f1:List Expr} {scope:Scope} {pos:Pos} {wi fV:iA} {g g1:dA} {tt cX:dB} {te:aU} {src:List (Option Nat)} {NC:List Str}
end
section
variable {Z:DC} {X:Cx}
theorem pV(ns:List Int):∀n,n≤ns.length→preSum (λi=>ns.getD i 0) n=(ns.take n).sum
 |0,_=>by simp [preSum]
 |n+1,h=>by
  have:=pV ns n (by omega)
  rw [preSum,this,Js (by omega),List.sum_append,fW,cN (by omega)]
  simp
theorem A7(hc:X.calm=true):bQ X (.builtin "sum") (λxs H Q=>∃(p:Addr)(ns:List Int),xs= [.ref p]∧H p=some (.lst (ns.map V.int))∧Q (.int ns.sum) H):=by
 intro pins s σ H xs us Q I rv h;obtain ⟨p,ns,rfl,hp,q⟩:=h;obtain ⟨u,rfl,ru⟩:=rv.one;cases ru;obtain ⟨its,r,pl,hz⟩:=I.list (aD.of hp);have hl:=r.length;rw [aM] at hl;refine call_sum_walkG (wpAny_pyIter_list pl.isList ?_)
 have bq:p<s.heap.objs.size:=by
  obtain ⟨o,ho,_⟩:=pl.isList;exact Heap.lt_size ho
 have gP:p≠s.heap.objs.size:=bI bq;refine ⟨_,_,_,its.toArray.size,_,_,λi=>ns.getD i 0,rfl,Walks.list (show X.A.in1.handled=none from I.ok.hd hc) s.heap.objs.size p gP its.toArray,⟨⟨_,Heap.get?_push_size _ rfl,rfl,rfl⟩,pl.isList.push _⟩,?_,?_,λh' tk t' kk=>?_⟩
 ·intro b hb
  show b<(s.heap.push _).objs.size;rw [size_push'];simp only [cy,List.not_mem_nil,or_false] at hb
  rcases hb with rfl|rfl
  ·exact Nat.lt_succ_self _
  ·exact xo bq
 ·intro i v hv
  have qC:its[i]? =some v:=by simpa using hv
  have hi:i<its.length:=(bV.mp qC).1;obtain ⟨w,hw,oI⟩:=r.get (i:=i) (x:= .int (ns.getD i 0)) (by rw [bH,fW,cN (by omega)];rfl)
  rw [hw] at qC;cases qC;exact oI
 ·have kept:∀b o,s.heap.get? b=some o→h'.get? b=some o:=λb o e=>kk b o (by simp;exact bI (Heap.lt_size e)) (Heap.get?_push_of_some _ e)
  have e:preSum (λi=>ns.getD i 0) its.toArray.size=ns.sum:=by
   rw [dr,←hl,pV ns _ (aT _),nG (aT _)]
  rw [e];exact ⟨.int _,H,I.kept kept,⟨_,rfl⟩,q⟩
def Qe:dF:=λds P=>∃ns:List Int,ds= [.lst (ns.map D.int)]∧P (.int ns.sum)
theorem JE(hc:X.calm=true):bQ X (.builtin "sum") (gS Z Qe):=by
 refine (A7 hc).imp ?_;rintro xs H Q ⟨G,ds,P,s,dv,⟨ns,rfl,hp⟩,q⟩;cases dv with
 |cons a as=>
  cases as;cases a with
  |lst h e=>exact ⟨_,ns,rfl,by rw [←kW e];exact s _ _ h,q _ hp _ G H (.refl s) (.int _)⟩
theorem JC:bootBuiltins "sum"=some (.builtin "sum"):=by decide+kernel
end
theorem eu.ok{P:Program}{w:World}{H:Hp}{h:Heap}{a:Addr}{b:Bool}{es:List (Int×Addr)}(x:eu b a es h):cC P w H h a (.ext (eu b a es)):=by
 refine ⟨x,let ⟨o,_,_,_,ho,_⟩:=x;⟨o,ho⟩,λh1 h2 p k=>?_⟩;obtain ⟨o,eA,ep,t,ho,r⟩:=p;exact ⟨o,eA,ep,t,k o ho,r⟩
theorem fX.mem{H:Hp}:∀{es:List (Int×Addr)}{ps:List (Int×Int)},fX H es ps→∀e∈es,∃p∈ps,e.1=bO p∧H e.2=some (.tup [.int p.1, .int p.2])
 |_,_, .nil,e,he=>nomatch he
 |_,_, .cons (p:=p) h t,e,he=>by
  rcases cy.mp he with rfl|he
  ·exact ⟨p,b7 ..,rfl,h⟩
  ·obtain ⟨q,h1,h2⟩:=t.mem e he
   exact ⟨q,cm _ h1,h2⟩
theorem fX.Mw{H:Hp}:∀{es:List (Int×Addr)}{ps:List (Int×Int)},fX H es ps→∀p∈ps,∃a,(bO p,a)∈es∧H a=some (.tup [.int p.1, .int p.2])
 |_,_, .nil,p,hp=>nomatch hp
 |_,_, .cons (a:=a) h t,p,hp=>by
  rcases cy.mp hp with rfl|hp
  ·exact ⟨a,b7 ..,h⟩
  ·obtain ⟨a',h1,h2⟩:=t.Mw p hp
   exact ⟨a',cm _ h1,h2⟩
theorem fX.len{H:Hp}:∀{es:List (Int×Addr)}{ps:List (Int×Int)},fX H es ps→es.length=ps.length
 |_,_, .nil=>rfl
 |_,_, .cons _ t=>congrArg (·+1) t.len
theorem fX.snoc{H:Hp}{a:Addr}{p:Int×Int}(h:H a=some (.tup [.int p.1, .int p.2])):∀{es:List (Int×Addr)}{ps:List (Int×Int)},fX H es ps→fX H (es++ [(bO p,a)]) (ps++ [p])
 |_,_, .nil=> .cons h .nil
 |_,_, .cons h' t=> .cons h' (fX.snoc h t)
section
variable {X:Cx} {pins:List (Addr×Obj)} {σ:St} {H:Hp} {s:Shared}
theorem Inv.rL{a:Addr}{p:Int×Int}(I:Inv X pins σ H s)(h:H a=some (.tup [.int p.1, .int p.2])):IsTupleKey (intKind X.prog X.w) s.heap [p.1,p.2] a:=by
 obtain ⟨its,r,⟨o,ho,hc,n,hd⟩,_⟩:=I.tuple (cZ.of h);obtain ⟨u1,u2,rfl,⟨t,rfl⟩,⟨u,rfl⟩⟩:=Vals.two r;exact ⟨o,_,n,ho,hc,hd, .cons (by simp [intKind,Value.isInt]) (.cons (by simp [intKind,Value.isInt]) .nil)⟩
theorem Inv.nz{a:Addr}{b:Bool}{es:List (Int×Addr)}(I:Inv X pins σ H s)(h:H a=some (.ext (eu b a es))):eu b a es s.heap:=(I.hok a _ h).1
theorem j6(P:Program)(w:World)(p:Int×Int):tupleKeyHash (intKind P w) [p.1,p.2]=bO p:=rfl
theorem Inv.UG{es:List (Int×Addr)}{ps:List (Int×Int)}{eA:Array (Int×Value)}(I:Inv X pins σ H s)(pe:fX H es ps)(pm:eA.toList.Perm (es.map λe=>(e.1,Value.ref e.2))):FN X.prog X.w s.heap eA:=λi e he=>by
 have hm:e∈eA.toList:=by rw [←eG] at he;exact cT he
 obtain ⟨e',t4,rfl⟩:=bX.mp (pm.mem_iff.mp hm);obtain ⟨p,_,h1,h2⟩:=pe.mem e' t4;exact ⟨[p.1,p.2],e'.2,by rw [j6,h1],I.rL h2⟩
theorem Inv.lb{es:List (Int×Addr)}{ps:List (Int×Int)}{eA:Array (Int×Value)}(I:Inv X pins σ H s)(pe:fX H es ps)(pm:eA.toList.Perm (es.map λe=>(e.1,Value.ref e.2)))(p:Int×Int):
  (∃(i:Nat)(c:Addr),eA[i]? =some (tupleKeyHash (intKind X.prog X.w) [p.1,p.2], .ref c)∧IsTupleKey (intKind X.prog X.w) s.heap [p.1,p.2] c)↔p∈ps:=by
 constructor
 ·rintro ⟨i,c,h1,h2⟩
  have hm:(tupleKeyHash (intKind X.prog X.w) [p.1,p.2],Value.ref c)∈eA.toList:=by rw [←eG] at h1;exact cT h1
  obtain ⟨e',t4,e1⟩:=bX.mp (pm.mem_iff.mp hm);obtain ⟨q,hq,h3,h4⟩:=pe.mem e' t4
  have:e'.2=c:=by have:=(Prod.mk.inj e1).2;injection this
  rw [this] at h4
  have:=(I.rL h4).inj h2
  simp at this
  have:q=p:=Prod.ext this.1 this.2
  rw [←this];exact hq
 ·intro hp
  obtain ⟨a,h1,h2⟩:=pe.Mw p hp;have hm:(bO p,Value.ref a)∈eA.toList:=pm.mem_iff.mpr (bX.mpr ⟨_,h1,rfl⟩);obtain ⟨i,hi⟩:=List.mem_iff_getElem?.mp hm;rw [eG] at hi;exact ⟨i,a,by rw [j6];exact hi,I.rL h2⟩
theorem Fl{p pos:Pos}(hg:Gl X "set")(hm:X.mg "set"=none):PE X (.Call (.Name "set" p) [] [] pos) (λσ H Q=>∀q,H q=none→Q (.ref q) (upd H q (.ext (eu (fi X.w) q [])))):=by
 intro pins s σ H Q I h;refine wpAny_Call_Name_kw (j0 I hg hm (u:= .type "set") (by decide+kernel) ?_ (by decide) (by decide))
 refine PyProof.Rows.callWith_type rfl (PyProof.Rows.evalArgs_nil3 (xG ?_));have hn:=I.hok.fresh (aT _);exact ⟨.ref s.heap.objs.size,_,I.laid (t':=s.toks) (λb o e=>Heap.get?_push_of_some _ e) (aT _) (o:= .ext (eu (fi X.w) s.heap.objs.size [])) (eu.ok ⟨_,_,_,_,Heap.get?_push_size _ rfl,ko.new X.w, .refl _⟩),rfl,h _ hn⟩
theorem SR{a c:Addr}{es:List (Int×Addr)}{ps:List (Int×Int)}{p:Int×Int}{Q:Bool→Shared→Prop}{E:Value→Shared→Prop}(hu:X.A.units+64<cLine)(I:Inv X pins σ H s)(hc:H c=some (.tup [.int p.1, .int p.2]))(ha:H a=some (.ext (eu (fi X.w) a es)))(pe:fX H es ps)
  (h:∀tk,Q (decide (p∈ps)) {s with toks:=tk}):wpAny (model X.prog X.w) X.A (contains (.ref a) (.ref c)) Q E s:=by
 obtain ⟨o,eA,ep,t,ho,S,pm⟩:=I.nz ha;refine qd hu ho S (I.UG pe pm) (I.rL hc) λtk=>?_
 have:PySem.lb X.prog X.w s.heap eA [p.1,p.2]=decide (p∈ps):=by
  classical
  unfold PySem.lb;exact decide_eq_decide.mpr (I.lb pe pm p)
 rw [this];exact h tk
theorem Ca(hu:X.A.units+64<cLine):OpR X (compareOp .NotIn) (λx y H Q=>∃c a es ps p,x= .ref c∧y= .ref a∧H c=some (.tup [.int p.1, .int p.2])∧H a=some (.ext (eu (fi X.w) a es))∧fX H es ps∧Q (.bl (!decide (p∈ps))) H):=by
 intro pins s σ H x y v u Q I rx ry h;obtain ⟨c,a,es,ps,p,rfl,rfl,hc,ha,pe,q⟩:=h;cases rx;cases ry;show wpAny _ _ (do return Value.bool (!(←contains (.ref a) (.ref c))):Sem Value) _ _ s
 exact wpAny_bind (SR hu I hc ha pe λtk=>wpAny_pure ⟨.bl _,H,I.tok _,rfl,q⟩)
theorem HP(hu:X.A.units+64<cLine):Jx X "set.add" (λx vs H Q=>∃l c es ps p,x= .ref l∧vs= [.ref c]∧H c=some (.tup [.int p.1, .int p.2])∧H l=some (.ext (eu (fi X.w) l es))∧fX H es ps∧ps.length≤300∧
  (p∈ps→Q .aI H)∧(p∉ps→Q .aI (upd H l (.ext (eu (fi X.w) l (es++ [(bO p,c)])))))):=by
 intro pins s σ H x vs v us Q I rx rv h;obtain ⟨l,c,es,ps,p,rfl,rfl,hc,hl,pe,hz,q1,q2⟩:=h;cases rx;obtain ⟨u,rfl,ru⟩:=rv.one;cases ru;obtain ⟨o,eA,ep,t,ho,S,pm⟩:=I.nz hl;have hT:s.TypeIs (.ref l) "set":=⟨o,ho,S.ex.1⟩;refine wpAny_call_entry F.slot_set_add hT F.entry_set_add ?_ (F.args_set_add_2 _ _);unfold Builtin.«set.add» Builtin.Frozenset.oneOther;simp only [List.isEmpty_nil,bind_assoc];unfold Builtin.Frozenset.addrOf setAdd;refine wpAny_bind (wpAny_pure ?_)
 try dsimp only
 refine wpAny_bind (wpAny_pure ?_)
 try dsimp only
 refine wpAny_bind ?_;refine wpAny_holding ?_;have hk:=I.rL hc;refine wpAny_bind (wpAny_pyHash_tuple ?_ hk ?_)
 ·show X.A.units+1<cLine;omega
 have sz:eA.size=ps.length:=by
  have:=pm.length_eq
  rw [bW,aM,pe.len] at this;exact this
 refine yT (s:={s with toks:=s.toks+([p.1,p.2].length+1)}) (by show X.A.units+1<cLine;omega) ho S (I.UG pe pm) hk (by omega) (λhy=>?_) λhn h' o' jW xO t' sb jl S' pm'=>?_
 ·show wpAny _ _ (ret Value.none) _ _ _
  exact wpAny_pure ⟨_,rfl, .aI,H,I.tok _,rfl,q1 ((I.lb pe pm p).mp hy)⟩
 ·show wpAny _ _ (ret Value.none) _ _ _
  have Sj:p∉ps:=λz=>by
   obtain ⟨i,c',h1,h2⟩:=(I.lb pe pm p).mpr z;exact hn i _ h1 c' rfl h2
  have I':=I.write (h':=h') (t':=s.toks+([p.1,p.2].length+1)) (x:=l) (e:=l) (o:= .ext (eu (fi X.w) l (es++ [(bO p,c)]))) (by rw [hl];trivial) (.inl rfl) (λb u hb e=>sb.extBut b u hb e) ⟨o',jl⟩ (eu.ok ⟨o',jW,xO,t',jl,S',by
   rw [dY];exact pm'.trans (pm.append_right _)⟩)
  exact wpAny_pure ⟨_,rfl, .aI,_,I',rfl,q2 Sj⟩
def VC(b:Bool)(r:V→List V→Hp→VK→Prop)(to:TE)(t:TA):TE:=λσ H Q=>to σ H λx H1=>(∃p es,x= .ref p∧H1 p=some (.ext (eu b p es)))∧t σ H1 λxs H2=>r x xs H2 Q
variable {o e:Expr} {es:List Expr} {to:TE} {t:TA} {name:Str} {apos aL:Pos} {id:String} {r:V→List V→Hp→VK→Prop}
theorem KW{b:Bool}(pa:PlainAttrs "set")(slot:Slot "set" name id)(Ht:typeOf (.builtin id)=pure (.type "method_descriptor"))(hm:Jx X id r)(ho:PE X o to)(ha:PA X (e::es) t)
  (dD:attributeBase o name X.env (eval o X.env)=eval o X.env:=by rfl)
  (jy:((backTo aL (starEach (e::es) X.env)).all (λx=>!x.1)&&(backToKw aL (keywordEach [] X.env)).all (λx=>x.1.isSome)
   &&decide ((e::es).length+([]:List Keyword).length+(if ([]:List Keyword).isEmpty then 0 else 1)<30))=true:=by rfl)
  (cw:(apos.endLine==aL.line)=true:=by rfl) (hs:starEach (e::es) X.env=(false,eval e X.env)::starEach es X.env:=by rfl) (eS:(backTo aL (starEach es X.env)).any (·.1)=false:=by rfl):
  PE X (.Call (.Attribute o name apos) (e::es) [] aL) (VC b r to t):=by
 intro pins s σ H Q I h;refine wpAny_Call_method_late dD jy cw rfl (thn (ho pins s σ H _ I h) λv s1 ⟨x,H1,I1,r1,ty,q1⟩=>?_);obtain ⟨p,jW,rfl,hp⟩:=ty;cases r1;obtain ⟨oo,_,_,_,Sy,S,_⟩:=I1.nz hp;refine ⟨"set",id,pa,slot,Ht,⟨oo,Sy,S.ex.1⟩,λa ea=>?_,?_⟩
 ·cases ea;exact ⟨oo,Sy,S.ex.2.1⟩
 have hA:=ha aL pins s1 σ H1 _ I1 q1;rw [hs] at hA ⊢;refine Calls.callWith_builtin (by show (false|| (backTo aL (starEach es X.env)).any (·.1))=false;rw [eS]<;>rfl) (Calls.evalArgs_plain ?_)
 exact thn hA λus s2 ⟨vs,H2,I2,r2,q2⟩=>hm pins s2 σ H2 (.ref p) vs (.ref p) us Q I2 rfl r2 q2
end
def zK(ps:List (Int×Int))(p:Int×Int):List (Int×Int):=if p∈ps then ps else ps++ [p]
section
variable {Z:DC} {X:Cx} {B:Bs} {md:List Nat} {rn:Nat} {ρ:DN} {σ:St} {H G:Hp} {fp:Nat→List Addr} {a e k o:Expr} {ta te tk tp:aU} {pos apos aL p2:Pos}
def IC(p:Int×Int):D:= .tup [.int p.1, .int p.2]
theorem Dv.DB{v:V}{p:Int×Int}(h:Dv Z G v (IC p)):∃c,v= .ref c∧G c=some (.tup [.int p.1, .int p.2]):=by
 obtain ⟨c,xs,rfl,h1,h2⟩:=Dv.oz h;obtain ⟨v1,v2,rfl,d1,d2⟩:=h2.yz;rw [d1.ofInt,d2.ofInt] at h1;exact ⟨c,rfl,h1⟩
def QI(w:World)(neg:Bool):hC:=λa b P=>∃p ps,a=IC p∧b= .x (.pW (fi w) ps)∧P (.bl (if neg=true then !decide (p∈ps) else decide (p∈ps)))
theorem B3(hu:X.A.units+64<cLine):OpR X (compareOp .NotIn) (bZ Z (QI X.w true)):=by
 refine (Ca hu).imp ?_;rintro x y H Q ⟨G,a,b,P,s,da,db,⟨p,ps,rfl,rfl,h⟩,q⟩;obtain ⟨c,rfl,hc⟩:=da.DB;cases db with
 |x hp ok=>
  obtain ⟨_,es,rfl,pe⟩:=ok;exact ⟨c,_,es,ps,p,rfl,rfl,s _ _ hc,s _ _ hp,pe.mono s,q _ h _ G H (.refl s) (.bl _)⟩
def JL(w:World)(i:Nat):cP:=λE ρ=>E.nx (ρ.set i (some (.x (.pW (fi w) []))))
theorem Et(i:Nat){x:Str}{pos' p:Pos}(hN:X.N.Nodup)(hg:Gl X "set")(t7:X.mg "set"=none)(hm:md.getD i 0=98:=by rfl)(hi:X.N[i]? =some x:=by rfl)(hx:Loc X.env.scope x:=by first|exact Or.inl rfl|exact Or.inr rfl)(hs:swapsWith (.Call (.Name "set" p) [] [] p2) (some (.Name x pos')) pos.line X.env=pure false:=by rfl)
  (hf:X.fn x=true∨X.env.scope.names.lookup x=some .local:=by first|exact .inl rfl|exact .inr rfl|assumption):DSt Z X md rn (.Assign [.Name x pos'] (.Call (.Name "set" p) [] [] p2) pos) (JL X.w i):=by
 refine (bA hN hi hx (Fl hg t7) hs hf).imp ?_;rintro D σ H ⟨B,ρ,E,⟨G,fp,S⟩,h,M⟩;intro c hc;have gc:G c=none:=S.ex.sub.free hc;have x:Ext G H G (upd H c (.ext (eu (fi X.w) c []))):=⟨.refl _,S.ex.sub.trans (av hc _),av hc _,λ_ _ z=>z⟩;refine M.nx _ h _ _ ⟨G,_,(S.grow x).IW hm (f:= [c]) (.inr (.inr ⟨c,_,rfl,aa,rfl, .inr ⟨rfl,_,rfl,jO,[],rfl, .nil⟩⟩)) (by simp) (λb hb=>?_) λb hb j _ hj=>?_⟩
 ·rw [je] at hb;subst hb
  exact ⟨S.ex.hh.free hc,(by rw [aa];exact λz=>nomatch z),gc⟩
 ·rw [je] at hb;subst hb
  exact (S.nw j _ hj).2.1 hc
def Np(w:World)(md:List Nat)(m:Bool)(i:Nat)(te:aU):cP:=λE ρ=>∃ps,ρ[i]? =some (some (.x (.pW (fi w) ps)))∧te (CK md m ρ) λd=>∃p,d=IC p∧ps.length≤300∧E.nx (ρ.set i (some (.x (.pW (fi w) (zK ps p)))))
theorem Gw(m:Bool)(i:Nat){x:Str}{px:Pos}(hu:X.A.units+64<cLine)(he:DE Z X e te)(hm:md.getD i 0=98:=by rfl)(hi:X.N[i]? =some x:=by rfl)(hv:qs X.env.scope x:=by first|exact Or.inl rfl|exact Or.inr (Or.inl rfl) |exact Or.inr (Or.inr rfl))(hd:(x==("__debug__":Str))=false:=by decide)(fj:(x==("__classdict__":Str))=false:=by decide)
  (dD:attributeBase (.Name x px) "add" X.env (eval (.Name x px) X.env)=eval (.Name x px) X.env:=by rfl)
  (jy:((backTo aL (starEach [e] X.env)).all (λx=>!x.1)&&(backToKw aL (keywordEach [] X.env)).all (λx=>x.1.isSome)&&decide (([e]:List Expr).length+([]:List Keyword).length+(if ([]:List Keyword).isEmpty then 0 else 1)<30))=true:=by rfl)
  (cw:(apos.endLine==aL.line)=true:=by rfl) (hs:starEach [e] X.env=(false,eval e X.env)::starEach [] X.env:=by rfl) (eS:(backTo aL (starEach [] X.env)).any (·.1)=false:=by rfl)
  (n6:swapsWith (.Call (.Attribute (.Name x px) "add" apos) [e] [] aL) none pos.line X.env=pure false:=by rfl):
  DSt Z X md rn (.Expr (.Call (.Attribute (.Name x px) "add" apos) [e] [] aL) pos) (Np X.w md m i te):=by
 refine (cL (KW (b:=fi X.w) PySem.F.plainAttrs_set PySem.F.slot_set_add PySem.F.type_set_add (HP hu) (pv i hi hv hd fj) (ae he ar hs) dD jy cw hs eS) n6).imp ?_;rintro D σ H ⟨B,ρ,E,⟨G,fp,S⟩,⟨ps,h1,h⟩,M⟩;obtain ⟨v0,iU,o0⟩:=S.at_ i _ h1;rw [hm] at o0;obtain ⟨l,φ,rfl,hl,_,nd,es,rfl,pe⟩:=o0.xA;refine ⟨_,iU,⟨l,_,rfl,hl⟩,S.ev m h λd hd=>?_⟩;obtain ⟨p,rfl,hz,hn⟩:=hd;refine ⟨by cases m<;>trivial,λv G' H' S' x dv=>?_⟩
 obtain ⟨c,rfl,hc⟩:=dv.DB;obtain ⟨v1,Hv,o1⟩:=S'.at_ i _ h1;rw [iU] at Hv;cases Hv;rw [hm] at o1;obtain ⟨l',φ',e',BA,He,BY,jW,rfl,Iq⟩:=o1.xA;cases e';refine ⟨l,c,jW,ps,p,rfl,rfl,x.sub _ _ hc,BA,Iq.mono x.sub,hz,λhp=>?_,λhp=>?_⟩
 ·rw [zK,if_pos hp] at hn
  refine M.nx _ hn _ _ ⟨G',fp,?_⟩
  have e:ρ.set i (some (.x (.pW (fi X.w) ps)))=ρ:=by
   refine xn λj=>?_
   by_cases z:i=j
   ·subst z
    have bq:=(bV.mp h1).1;rw [mn bq,h1]
   ·rw [sg z]
  rw [e];exact S'
 ·rw [zK,if_neg hp] at hn
  refine M.nx _ hn _ _ ⟨G',fp,S'.mut iU (b:=l) (by rw [He];simp) ?_⟩
  rw [hm,He];refine .inr (.inr ⟨l,_,rfl,aa,rfl, .inr ⟨rfl,_,rfl,?_,_,rfl,Iq.snoc hc⟩⟩);rw [jf];refine ⟨BY,by simp,λa ha b hb z=>hp ?_⟩
  rw [je] at hb;rw [←hb,←z];exact ha
end
section
variable {Z:DC} {X:Cx}
def FT:dF:=λds P=>∃L:List (List Nat),ds= [.lst (L.map aH)]∧L.length≤1000∧∀M:List (List Nat),M.Perm L→M.Pairwise kv→P (.lst (M.map aH))
theorem JR{G:Hp}{v:V}{r:List Nat}(h:Dv Z G v (aH r)):∃a,v= .ref a∧G a=some (.lst ((gq r).map V.int)):=by
 obtain ⟨a,xs,rfl,h1,h2⟩:=Dv.lD h
 have:xs=(gq r).map V.int:=by
  have e:r.map aB=(gq r).map D.int:=by unfold gq;rw [dZ];rfl
  rw [e] at h2;exact kW h2
 rw [this] at h1;exact ⟨a,rfl,h1⟩
theorem Lf{G:Hp}{a:Addr}{r:List Nat}(h:G a=some (.lst ((gq r).map V.int))):Dv Z G (.ref a) (aH r):=by
 have e:aH r= .lst ((gq r).map D.int):=by unfold aH gq;rw [dZ];rfl
 rw [e];exact .lst h (.ints _)
theorem wa{G:Hp}:∀{vs:List V}{L:List (List Nat)},aq Z G vs (L.map aH)→∃A:List (Addr×List Nat),vs=A.map (λe=>V.ref e.1)∧A.map (·.2)=L∧xB G A
 |vs,[],h=>by cases h;exact ⟨[],rfl,rfl,λp hp=>by cases hp⟩
 |vs,r::L,h=>by
  cases h with
  |cons a as=>
   obtain ⟨A,h1,h2,h3⟩:=wa as;obtain ⟨p,rfl,hp⟩:=JR a;refine ⟨(p,r)::A,by rw [h1];rfl,by rw [←h2];rfl,λq hq=>?_⟩
   rcases cy.mp hq with rfl|hq
   ·exact hp
   ·exact h3 q hq
theorem xB.dv{G:Hp}:∀{L:List (Addr×List Nat)},xB G L→aq Z G (L.map λe=>V.ref e.1) ((L.map (·.2)).map aH)
 | [],_=> .nil
 |x::L,h=> .cons (Lf (h x (b7 ..))) (xB.dv λp hp=>h p (cm _ hp))
theorem A8(hu:X.A.units+64<cLine):bQ X (.builtin "sorted") (gS Z FT):=by
 refine (kR hu).imp ?_;rintro xs H Q ⟨G,ds,P,s,dv,⟨ns,rfl,hl,hp⟩,q⟩;cases dv with
 |cons a as=>
  cases as;cases a with
  | @lst p ik ds h e=>
   obtain ⟨L,rfl,h2,h3⟩:=wa e;have hL:L.length=ns.length:=by rw [←h2];simp
   refine ⟨_,L,rfl,aD.of (s _ _ h),λp hp=>s _ _ (h3 p hp),by omega,λp M hn m1 m2=>?_⟩
   have pm:(M.map (·.2)).Perm ns:=by rw [←h2];exact m1.map _
   have hM:xB (upd G p (.lst (M.map λe=>V.ref e.1))) M:=λx hx=>av (s.free hn) _ _ _ (h3 x (m1.mem_iff.mp hx));exact q _ (hp _ pm m2) _ _ _ (.new s hn) (.lst aa hM.dv)
end
section
variable {Z:DC} {X:Cx} {md:List Nat} {rn:Nat} {a b:Expr} {pos:Pos} {ta:hJ}
def QP(md:List Nat)(i j:Nat)(ta:hJ):cP:=λE ρ=>ta (cF md ρ) λds=>∃a b,ds= [a,b]∧E.nx ((ρ.set i (some a)).set j (some b))
theorem Dj(i j:Nat){x y:Str}{px py pt:Pos}{kt k2 Cj}(hc:X.calm=true)(hN:X.N.Nodup)(ha:DA Z X [a,b] ta)(hi:X.N[i]? =some x:=by rfl)(hj:X.N[j]? =some y:=by rfl)(cR:i≠j:=by decide)(hm:md.getD i 0=0:=by rfl)(EV:md.getD j 0=0:=by rfl)
  (hx:X.env.scope.names.lookup x=some .local:=by rfl) (hy:X.env.scope.names.lookup y=some .local:=by rfl)
  (hw:swappedStores [.Tuple [.Name x px, .Name y py] kt pt] (.Tuple [a,b] k2 Cj) X.env=pure (some [x,y]):=by rfl)
  (hs:swapsWithSole [.Tuple [.Name x px, .Name y py] kt pt] (.Tuple [a,b] k2 Cj) pos.line X.env=pure false:=by rfl):
  DSt Z X md rn (.Assign [.Tuple [.Name x px, .Name y py] kt pt] (.Tuple [a,b] k2 Cj) pos) (QP md i j ta):=by
 refine (K7 hc hN hi hj cR hx hy ha hw hs).imp ?_;rintro D σ H ⟨B,ρ,E,⟨G,fp,S⟩,h,M⟩;refine ⟨G,cF md ρ,_,S.ex.sub,S.zv,h,?_⟩;rintro _ ⟨a,b,rfl,hn⟩ vs G' H' x bh;obtain ⟨v,u,rfl,d1,d2⟩:=bh.yz;exact ⟨v,u,rfl,M.nx _ hn _ _ ⟨G',_,((S.grow x).nz hm d1).nz EV d2⟩⟩
end
theorem fh.ok{P:Program}{w:World}{H:Hp}{h:Heap}{a:Addr}{es:List (Int×Addr)}{vs:List FV}(x:fh a es vs h):cC P w H h a (.ext (fh a es vs)):=by
 refine ⟨x,let ⟨_,o,_,_,ho,_⟩:=x;⟨o,ho⟩,λh1 h2 p k=>?_⟩;obtain ⟨z,o,eA,ep,ho,r⟩:=p;exact ⟨z,o,eA,ep,k o ho,r⟩
inductive kN (H:Hp):List (Int×Addr)→List (Int×Int)→List FV→List (List Int×Addr×Value)→Prop
 |nil:kN H [] [] [] []
 |cons {a:Addr} {p:Int×Int} {v:FV} {u:Value} {es:List (Int×Addr)} {ks:List (Int×Int)} {vs:List FV} {xs:List (List Int×Addr×Value)}:H a=some (.tup [.int p.1, .int p.2])→Jw v u→kN H es ks vs xs→kN H ((bO p,a)::es) (p::ks) (v::vs) (([p.1,p.2],a,u)::xs)
theorem kN.keys{H:Hp}:∀{es:List (Int×Addr)}{ks:List (Int×Int)}{vs:List FV}{xs:List (List Int×Addr×Value)},kN H es ks vs xs→xs.map (·.1)=ks.map λp=> [p.1,p.2]
 |_,_,_,_, .nil=>rfl
 |_,_,_,_, .cons _ _ t=>by rw [fF,fF,t.keys]
theorem kN.len{H:Hp}:∀{es:List (Int×Addr)}{ks:List (Int×Int)}{vs:List FV}{xs:List (List Int×Addr×Value)},kN H es ks vs xs→xs.length=ks.length
 |_,_,_,_, .nil=>rfl
 |_,_,_,_, .cons _ _ t=>congrArg (·+1) t.len
theorem kN.snoc{H:Hp}{a:Addr}{p:Int×Int}{v:FV}{u:Value}(h0:H a=some (.tup [.int p.1, .int p.2]))(h:Jw v u):∀{es:List (Int×Addr)}{ks:List (Int×Int)}{vs:List FV}{xs:List (List Int×Addr×Value)},kN H es ks vs xs→kN H (es++ [(bO p,a)]) (ks++ [p]) (vs++ [v]) (xs++ [([p.1,p.2],a,u)])
 |_,_,_,_, .nil=> .cons h0 h .nil
 |_,_,_,_, .cons k' h' t=> .cons k' h' (kN.snoc h0 h t)
theorem rz(P:Program)(w:World)(p:Int×Int)(a:Addr)(u:Value):entryOfKey (tupleKind (intKind P w)) ([p.1,p.2],a,u)=⟨bO p, .ref a,u⟩:=by
 unfold entryOfKey;rw [show (tupleKind (intKind P w)).hash [p.1,p.2]=bO p from j6 P w p]
theorem NI{H:Hp}{l:List DictEntry}{es:List (Int×Addr)}{vs:List FV}(d:Ea l es vs):∀{ks:List (Int×Int)},fX H es ks→∃xs,kN H es ks vs xs∧∀(P:Program)(w:World),l=xs.map (entryOfKey (tupleKind (intKind P w))):=by
 induction d with
 |nil=>intro ks pe;cases pe;exact ⟨[], .nil,λ_ _=>rfl⟩
 | @cons e l h a v es vs h1 h2 h3 d ih=>
  intro ks pe;cases pe with
  | @cons _ p _ ps h t=>
   obtain ⟨xs,x1,x2⟩:=ih t;refine ⟨([p.1,p.2],a,e.val)::xs, .cons h h3 x1,λP w=>?_⟩;rw [fF,←x2 P w,rz];obtain ⟨eh,ek,ev⟩:=e;simp only at h1 h2 ⊢;rw [h1,h2]
theorem NL{P:Program}{w:World}{es:List (Int×Addr)}{ks:List (Int×Int)}{vs:List FV}{xs:List (List Int×Addr×Value)}{H:Hp}(d:kN H es ks vs xs):Ea (xs.map (entryOfKey (tupleKind (intKind P w)))) es vs:=by
 induction d with
 |nil=>exact .nil
 |cons _ h t ih=>
  rw [fF,rz];exact .cons rfl rfl h ih
theorem kN.isKey{H:Hp}{X:Cx}{pins:List (Addr×Obj)}{σ:St}{s:Shared}(I:Inv X pins σ H s){es:List (Int×Addr)}{ks:List (Int×Int)}{vs:List FV}{xs:List (List Int×Addr×Value)}(d:kN H es ks vs xs):∀x∈xs,IsTupleKey (intKind X.prog X.w) s.heap x.1 x.2.1:=by
 induction d with
 |nil=>intro x hx;cases hx
 |cons h _ _ ih=>
  intro x hx
  rcases cy.mp hx with rfl|hx
  ·exact I.rL h
  ·exact ih x hx
theorem kQ{K:Type} [DecidableEq K] {xs:List (K×Addr×Value)} {k:K}:(atKey xs k).isSome=true↔k∈xs.map (·.1):=by
 unfold atKey;rw [Option.isSome_map,List.find?_isSome,bX]
 constructor
 ·rintro ⟨x,hx,e⟩;exact ⟨x,hx,of_decide_eq_true e⟩
 ·rintro ⟨x,hx,e⟩;exact ⟨x,hx,decide_eq_true e⟩
theorem qP{p:Int×Int}{ks:List (Int×Int)}: [p.1,p.2]∈ks.map (λp=> [p.1,p.2])↔p∈ks:=by
 rw [bX]
 constructor
 ·rintro ⟨q,hq,e⟩
  simp at e;rw [←show q=p from Prod.ext e.1 e.2];exact hq
 ·intro h;exact ⟨p,h,rfl⟩
theorem z8{ks:List (Int×Int)}(h:ks.Nodup):(ks.map λp=> [p.1,p.2]).Nodup:=by
 rw [AI,jM];rw [AI] at h;exact h.imp λ {a b} n e=>n (by simp at e;exact Prod.ext e.1 e.2)
section
variable {X:Cx} {pins:List (Addr×Obj)} {σ:St} {H:Hp} {s:Shared}
theorem Inv.ND{a:Addr}{es:List (Int×Addr)}{ks:List (Int×Int)}{vs:List FV}(I:Inv X pins σ H s)(h:H a=some (.ext (fh a es vs)))(pe:fX H es ks)(nd:ks.Nodup):
  (a==sysModules)=false∧∃xs,kN H es ks vs xs∧s.heap.DictOfH (tupleKind (intKind X.prog X.w)) a xs:=by
 obtain ⟨z,o,eA,ep,ho,hx,hd,de⟩:=(I.hok a _ h).1;obtain ⟨xs,x1,x2⟩:=NI de pe;exact ⟨z,xs,x1,o,eA,ep,ho,hx,hd,x2 _ _,x1.isKey I,by rw [x1.keys];exact z8 nd⟩
theorem Kh{a c:Addr}{es:List (Int×Addr)}{ks:List (Int×Int)}{vs:List FV}{p:Int×Int}{Q:Value→Shared→Prop}{E:Value→Shared→Prop}(hu:X.A.units+64<cLine)(I:Inv X pins σ H s)(hc:H c=some (.tup [.int p.1, .int p.2]))(ha:H a=some (.ext (fh a es vs)))(pe:fX H es ks)(nd:ks.Nodup)
  (h:∀tk,Q (.bool (decide (p∈ks))) {s with toks:=tk}):wpAny (model X.prog X.w) X.A (compareOp .In (.ref c) (.ref a)) Q E s:=by
 obtain ⟨z,xs,x1,hm⟩:=I.ND ha pe nd;refine wpAny_in_heap (knd:=tupleKind (intKind X.prog X.w)) (k:= [p.1,p.2]) (by show X.A.units+1<cLine;omega) (I.rL hc) z hm ?_
 have:(atKey xs [p.1,p.2]).isSome=decide (p∈ks):=by
  by_cases e:p∈ks
  ·rw [decide_eq_true e];exact kQ.mpr (by rw [x1.keys];exact qP.mpr e)
  ·rw [decide_eq_false e]
   apply qi.mpr;exact λz=>e (qP.mp (by rw [←x1.keys];exact kQ.mp z))
 rw [this];exact h _
theorem Im(hu:X.A.units+64<cLine):OpR X (compareOp .In) (λx y H Q=>∃c a es ks vs p,x= .ref c∧y= .ref a∧H c=some (.tup [.int p.1, .int p.2])∧H a=some (.ext (fh a es vs))∧fX H es ks∧ks.Nodup∧Q (.bl (decide (p∈ks))) H):=by
 intro pins s σ H x y v u Q I rx ry h;obtain ⟨c,a,es,ks,vs,p,rfl,rfl,hc,ha,pe,nd,q⟩:=h;cases rx;cases ry;exact Kh hu I hc ha pe nd λtk=>⟨.bl _,H,I.tok _,rfl,q⟩
theorem Iu{pos:Pos}:PE X (.Dict [] [] pos) (λσ H Q=>∀q,H q=none→Q (.ref q) (upd H q (.ext (fh q [] [])))):=by
 intro pins s σ H Q I h;have hn:=I.hok.fresh (aT s.heap.objs.size);refine wpAny_Dict_empty ⟨.ref s.heap.objs.size,_,I.laid (a:=s.heap.objs.size) (t':=s.toks) (λ_ _ q=>Heap.get?_push_of_some _ q) (aT _) (o:= .ext (fh s.heap.objs.size [] [])) (fh.ok ⟨?_,_, #[],0,Heap.get?_push_size _ rfl,⟨rfl,rfl,rfl⟩,rfl, .nil⟩),rfl,h _ hn⟩;have hg:mainGlobals<s.heap.objs.size:=(I.mod.glob.keeps I.bk).lt;have hs:sysModules<s.heap.objs.size:=Nat.lt_trans (by decide) hg
 exact beq_eq_false_iff_ne.mpr (Ne.symm (bI hs))
def vF:FV→V
 | .int i=> .int i
 | .bl b=> .bl b
theorem JZ{f:FV}{u:Value}(h:RelV (vF f) u):Jw f u:=by
 cases f with
 |int i=>exact h
 |bl b=>exact h
variable {o i value:Expr} {td ti tv:TE} {pos pos':Pos}
def Pq(td ti tv:TE):TS:=λD σ H=>tv σ H λv H1=>td σ H1 λx H2=>ti σ H2 λy H3=>∃a c es ks vs p fv,x= .ref a∧y= .ref c∧v=vF fv∧H3 a=some (.ext (fh a es vs))∧H3 c=some (.tup [.int p.1, .int p.2])∧fX H3 es ks∧ks.Nodup∧p∉ks∧ks.length≤300∧D.nx σ (upd H3 a (.ext (fh a (es++ [(bO p,c)]) (vs++ [fv]))))
theorem ID(hu:X.A.units+64<cLine)(ho:PE X o td)(hi:PE X i ti)(hv:PE X value tv)(hs:swapsWith value (some (.Subscript o i pos')) pos.line X.env=pure false:=by rfl):PS X (.Assign [.Subscript o i pos'] value pos) (Pq td ti tv):=by
 intro pins s σ H D I h;refine wpAny_Assign_Subscript (thn (hv pins s σ H _ I h) λr s1 ⟨v,H1,I1,rv,q1⟩=>thn (ho pins s1 σ H1 _ I1 q1) λu s2 ⟨x,H2,I2,rx,q2⟩=>thn (hi pins s2 σ H2 _ I2 q2) λiv s3 ⟨y,H3,I3,ry,a,c,es,ks,vs,p,fv,e1,e2,e3,ha,hc,pe,nd,np,hz,q3⟩=>?_) hs;subst e1 e2 e3;cases rx;cases ry;obtain ⟨z,xs,x1,hm⟩:=I3.ND ha pe nd;refine wpAny_setItem_heap (knd:=tupleKind (intKind X.prog X.w)) (k:= [p.1,p.2]) (by show X.A.units+1<cLine;omega) (I3.rL hc) hm (λh' BB sb=>?_) (small (by rw [x1.len];omega))
 have na:atKey xs [p.1,p.2]=none:=by
  cases e:atKey xs [p.1,p.2] with
  |none=>rfl
  |some q=>exact absurd (qP.mp (by rw [←x1.keys];exact kQ.mp (by rw [e];rfl))) np
 rw [storedH_new na] at BB;have x2:kN H3 (es++ [(bO p,c)]) (ks++ [p]) (vs++ [fv]) (xs++ [([p.1,p.2],c,r)]):=x1.snoc hc (JZ rv);obtain ⟨o',Xj,xO,jl,vK,iT,t4,_,_⟩:=BB;have I':=I3.write (h':=h') (t':=s3.toks+(tupleKind (intKind X.prog X.w)).draws [p.1,p.2]) (x:=a) (e:=a) (o:= .ext (fh a (es++ [(bO p,c)]) (vs++ [fv]))) (by rw [ha];trivial) (.inl rfl) (λb u hb e=>sb.extBut b u hb e) ⟨o',jl⟩ (fh.ok ⟨z,o',Xj,xO,jl,vK,iT,by rw [t4];exact NL x2⟩)
 exact ⟨σ,_,I',q3⟩
end
section
variable {Z:DC} {X:Cx} {B:Bs} {md:List Nat} {rn:Nat} {ρ:DN} {σ:St} {H G:Hp} {fp:Nat→List Addr} {a e k o:Expr} {ta te tk tp:aU} {pos apos aL p2:Pos}
def QH(neg:Bool):hC:=λa b P=>∃p ks vs,a=IC p∧b= .x (.pT ks vs)∧P (.bl (if neg=true then !decide (p∈ks) else decide (p∈ks)))
theorem KI(hu:X.A.units+64<cLine):OpR X (compareOp .In) (bZ Z (QH false)):=by
 refine (Im hu).imp ?_;rintro x y H Q ⟨G,a,b,P,s,da,db,⟨p,ks,vs,rfl,rfl,h⟩,q⟩;obtain ⟨c,rfl,hc⟩:=da.DB;cases db with
 |x hp ok=>
  obtain ⟨nd,es,rfl,pe⟩:=ok;exact ⟨c,_,es,ks,vs,p,rfl,rfl,s _ _ hc,s _ _ hp,pe.mono s,nd,q _ h _ G H (.refl s) (.bl _)⟩
def Nr(i:Nat):cP:=λE ρ=>E.nx (ρ.set i (some (.x (.pT [] []))))
theorem Gy(i:Nat){x:Str}{pos':Pos}(hN:X.N.Nodup)(hm:md.getD i 0=98:=by rfl)(hi:X.N[i]? =some x:=by rfl)(hx:Loc X.env.scope x:=by first|exact Or.inl rfl|exact Or.inr rfl)(hs:swapsWith (.Dict [] [] p2) (some (.Name x pos')) pos.line X.env=pure false:=by rfl)
  (hf:X.fn x=true∨X.env.scope.names.lookup x=some .local:=by first|exact .inl rfl|exact .inr rfl|assumption):DSt Z X md rn (.Assign [.Name x pos'] (.Dict [] [] p2) pos) (Nr i):=by
 refine (bA hN hi hx Iu hs hf).imp ?_;rintro D σ H ⟨B,ρ,E,⟨G,fp,S⟩,h,M⟩;intro c hc;have gc:G c=none:=S.ex.sub.free hc;have x:Ext G H G (upd H c (.ext (fh c [] []))):=⟨.refl _,S.ex.sub.trans (av hc _),av hc _,λ_ _ z=>z⟩;refine M.nx _ h _ _ ⟨G,_,(S.grow x).IW hm (f:= [c]) (.inr (.inr ⟨c,_,rfl,aa,rfl, .inr ⟨rfl,_,rfl,jO,[],rfl, .nil⟩⟩)) (by simp) (λb hb=>?_) λb hb j _ hj=>?_⟩
 ·rw [je] at hb;subst hb
  exact ⟨S.ex.hh.free hc,(by rw [aa];exact λz=>nomatch z),gc⟩
 ·rw [je] at hb;subst hb
  exact (S.nw j _ hj).2.1 hc
def Ru:FV→D
 | .int i=> .int i
 | .bl b=> .bl b
theorem Dv.UC{v:V}{f:FV}(h:Dv Z G v (Ru f)):v=vF f:=by
 cases f with
 |int i=>exact h.ofInt
 |bl b=>exact h.MG
def Ny(md:List Nat)(i:Nat)(tk te:aU):cP:=λE ρ=>te (cF md ρ) λd=>∃fv ks vs,d=Ru fv∧ρ[i]? =some (some (.x (.pT ks vs)))∧tk (cF md ρ) λkd=>∃p,kd=IC p∧p∉ks∧ks.length≤300∧E.nx (ρ.set i (some (.x (.pT (ks++ [p]) (vs++ [fv])))))
theorem GB(i:Nat){x:Str}{px pos':Pos}(hu:X.A.units+64<cLine)(hk:DE Z X k tk)(he:DE Z X e te)(hm:md.getD i 0=98:=by rfl)(hi:X.N[i]? =some x:=by rfl)(hv:qs X.env.scope x:=by first|exact Or.inl rfl|exact Or.inr (Or.inl rfl) |exact Or.inr (Or.inr rfl))(hd:(x==("__debug__":Str))=false:=by decide)(fj:(x==("__classdict__":Str))=false:=by decide)
  (hs:swapsWith e (some (.Subscript (.Name x px) k pos')) pos.line X.env=pure false:=by rfl):DSt Z X md rn (.Assign [.Subscript (.Name x px) k pos'] e pos) (Ny md i tk te):=by
 refine (ID hu (pv i hi hv hd fj) hk he hs).imp ?_;rintro D σ H ⟨B,ρ,E,⟨G,fp,S⟩,h,M⟩;refine S.ev false h λd hd=>⟨trivial,λv G1 H1 S1 x1 dv=>?_⟩;obtain ⟨fv,ks,vs,rfl,h1,h2⟩:=hd;obtain rfl:=dv.UC;obtain ⟨v0,iU,o0⟩:=S1.at_ i _ h1;rw [hm] at o0;obtain ⟨l,φ,rfl,hl,_,nd,es,rfl,pe⟩:=o0.xA;refine ⟨_,iU,S1.ev false h2 λkd Se=>⟨trivial,λu G2 H2 S2 x2 du=>?_⟩⟩;obtain ⟨p,rfl,np,hz,hn⟩:=Se;obtain ⟨c,rfl,hc⟩:=du.DB;obtain ⟨v1,Hv,o1⟩:=S2.at_ i _ h1;rw [iU] at Hv;cases Hv;rw [hm] at o1;obtain ⟨l',φ',e',BA,He,BY,jW,rfl,Iq⟩:=o1.xA;cases e';refine ⟨l,c,jW,ks,vs,p,fv,rfl,rfl,rfl,BA,x2.sub _ _ hc,Iq.mono x2.sub,BY,np,hz,M.nx _ hn _ _ ⟨G2,fp,S2.mut iU (b:=l) (by rw [He];simp) ?_⟩⟩
 rw [hm,He];refine .inr (.inr ⟨l,_,rfl,aa,rfl, .inr ⟨rfl,_,rfl,?_,_,rfl,Iq.snoc hc⟩⟩);rw [jf];refine ⟨BY,by simp,λa ha b hb z=>np ?_⟩
 rw [je] at hb;rw [←hb,←z];exact ha
end
section
variable {prog:Program} {w:World} {KT:Type} [DecidableEq KT] {kd:HeapKind prog w KT}
theorem zU(a:Addr)(ha:(a==sysModules)=false):MeetsIn prog w (Builtin.«dict.__len__» ⟨[.ref a],[]⟩)
  (λ_ R s=>∃xs:List (KT×Addr×Value),Heap.DictOfH kd s.heap a xs∧R (.ok (.ret (.int xs.length s.toks))) {s with toks:=s.toks+1}):=by
 refine .of_wp λA R s ⟨xs,⟨o,es,ep,h1,h2,h3,h4,_⟩,q⟩=>?_;show wpAny _ _ (dictSize a>>=_) _ _ s;unfold dictSize;refine wpAny_bind (wpAny_bind (wpAny_dictEntries h1 h3 (wpAny_pure ?_)));refine wpAny_bind (m:=Builtin.Dict.pendingCount a) (wpAny_pendingCount_other ha ?_)
 have e:es.size=xs.length:=by
  have:=congrArg List.length h4
  rw [aM] at this;simpa using this
 refine wpAny_ret_mkInt ?_;rw [e,Nat.add_zero];exact q
theorem BQ{A:Around}{E:Value→Shared→Prop}{s:Shared}{a:Addr}{xs:List (KT×Addr×Value)}{Q:Value→Shared→Prop}(ha:(a==sysModules)=false)(hm:Heap.DictOfH kd s.heap a xs)(hz:(xs.length:Int)<2^63)
  (q:Q (.int xs.length (s.toks+1)) {s with toks:=s.toks+1+1}):wpAny (model prog w) A (call (.builtin "len") [.ref a]) Q E s:=by
 refine Calls.call_function_entry kind_len plain_len entry_len (args_len1 _) ?_;unfold Builtin.«len»;refine wpAny_bind (m:=oneArg "len" _) (wpAny_pure ?_);refine wpAny_bind (m:=callSpecial? (.ref a) (Str.ofString "__len__")) ?_;refine wpAny_callSpecial?_slot (name:=Str.ofString "__len__") hm.typeIs F.slot_dict_len ?_;refine call_meetsIn F.slot_dict_len hm.typeIs F.entry_dict_len (F.args_dict_len_1 _) (zU (kd:=kd) a ha) ⟨xs,hm,?_⟩;refine wpAny_bind (wpAny_holding (wpAny_pure (wpAny_bind (wpAny_letGo ?_))));have n0:¬((xs.length:Nat):Int)<0:=by omega
 have n1:¬((xs.length:Nat):Int)≥2^63:=by omega
 show wpAny _ _ (if ((xs.length:Nat):Int)<0 then _ else (if ((xs.length:Nat):Int)≥2^63 then _ else _)) _ _ _;rw [if_neg n0,if_neg n1];exact wpAny_bind (wpAny_mkInt (wpAny_pure ⟨_,rfl,q⟩))
end
section
variable {Z:DC} {X:Cx}
def M3:dF:=λds P=>∃ks vs,ds= [.x (.pT ks vs)]∧ks.length≤1000∧P (.int ks.length)
theorem FZ:bQ X (.builtin "len") (gS Z M3):=by
 intro pins s σ H xs us Q I rv h;obtain ⟨G,ds,P,sm,dv,⟨ks,vs,rfl,hz,hp⟩,q⟩:=h;cases dv with
 |cons a as=>
  cases as;cases a with
  |x hx ok=>
   obtain ⟨nd,es,rfl,pe⟩:=ok;obtain ⟨u,rfl,ru⟩:=rv.one;cases ru;obtain ⟨z,xs,d1,d2⟩:=I.ND (sm _ _ hx) (pe.mono sm) nd;have hl:=d1.len;refine BQ z d2 (by omega) ⟨.int ks.length,H,I.tok _,⟨_,by rw [hl]⟩,q _ hp _ G H (.refl sm) (.int _)⟩
end
section
variable {pr:Program} {wd:World} {A:Around} {R:Result→Shared→Prop} {y1:Addr} {cE qY:List Addr} {n:Nat} {Pv:Nat→Value→Prop} {Sv:Nat→Heap→Prop}
def AQ(pr:Program)(wd:World)(A:Around)(T:Heap→Prop)(Pv:Nat→Value→Prop)(bt:Nat→Nat→Bool):Prop:=
 ∀i j u v (s:Shared) (Q:Value→Shared→Prop) (E:Value→Shared→Prop),T s.heap→Pv i u→Pv j v→Q (.bool (bt i j)) s→wpAny (model pr wd) A (richCompare .Lt u v) Q E s
theorem BW(wk:Walks pr wd A.in1 y1 cE qY n Pv Sv)(bt:Nat→Nat→Bool)(T:Heap→Prop)(cmp:AQ pr wd A.in1 T Pv bt)(L:Addr)(nL:L∉cE)
  (kT:∀h h':Heap,T h→(∀b o,b∉qY→b≠L→h.get? b=some o→h'.get? b=some o)→T h'):
  ∀(d j:Nat)(s:Shared)(best:Value)(c:Nat),n-(j+1)=d→j+1≤n→Sv (j+1) s.heap→T s.heap→Pv (argBest bt j) best→
  s.heap.get? L=some {cls:= .type "list",dict:=none,data:= .seq #[best,best] c,slots:= #[]}→
  (∀v h' t,Pv (argBest bt (n-1)) v→(∀b o,b∉qY→b≠L→s.heap.get? b=some o→h'.get? b=some o)→R (.ok (.ret v)) {s with heap:=h',toks:=t})→
  codeAny (model pr wd) A (.builtin "min.loop" ⟨[.ref y1, .none, .ref L],[]⟩) R s:=by
 have nW:L∉qY:=λh=>nL (wk.sub _ h);have nm:(toString "min"++toString ".loop":String)="min.loop":=by decide
 intro d
 induction d with
 |zero=>
  intro j s best c hd hj q0 t0 pb hL fin;have en:j+1=n:=by omega
  refine codeAny_builtin PySem.F.entry_min_loop ?_;rw [Around.under_plainId PySem.F.plain_min_loop _];refine wpAny_bind (wpAny_seqItems hL rfl ?_);refine wpAny_bind (wpAny_tryCatch (wk.done s _ _ (en▸q0) λh1 t1 k1=>?_));show wpAny _ A.in1 ((updateSeq L (λ_=> #[]))>>=_) _ _ _;refine wpAny_bind ?_;refine wpAny_updateSeq (k1 L _ nW hL) rfl (wpAny_bind (wpAny_letGo (wpAny_pure ?_)));exact fin best _ t1 (by rw [←en];exact pb) λb o nb nl e=>(Heap.get?_update_other _ _ (Ne.symm nl)).trans (k1 b o nb e)
 |succ d ih=>
  intro j s best c hd hj q0 t0 pb hL fin;have lt:j+1<n:=by omega
  refine codeAny_builtin PySem.F.entry_min_loop ?_;rw [Around.under_plainId PySem.F.plain_min_loop _];refine wpAny_bind (wpAny_seqItems hL rfl ?_);refine wpAny_bind (wpAny_tryCatch (wk.item (j+1) s _ _ lt q0 λv h1 t1 pv q1 k1=>?_));have EG:=k1 L _ nW hL;have cX:T h1:=kT _ _ t0 λb o nb _ e=>k1 b o nb e;show wpAny _ A.in1 ((tryCatch (holding [v,v] (richCompare .Lt v best>>=_)) _)>>=_) _ _ _;refine wpAny_bind (wpAny_tryCatch (wpAny_holding (wpAny_bind (cmp (j+1) (argBest bt j) v best _ _ _ cX pv pb ?_))));refine wpAny_bind (wpAny_holding (wpAny_truthy_bool ?_));refine wpAny_bind (wpAny_letGo (wpAny_pure ?_));cases eb:bt (j+1) (argBest bt j) with
  |true=>
   simp only [if_true];refine wpAny_bind ?_;refine wpAny_updateSeq EG rfl (wpAny_bind (wpAny_letGo ?_));rw [nm];refine wpAny_pure ⟨plainId_quiet PySem.F.plain_min_loop _,ih (j+1) _ v _ (by omega) lt (wk.frame _ _ _ q1 λb hb o e=>?_) (kT _ _ cX λb o _ nl e=>?_) ?_ (Heap.get?_update_self _ EG rfl) λv2 h2 t2 p2 k2=>?_⟩
   ·exact (Heap.get?_update_other _ _ (λz:L=b=>nL (z▸hb))).trans e
   ·exact (Heap.get?_update_other _ _ (Ne.symm nl)).trans e
   ·simp only [argBest,eb,if_true];exact pv
   ·exact fin v2 h2 t2 p2 λb o nb nl e=>k2 b o nb nl ((Heap.get?_update_other _ _ (Ne.symm nl)).trans (k1 b o nb e))
  |false=>
   simp only [eH,if_false];refine wpAny_bind (wpAny_letGo ?_);rw [nm];refine wpAny_pure ⟨plainId_quiet PySem.F.plain_min_loop _,ih (j+1) _ best c (by omega) lt q1 cX ?_ EG λv2 h2 t2 p2 k2=>?_⟩
   ·simp only [argBest,eb,eH,if_false];exact pb
   ·exact fin v2 h2 t2 p2 λb o nb nl e=>k2 b o nb nl (k1 b o nb e)
theorem om(wk:Walks pr wd A.in1 y1 cE qY n Pv Sv)(bt:Nat→Nat→Bool)(T:Heap→Prop)(cmp:AQ pr wd A.in1 T Pv bt)(L:Addr)(nL:L∉cE)
  (kT:∀h h':Heap,T h→(∀b o,b∉qY→b≠L→h.get? b=some o→h'.get? b=some o)→T h') (hn:0<n) {s:Shared} {c:Nat} (q0:Sv 0 s.heap) (t0:T s.heap)
  (hL:s.heap.get? L=some {cls:= .type "list",dict:=none,data:= .seq #[] c,slots:= #[]})
  (fin:∀v h' t,Pv (argBest bt (n-1)) v→(∀b o,b∉qY→b≠L→s.heap.get? b=some o→h'.get? b=some o)→R (.ok (.ret v)) {s with heap:=h',toks:=t}):
  codeAny (model pr wd) A (.builtin "min.loop" ⟨[.ref y1, .none, .ref L],[]⟩) R s:=by
 have nW:L∉qY:=λh=>nL (wk.sub _ h);have nm:(toString "min"++toString ".loop":String)="min.loop":=by decide
 refine codeAny_builtin PySem.F.entry_min_loop ?_;rw [Around.under_plainId PySem.F.plain_min_loop _];refine wpAny_bind (wpAny_seqItems hL rfl ?_);refine wpAny_bind (wpAny_tryCatch (wk.item 0 s _ _ hn q0 λv h1 t1 pv q1 k1=>?_));have EG:=k1 L _ nW hL;have cX:T h1:=kT _ _ t0 λb o nb _ e=>k1 b o nb e;show wpAny _ A.in1 (updateSeq L (λ_=> #[v,v])>>=_) _ _ _;refine wpAny_bind ?_;refine wpAny_updateSeq EG rfl ?_;rw [nm];refine wpAny_pure ⟨plainId_quiet PySem.F.plain_min_loop _,BW wk bt T cmp L nL kT _ 0 _ v _ rfl hn (wk.frame _ _ _ q1 λb hb o e=>?_) (kT _ _ cX λb o _ nl e=>?_) pv (Heap.get?_update_self _ EG rfl) λv2 h2 t2 p2 k2=>?_⟩
 ·exact (Heap.get?_update_other _ _ (λz:L=b=>nL (z▸hb))).trans e
 ·exact (Heap.get?_update_other _ _ (Ne.symm nl)).trans e
 ·exact fin v2 h2 t2 p2 λb o nb nl e=>k2 b o nb nl ((Heap.get?_update_other _ _ (Ne.symm nl)).trans (k1 b o nb e))
end
section
variable {pr:Program} {wd:World} {A:Around} {E:Value→Shared→Prop} {s:Shared}
theorem E6{x:Value}{Q:Value→Shared→Prop}(T:Heap→Prop)
  (h:wpAny (model pr wd) A.in1 (pyIter x) (λit s2=>∃y1 cE qY n Pv Sv bt,it= .ref y1∧Walks pr wd A.in1 y1 cE qY n Pv Sv∧Sv 0 s2.heap∧(∀b∈cE,b<s2.heap.objs.size)∧0<n∧AQ pr wd A.in1 T Pv bt∧T s2.heap∧
   (∀h h':Heap,T h→(∀b o,b∉qY→b≠s2.heap.objs.size→h.get? b=some o→h'.get? b=some o)→T h')∧
   ∀v h' tk,Pv (argBest bt (n-1)) v→(∀b o,b∉qY→s2.heap.get? b=some o→h'.get? b=some o)→Q v {s2 with heap:=h',toks:=tk}) E s):
  wpAny (model pr wd) A (call (.builtin "min") [x]) Q E s:=by
 have nm:(toString "min"++toString ".loop":String)="min.loop":=by decide
 refine call_function_tree PySem.F.kind_min PySem.F.plain_min PySem.F.entry_min (PySem.F.args_min1 _) ?_;show wpAny _ A.in1 (Builtin.Builtins.bindParams "min" ["key","default"] 0 ⟨[],[]⟩>>=_) _ _ s;refine wpAny_bind (wpAny_of_eq (rfl:Builtin.Builtins.bindParams "min" ["key","default"] 0 ⟨[],[]⟩=pure [none,none]) ?_);refine wpAny_bind (wpAny_pure ?_);refine wpAny_bind (wpAny_mono h (λit s2 h2=>?_) λ_ _ e=>e);obtain ⟨y1,cE,qY,n,Pv,Sv,bt,rfl,wk,q0,hf,hn,cmp,t0,kT,hQ⟩:=h2;refine wpAny_bind (wpAny_newObj_type ?_);have nL:s2.heap.objs.size∉cE:=λhm=>nJ _ (hf _ hm);rw [nm];refine wpAny_pure ⟨plainId_quiet PySem.F.plain_min_loop _,om wk bt T cmp s2.heap.objs.size nL kT hn (wk.frame _ _ _ q0 λb _ o e=>Heap.get?_push_of_some _ e) (kT _ _ t0 λb o _ _ e=>Heap.get?_push_of_some _ e) (Heap.get?_push_size _ rfl) λv h' tk hP hk=>?_⟩;exact hQ v h' tk hP λb o XY e=>hk b o XY (bI (Heap.lt_size e)) (Heap.get?_push_of_some _ e)
end
theorem rf(bt:Nat→Nat→Bool):∀k,argBest bt k≤k
 |0=>aT _
 |k+1=>by
  unfold argBest
  split
  ·exact aT _
  ·exact Nat.le_succ_of_le (rf bt k)
theorem oR{f:Nat→List Int}:∀k i,i≤k→HT.lexLt (f i) (f (argBest (λi j=>HT.lexLt (f i) (f j)) k))=false
 |0,i,h=>by
  obtain rfl:i=0:=by omega
  exact lu _
 |k+1,i,h=>by
  have ih:=oR (f:=f) k;unfold argBest
  by_cases c:HT.lexLt (f (k+1)) (f (argBest (λi j=>HT.lexLt (f i) (f j)) k))=true
  ·rw [if_pos c]
   by_cases z:i=k+1
   ·subst z;exact lu _
   ·have:=ih i (by omega)
    cases e:HT.lexLt (f i) (f (k+1)) with
    |false=>rfl
    |true=>rw [sU _ _ _ e c] at this;cases this
  ·rw [if_neg c]
   by_cases z:i=k+1
   ·subst z;exact qi.mpr c
   ·exact ih i (by omega)
section
variable {X:Cx} {Z:DC}
theorem A5(hc:X.calm=true)(hu:X.A.units+64<cLine):bQ X (.builtin "min") (λxs H Q=>∃(p:Addr)(L:List (Addr×List Int)),xs= [.ref p]∧H p=some (.lst (L.map λe=>V.ref e.1))∧(∀e∈L,H e.1=some (.tup (e.2.map V.int)))∧L≠ []∧
  ∀e∈L,(∀f∈L,HT.lexLt f.2 e.2=false)→Q (.ref e.1) H):=by
 intro pins s σ H xs us Q I rv h;obtain ⟨p,L,rfl,hp,hL,Sm,q⟩:=h;obtain ⟨u,rfl,ru⟩:=rv.one;cases ru;obtain ⟨its,r,pl,hz⟩:=I.list (aD.of hp);have hl:=r.length;rw [aM] at hl;have Mq:0<L.length:=vp.mpr Sm
 have sA:∀i:Nat,(hi:i<L.length)→its[i]? =some (.ref L[i].1):=λi hi=>by
  obtain ⟨w,hw,oI⟩:=r.get (i:=i) (x:= .ref L[i].1) (by rw [bH,cN hi];rfl)
  cases oI;exact hw
 refine E6 (λh=>∀b o,s.heap.get? b=some o→h.get? b=some o) (wpAny_pyIter_list pl.isList ?_)
 have gP:p≠s.heap.objs.size:=by
  obtain ⟨o,ho,_⟩:=pl.isList;exact bI (Heap.lt_size ho)
 let f:Nat→List Int:=λi=>(L.getD i (0,[])).2
 refine ⟨_,_,_,its.toArray.size,_,_,λi j=>HT.lexLt (f i) (f j),rfl,Walks.list (show X.A.in1.handled=none from I.ok.hd hc) s.heap.objs.size p gP its.toArray,⟨⟨_,Heap.get?_push_size _ rfl,rfl,rfl⟩,pl.isList.push _⟩,?_,?_,?_,λb o e=>Heap.get?_push_of_some _ e,?_,?_⟩
 ·intro b hb
  have:b=s.heap.objs.size∨b=p:=by simpa using hb
  obtain ⟨o,ho,_⟩:=pl.isList;have lt:=Heap.lt_size ho;have e:(s.heap.push {cls:= .type "list_iterator",data:= .fields #[.ref p, .int 0 0]}).objs.size=s.heap.objs.size+1:=by simp [Heap.push]
  rcases this with rfl|rfl
  ·exact Nat.lt_of_lt_of_eq (Nat.lt_succ_self _) e.symm
  ·exact Nat.lt_of_lt_of_eq (xo lt) e.symm
 ·rw [dr];omega
 ·intro i j u v s' Q' E' hT Hu qC hq
  have Oz:its[i]? =some u:=by simpa using Hu
  have zJ:its[j]? =some v:=by simpa using qC
  have hi:i<L.length:=by have:=(bV.mp Oz).1;omega
  have hj:j<L.length:=by have:=(bV.mp zJ).1;omega
  rw [sA i hi] at Oz;rw [sA j hj] at zJ;cases Oz;cases zJ;obtain ⟨t1,r1,p1,_⟩:=I.tuple (cZ.of (hL L[i] (jN hi)));obtain ⟨t2,r2,p2,_⟩:=I.tuple (cZ.of (hL L[j] (jN hj)));obtain ⟨o1,g1,c1⟩:=p1;obtain ⟨o2,g2,c2⟩:=p2;have i1:IntsAre t1.toArray.toList L[i].2:=intsAre_of r1;have i2:IntsAre t2.toArray.toList L[j].2:=intsAre_of r2
  have ef:∀k,(hk:k<L.length)→f k=L[k].2:=λk hk=>by
   show (L.getD k (0,[])).2=_;rw [fW,cN hk];rfl
  have vI:Q' (.bool (HT.lexLt L[i].2 L[j].2)) s':=by rw [←ef i hi,←ef j hj];exact hq
  exact HT.zX (A:=X.A.in1) ⟨o1,hT _ _ g1,c1⟩ ⟨o2,hT _ _ g2,c2⟩ i1 i2 (by simp only [Around.in1_units];omega) vI
 ·intro h h' hT hk b o e
  have lt:=Heap.lt_size e;refine hk b o ?_ ?_ (hT b o e)
  ·intro hm
   have:b=s.heap.objs.size:=by simpa using hm
   exact bI lt this
  ·simp only [Heap.push,Array.size_push]
   exact bI (xo lt)
 ·intro v h' tk hP kk
  have kept:∀b o,s.heap.get? b=some o→h'.get? b=some o:=λb o e=>kk b o (by simp;exact bI (Heap.lt_size e)) (Heap.get?_push_of_some _ e)
  have hk:=rf (λi j=>HT.lexLt (f i) (f j)) (its.toArray.size-1);generalize hb:argBest (λi j=>HT.lexLt (f i) (f j)) (its.toArray.size-1)=k at hP hk;rw [dr] at hk;have Ob:k<L.length:=by omega
  have zJ:its[k]? =some v:=by simpa using hP
  rw [sA k Ob] at zJ;cases zJ;refine ⟨.ref L[k].1,H,I.kept kept,rfl,q L[k] (jN Ob) λe he=>?_⟩;obtain ⟨i,hi,rfl⟩:=List.mem_iff_getElem.mp he
  have:=oR (f:=f) (its.toArray.size-1) i (by rw [dr];omega)
  rw [hb] at this
  have ef:∀k,(hk:k<L.length)→f k=L[k].2:=λk hk=>by
   show (L.getD k (0,[])).2=_;rw [fW,cN hk];rfl
  rw [ef i hi,ef k Ob] at this;exact this
def tupI(l:List Int):D:= .tup (l.map D.int)
def M4:dF:=λds P=>∃ls:List (List Int),ds= [.lst (ls.map tupI)]∧ls≠ []∧∀m∈ls,(∀n∈ls,HT.lexLt n m=false)→P (tupI m)
theorem wc{G:Hp}:∀{vs:List V}{ns:List (List Int)},aq Z G vs (ns.map tupI)→∃L:List (Addr×List Int),vs=L.map (λe=>V.ref e.1)∧L.map (·.2)=ns∧∀e∈L,G e.1=some (.tup (e.2.map V.int))
 |vs,[],h=>by rw [h.HY];exact ⟨[],rfl,rfl,λp hp=>by cases hp⟩
 |vs,n::ns,h=>by
  obtain ⟨v,us,rfl,a,as⟩:=h.sV;obtain ⟨L,rfl,h2,h3⟩:=wc as;obtain ⟨p,xs,rfl,hp,e⟩:=a.oz;rw [kW e] at hp;refine ⟨(p,n)::L,rfl,by rw [←h2];rfl,λq hq=>?_⟩
  rcases cy.mp hq with rfl|hq
  ·exact hp
  ·exact h3 q hq
theorem F2(hc:X.calm=true)(hu:X.A.units+64<cLine):bQ X (.builtin "min") (gS Z M4):=by
 refine (A5 hc hu).imp ?_;rintro xs H Q ⟨G,ds,P,s,dv,⟨ls,rfl,gP,hp⟩,q⟩;obtain ⟨v,rfl,a⟩:=dv.ofOne;obtain ⟨p,vs,rfl,h,e⟩:=a.lD;obtain ⟨L,rfl,rfl,h3⟩:=wc e;refine ⟨p,L,rfl,s _ _ h,λx hx=>s _ _ (h3 x hx),λz=>gP (by rw [z];rfl),λx hx hm=>?_⟩
 exact q _ (hp x.2 (List.mem_map_of_mem hx) λn hn=>by
  obtain ⟨y,hy,rfl⟩:=bX.mp hn;exact hm y hy) _ G H (.refl s) (.tup (h3 x hx) (.ints _))
end
section
variable {Z:DC} {X:Cx} {B:Bs} {md:List Nat} {rn:Nat} {ρ:DN} {σ:St} {H G:Hp} {fp:Nat→List Addr} {e k:Expr} {pos p2 apos aL:Pos} {tp te:aU} {t:ji}
def Ro(t:ji):ji:=λρ P=>t ρ λa=>P [.lst a]
theorem JO(ha:DF Z X 1 e t)(hs:starEach [e] X.env=(false,eval e X.env)::starEach [] X.env:=by rfl):DF Z X 2 (.List [e] pos) (Ro t):=by
 refine (cY (ae ha ar hs)).imp ?_;rintro σ H Q ⟨G,ρ,P,s,en,h,q⟩;refine ⟨G,ρ,_,s,en,h,λl1 h1 v1 f1 G1 H1 x1 o1 BZ KG=>⟨by show 1≤sizeLine;decide,λp hp=>?_⟩⟩
 have n1:∀b∈f1,b≠p:=λb hb z=>(KG b hb).2.1 (by rw [z];exact hp)
 refine q _ h1 (.ref p) (p::(f1++ [])) G1 _ (x1.side hp) (.inl ⟨p,[v1],_,_,rfl,rfl,aa,rfl, .cons (o1.keep (.refl _) λb hb=>ab (n1 b hb)) .nil⟩) ?_ ?_
 ·rw [jh,iP]
  exact ⟨λz=>n1 p z rfl,BZ⟩
 ·intro b hb
  rw [jh] at hb
  rcases cy.mp hb with rfl|hb
  ·exact ⟨x1.hh.free hp,(by rw [aa];exact λz=>nomatch z),x1.sub.free hp⟩
  ·exact ⟨(KG b hb).1,(by rw [ab (n1 b hb)];exact (KG b hb).2.1),(KG b hb).2.2⟩
theorem Gp(n:Nat):DF Z X (n+1) (.List [] pos) (Dq rk):=by
 refine (cY ar).imp ?_;rintro σ H Q ⟨G,ρ,P,s,en,⟨_,hp⟩,q⟩;refine ⟨by show 0≤sizeLine;decide,λp hn=>?_⟩
 refine q _ hp (.ref p) [p] G _ ((Ext.refl s).side hn) (.inl ⟨p,[],[],[],rfl,rfl,aa,rfl, .nil⟩) (by simp) λb hb=>?_
 have:b=p:=by simpa using hb
 subst this;exact ⟨hn,(by rw [aa];exact λz=>nomatch z),s.free hn⟩
def Bf(i:Nat)(tp:aU):cP:=λE ρ=>∃dR,ρ[i]? =some (some (.lst dR))∧tp ρ λpp=>∃p j ds,pp= .int p∧iF dR.length p=some j∧dR[j]? =some (.lst ds)∧E.nx (ρ.set i (some (.lst (dR.set j (.lst ds.reverse)))))
theorem zr(i:Nat){x:Str}{px ps:Pos}(hp:DE Z X k tp)(hm:md.getD i 0=2:=by rfl)(xZ:oQ k:=by exact λ_ _=>rfl)
  (hi:X.N[i]? =some x:=by rfl) (hv:qs X.env.scope x:=by first|exact Or.inl rfl|exact Or.inr (Or.inl rfl) |exact Or.inr (Or.inr rfl)) (hd:(x==("__debug__":Str))=false:=by decide) (fj:(x==("__classdict__":Str))=false:=by decide)
  (dD:attributeBase (.Subscript (.Name x px) k ps) "reverse" X.env (eval (.Subscript (.Name x px) k ps) X.env)=eval (.Subscript (.Name x px) k ps) X.env:=by rfl) (cw:(apos.endLine==aL.line)=true:=by rfl)
  (n6:swapsWith (.Call (.Attribute (.Subscript (.Name x px) k ps) "reverse" apos) [] [] aL) none pos.line X.env=pure false:=by rfl):DSt Z X md rn (.Expr (.Call (.Attribute (.Subscript (.Name x px) k ps) "reverse" apos) [] [] aL) pos) (Bf i tp):=by
 refine (cL (DD PySem.F.plainAttrs_list PySem.F.slot_list_reverse PySem.F.type_list_reverse z4 (bT bg (pv i hi hv hd fj) hp xZ) dD cw) n6).imp ?_;rintro Dn σ H ⟨B,ρ,E,⟨G,fp,S⟩,⟨dR,h1,h⟩,M⟩;obtain ⟨v0,iU,o⟩:=S.at_ i _ h1;refine ⟨_,iU,S.ev true h ?_⟩;rintro _ ⟨p,j,ds,rfl,hj,hd,h⟩;refine ⟨rfl,λv1 G1 H1 S1 x1 GD=>?_⟩;cases GD;obtain ⟨T,ys,l,xs,gz,e1,e2,e3,e4,e5,e6,bh,put⟩:=S1.two hm h1 hd;cases e1;rw [e2] at iU;cases iU;exact ⟨T,ys,p, .ref l,rfl,rfl,aD.of e3,C1 e4 hj e5,ty_list e6,l,xs,rfl,rfl,e6,M.nx _ h _ _ ⟨G1,fp,put _ _ bh.rev⟩⟩
theorem SIx.TB{i:Nat}{v:V}{d':D}{b:Addr}{c:HO}{f':List Addr}(S:SIx Z B md ρ σ H G fp)(hi:σ[i]? =some (some v))(hb:b∈fp i)(o:Own Z G (upd H b c) (md.getD i 0) v d' f')(nd:f'.Nodup)(nw:∀x∈f',B.H₀ x=none∧H x≠none∧G x=none)(ap:∀x∈f',∀j,j≠i→x∉fp j):
  SIx Z B md (ρ.set i (some d')) σ (upd H b c) G (λj=>if j=i then f' else fp j) where
 ex:=by
  obtain ⟨h1,h2,h3⟩:=S.nw i b hb;exact ⟨S.ex.gg,λx u e=>by rw [ab (ah e h3)];exact S.ex.sub _ _ e,λx u e=>by rw [ab (ah e h1)];exact S.ex.hh _ _ e,S.ex.off⟩
 fl:=S.fl
 len:=by rw [fe];exact S.len
 at_:=λj w h=>by
  by_cases z:i=j
  ·subst z
   by_cases hl:i<ρ.length
   ·rw [mn hl] at h
    cases h;exact ⟨v,hi,by rw [if_pos rfl];exact o⟩
   ·rw [AJ (kJ hl),iO (kJ hl)] at h;cases h
  ·rw [sg z] at h
   obtain ⟨u,hu,ow⟩:=S.at_ j w h;exact ⟨u,hu,by rw [if_neg (Ne.symm z)];exact ow.keep (.refl _) λx hx=>ab λq=>S.ap i j b z hb (by rw [←q];exact hx)⟩
 nd:=λj=>by split;exact nd;exact S.nd j
 ap:=λj k b ne hj hk=>by
  split at hj
  ·next z=>
   rw [if_neg (λw=>ne (z.trans w.symm))] at hk;exact ap b hj k (λw=>ne (z.trans w.symm)) hk
  ·next z=>
   split at hk
   ·exact ap b hk j z hj
   ·exact S.ap j k b ne hj hk
 nw:=λj x hx=>by
  have go:B.H₀ x=none∧H x≠none∧G x=none:=by
   split at hx
   ·exact nw x hx
   ·exact S.nw j x hx
  refine ⟨go.1,?_,go.2.2⟩
  by_cases z:x=b
  ·rw [z,aa];exact λq=>nomatch q
  ·rw [ab z];exact go.2.1
def xH(md:List Nat)(i:Nat)(t:ji):cP:=λE ρ=>∃dR,ρ[i]? =some (some (.lst dR))∧t (cF md ρ) λl=>dR.length<sizeLine∧E.nx (ρ.set i (some (.lst (dR++ [.lst l]))))
theorem qz(i:Nat){x:Str}{px:Pos}(he:DF Z X 1 e t)(hm:md.getD i 0=2:=by rfl)(hi:X.N[i]? =some x:=by rfl)(hv:qs X.env.scope x:=by first|exact Or.inl rfl|exact Or.inr (Or.inl rfl) |exact Or.inr (Or.inr rfl))(hd:(x==("__debug__":Str))=false:=by decide)(fj:(x==("__classdict__":Str))=false:=by decide)
  (dD:attributeBase (.Name x px) "append" X.env (eval (.Name x px) X.env)=eval (.Name x px) X.env:=by rfl)
  (jy:((backTo aL (starEach [e] X.env)).all (λx=>!x.1)&&(backToKw aL (keywordEach [] X.env)).all (λx=>x.1.isSome)&&decide (([e]:List Expr).length+([]:List Keyword).length+(if ([]:List Keyword).isEmpty then 0 else 1)<30))=true:=by rfl)
  (cw:(apos.endLine==aL.line)=true:=by rfl) (hs:starEach [e] X.env=(false,eval e X.env)::starEach [] X.env:=by rfl) (eS:(backTo aL (starEach [] X.env)).any (·.1)=false:=by rfl)
  (n6:swapsWith (.Call (.Attribute (.Name x px) "append" apos) [e] [] aL) none pos.line X.env=pure false:=by rfl):
  DSt Z X md rn (.Expr (.Call (.Attribute (.Name x px) "append" apos) [e] [] aL) pos) (xH md i t):=by
 refine (cL (fu PySem.F.plainAttrs_list PySem.F.slot_list_append PySem.F.type_list_append ft (pv i hi hv hd fj) (ae he ar hs) dD jy cw hs eS) n6).imp ?_;rintro Dn σ H ⟨B,ρ,E,⟨G,fp,S⟩,⟨dR,h1,h⟩,M⟩;obtain ⟨v0,iU,o⟩:=S.at_ i _ h1;rw [hm] at o;obtain ⟨T,ys,Gv,cE,rfl,e0,hT,hf,ol⟩:=o.lst;cases e0;refine ⟨_,iU,ty_list hT,G,_,_,S.ex.sub,S.zv,h,?_⟩;rintro l ⟨hz,hn⟩ v f G' H' x ow nd nw;have S':=S.grow x;have GW:=x.hh _ _ hT
 have OL:∀b∈cE,H' b=H b:=λb hb=>by
  cases z:H b with
  |none=>exact absurd z (S.nw i b (by rw [hf];exact cm _ hb)).2.1
  |some o=>exact x.hh _ _ z
 have HR:=S.nd i;rw [hf] at HR;obtain ⟨nT,ndf⟩:=iP.mp HR
 have fT:T∉f:=λz=>by
  have:=(nw T z).1
  rw [hT] at this;cases this
 have ff:∀b∈cE,b∉f:=λb hb z=>(S.nw i b (by rw [hf];exact cm _ hb)).2.1 (nw b z).1
 have VO:∀b,b≠T→upd H' T (.lst (ys++ [v])) b=H' b:=λb hb=>ab hb;refine ⟨T,ys,v,rfl,rfl,GW,by rw [ol.length];exact hz,M.nx _ hn _ _ ⟨G',_,S'.TB (b:=T) (f':=T::(cE++f)) iU (by rw [hf];exact b7 ..) ?_ ?_ ?_ ?_⟩⟩
 ·rw [hm]
  refine .inl ⟨T,ys++ [v],_,cE++f,rfl,rfl,aa,rfl,cp.snoc (ol.imp λv d g hb r=>r.keep x.gg λb q=>?_) (ow.keep (.refl _) λb hb=>VO b λz=>fT (by rw [←z];exact hb))⟩
  rw [VO b λz=>nT (by rw [←z];exact hb b q)]
  exact OL b (hb b q)
 ·rw [iP,jf]
  exact ⟨λz=>(cM.mp z).elim nT fT,ndf,nd,λa ha b hb z=>ff a ha (by rw [z];exact hb)⟩
 ·intro b hb
  rcases cy.mp hb with rfl|hb
  ·exact S'.nw i b (by rw [hf];exact b7 ..)
  ·rcases cM.mp hb with hb|hb
   ·exact S'.nw i b (by rw [hf];exact cm _ hb)
   ·exact ⟨S.ex.hh.free (nw b hb).1,(nw b hb).2⟩
 ·intro b hb j hj z
  have go:b∈fp i∨b∈f:=by
   rw [hf]
   rcases cy.mp hb with rfl|hb
   ·exact .inl (b7 ..)
   ·exact (cM.mp hb).imp (cm _) id
  rcases go with go|go
  ·exact S.ap j i b hj z go
  ·exact (S.nw j b z).2.1 (nw b go).1
theorem qO{H:Hp}:∀{ys:List V}{L:List (List Nat)}{cE:List Addr},cp (Own Z G H 1) ys (L.map aH) cE→∃A:List (Addr×List Nat),ys=A.map (λe=>V.ref e.1)∧A.map (·.2)=L∧xB H A∧cE=A.map (·.1)
 |_,[],_, .nil=>⟨[],rfl,rfl,(λp hp=>by cases hp),rfl⟩
 |_,r::L,_, .cons a as=>by
  obtain ⟨A,h1,h2,h3,h4⟩:=qO as;obtain ⟨p,xs,ds,cE,rfl,e,ha,hf,ol⟩:=a.one;obtain ⟨dv,rfl⟩:=ol.flat;have e:(r.map aB)=ds:=by cases e;rfl
  subst e
  have hx:xs=(gq r).map V.int:=by
   have e:r.map aB=(gq r).map D.int:=by unfold gq;rw [dZ];rfl
   rw [e] at dv;exact kW dv
  rw [hx] at ha;refine ⟨(p,r)::A,by rw [h1];rfl,by rw [←h2];rfl,λq hq=>?_,by rw [hf,h4];rfl⟩
  rcases cy.mp hq with rfl|hq
  ·exact ha
  ·exact h3 q hq
theorem qV{H:Hp}:∀{A:List (Addr×List Nat)},xB H A→cp (Own Z G H 1) (A.map λe=>V.ref e.1) ((A.map (·.2)).map aH) (A.map (·.1))
 | [],_=> .nil
 |x::A,h=>by
  have e:(x.2.map aB)=(gq x.2).map D.int:=by unfold gq;rw [dZ];rfl
  refine cp.cons (f:= [x.1]) (.inl ⟨x.1,_,_,[],rfl,rfl,h x (b7 ..),rfl,?_⟩) (qV λp hp=>h p (cm _ hp));rw [e];exact (aq.ints _).own
def Gb(i:Nat):cP:=λE ρ=>∃L:List (List Nat),ρ[i]? =some (some (.lst (L.map aH)))∧L.length≤1000∧∀M:List (List Nat),M.Perm L→M.Pairwise kv→E.rt (.lst (M.map aH))
theorem Bj(i:Nat){x:Str}{px p:Pos}(hu:X.A.units+64<cLine)(hg:Gl X "sorted")(t7:X.mg "sorted"=none)(hm:md.getD i 0=2:=by rfl)(hi:X.N[i]? =some x:=by rfl)(hv:qs X.env.scope x:=by first|exact Or.inl rfl|exact Or.inr (Or.inl rfl) |exact Or.inr (Or.inr rfl))(hd:(x==("__debug__":Str))=false:=by decide)(fj:(x==("__classdict__":Str))=false:=by decide)
  (hs:starEach [.Name x px] X.env=(false,eval (.Name x px) X.env)::starEach [] X.env:=by rfl) (dJ:(backTo aL (starEach [] X.env)).any (·.1)=false:=by rfl):DSt Z X md 2 (.Return (some (.Call (.Name "sorted" p) [.Name x px] [] aL)) pos) (Gb i):=by
 refine (eV (cq (kR hu) hg t7 jR (ae (pv i hi hv hd fj) ar hs) (by decide) (by decide) hs dJ)).imp ?_
 rintro Dn σ H ⟨B,ρ,E,⟨G,fp,S⟩,⟨L,h1,hz,h⟩,M⟩;obtain ⟨v0,iU,o⟩:=S.at_ i _ h1;rw [hm] at o;obtain ⟨T,ys,Gv,cE,rfl,e0,hT,hf,ol⟩:=o.lst;cases e0;obtain ⟨A,rfl,J0,Rz,RA⟩:=qO ol;have HR:=S.nd i;rw [hf] at HR;have hl:A.length=L.length:=by rw [←J0];simp
 refine ⟨_,iU,T,A,rfl,aD.of hT,Rz,by omega,λq N hn pm sI=>?_⟩
 have OY:=S.nw i;rw [hf] at OY;have mem:∀b,b∈N.map (·.1)→b∈cE:=λb hb=>by rw [RA];exact (pm.map _).mem_iff.mp hb
 have ne:∀b,b∈N.map (·.1)→b≠q:=λb hb z=>(OY b (cm _ (mem b hb))).2.1 (by rw [z];exact hn)
 refine M.rt _ (h (N.map (·.2)) (by rw [←J0];exact pm.map _) sI) (.ref q) (q::N.map (·.1)) G _ (S.ex.side hn) (.inl ⟨q,_,_,_,rfl,rfl,aa,rfl,qV λp hp=>?_⟩) ?_ ?_
 ·rw [ab (ne p.1 (bX.mpr ⟨p,hp,rfl⟩))]
  exact Rz p (pm.mem_iff.mp hp)
 ·rw [iP]
  refine ⟨λz=>ne q z rfl,((pm.map _).nodup_iff).mpr ?_⟩;rw [←RA];exact (iP.mp HR).2
 ·intro b hb
  rcases cy.mp hb with rfl|hb
  ·exact ⟨S.ex.hh.free hn,(by rw [aa];exact λz=>nomatch z),S.ex.sub.free hn⟩
  ·obtain ⟨k1,k2,k3⟩:=OY b (cm _ (mem b hb))
   exact ⟨k1,(by rw [ab (ne b hb)];exact k2),k3⟩
def Ar(Z:DC):Sp:=λvs H Q _=>∃(p dx:Addr)(v:V)(G:Hp)(w:List (List Nat)),vs= [.ref p,v]∧H p=some (.ins Z.C dx [])∧az G H∧G p=none∧Dv Z G v (aR w)∧Wb.Good w∧1≤w.length∧w.length≤14∧
 ∀(R:Addr)(f:List Addr)(H':Hp),(∀b o,H b=some o→b≠p→H' b=some o)→H' p=some (.ins Z.C dx [("rows", .ref R)])→(∀Gx,Own Z Gx H' 2 (.ref R) (aR w) f)→(∀b∈f,H b=none)→Q .aI H'
theorem Ip{G':Hp}{v:V}{w:List (List Nat)}{f:List Addr}(o:Own Z G H 2 v (aR w) f):Own Z G' H 2 v (aR w) f:=by
 obtain ⟨T,ys,Gv,cE,rfl,e0,hT,hf,ol⟩:=Own.lst o;have e0:Gv=w.map aH:=by cases e0;rfl
 subst e0;obtain ⟨A,rfl,h2,h3,h4⟩:=qO ol;refine .inl ⟨T,_,_,cE,rfl,rfl,hT,hf,?_⟩
 have:=qV (Z:=Z) (G:=G') h3
 rw [h2,←h4] at this;exact this
def Nz(i:Nat)(ta:hJ):cP:=λE ρ=>ta ρ λds=>∃w,ds= [aR w]∧Wb.Good w∧1≤w.length∧w.length≤14∧E.nx (ρ.set i (some (.fw w)))
theorem Bk(i:Nat){x y:Str}{px p:Pos}{k:Nat}{f:Addr}{fd:FuncData}{ps:List Str}{es:List Expr}{ta:hJ}{lU:Pos}(hN:X.N.Nodup)(M:Mk Z.K Z.C f)(F:FnOk X.prog X.w X.K X.mg X.base bY k f fd ps (Ar Z))(hr:b8 (k+1) X.A)(hg:Gl X y)(t7:X.mg y=some (.ref Z.C))(hb:Binds X.K fd ps [])
  (ha:DA Z X (e::es) ta) (eK:X.K=Z.K:=by rfl) (iE:(y==("__debug__":Str))=false:=by decide) (he:starEach (e::es) X.env=(false,eval e X.env)::starEach es X.env:=by rfl) (dJ:(backTo pos (starEach es X.env)).any (·.1)=false:=by rfl)
  (hm:md.getD i 0=0:=by rfl) (hi:X.N[i]? =some x:=by rfl) (hx:Loc X.env.scope x:=by first|exact Or.inl rfl|exact Or.inr rfl) (hs:swapsWith (.Call (.Name y p) (e::es) [] pos) (some (.Name x px)) lU.line X.env=pure false:=by rfl)
  (hf:X.fn x=true∨X.env.scope.names.lookup x=some .local:=by first|exact .inl rfl|exact .inr rfl|assumption):DSt Z X md rn (.Assign [.Name x px] (.Call (.Name y p) (e::es) [] pos) lU) (Nz i ta):=by
 refine (bA hN hi hx (Iw (by rw [eK];exact M) F hr hg t7 hb .nil bK ha iE he dJ) hs hf).imp ?_
 rintro Dn σ H ⟨B,ρ,E,⟨G,fp,S⟩,h,Mt⟩;refine ⟨H,ρ,_, .refl _,S.GG,h,?_⟩;rintro _ ⟨w,rfl,g,h1,cK,hn⟩ vs G1 H1 x1 bh p dx hx X6 ne;cases bh with
 | @cons v _ _ _ dv bh=>
  cases bh;have S1:=S.grow (Ext.all S.ex.sub x1);have vK:upd H1 dx (.own p) p=none:=by rw [ab (Ne.symm ne)];exact hx
  have sJ:=(av X6 (.own p)).trans (av vK (.ins Z.C dx []));refine ⟨p,dx,v,G1,w,rfl,aa,x1.sub.trans sJ,x1.sub.free hx,dv,g,h1,cK,λR f H2 kp J9 own nf=>⟨rfl,?_⟩⟩
  let F:Addr→Prop:=λb=>b=p∨b∈f
  have F1:∀b,F b→H1 b=none:=λb hb=>by
   rcases hb with rfl|hb
   ·exact hx
   ·exact sJ.free (nf b hb)
  have IQ:az H1 H2:=λb o e=>kp b o (sJ _ _ e) (ah e hx);have nF:∀b o,H1 b=some o→¬F b:=λb o e z=>by rw [F1 b z] at e;cases e
  have x2:Ext G H1 (plus G H2 F) H2:=⟨λb o e=>by rw [dm (nF b o (S1.ex.sub _ _ e))];exact e,λb o e=>by
   by_cases z:F b
   ·rw [eE z] at e;exact e
   ·rw [dm z] at e;exact IQ _ _ (S1.ex.sub _ _ e),IQ,λb hb hg=>by
   rw [dm (λz=>hb (F1 b z))];exact hg⟩
  have dw:Dv Z (plus G H2 F) (.ref p) (.fw w):= .fw (by rw [eE (.inl rfl)];exact J9) ((own (plus G H2 F)).dv (.refl _) λb hb o e=>by rw [eE (.inr hb)];exact e) g h1 cK
  exact Mt.nx _ hn _ _ ⟨_,_,(S1.grow x2).nz hm dw⟩
end
end L2
namespace Wb
def iR(w:W)(d:Nat×Nat)(r:List (Nat×Nat)):Prop:=∃k,0<k∧cA w k d=d∧(∀j,0<j→j<k→cA w j d≠d)∧r=walk w d k
theorem jE{w:W}{d e:Nat×Nat}{k:Nat}:e∈walk w d k↔∃i,i<k∧e=cA w i d:=by
 unfold walk;rw [bX]
 constructor
 ·rintro ⟨i,hi,rfl⟩;exact ⟨i,fE.mp hi,rfl⟩
 ·rintro ⟨i,hi,rfl⟩;exact ⟨i,fE.mpr hi,rfl⟩
theorem iR.first{w:W}{d:Nat×Nat}{r:List (Nat×Nat)}(h:iR w d r):d∈r:=by
 obtain ⟨k,h0,_,_,rfl⟩:=h;exact jE.mpr ⟨0,h0,rfl⟩
theorem iR.next{w:W}{d e:Nat×Nat}{r:List (Nat×Nat)}(h:iR w d r)(he:e∈r):uv w e∈r:=by
 obtain ⟨k,h0,h1,_,rfl⟩:=h;obtain ⟨i,hi,rfl⟩:=jE.mp he
 by_cases c:i+1<k
 ·exact jE.mpr ⟨i+1,c,rfl⟩
 ·have:i+1=k:=by omega
  refine jE.mpr ⟨0,h0,?_⟩;show cA w (i+1) d=d;rw [this];exact h1
theorem iR.iter{w:W}{d e:Nat×Nat}{r:List (Nat×Nat)}(h:iR w d r)(he:e∈r):∀n,cA w n e∈r
 |0=>he
 |n+1=>h.next (h.iter he n)
theorem iR.back{w:W}{d e:Nat×Nat}{r:List (Nat×Nat)}(h:iR w d r)(he:e∈r):∃n,cA w n e=d:=by
 obtain ⟨k,h0,h1,_,rfl⟩:=h;obtain ⟨i,hi,rfl⟩:=jE.mp he;refine ⟨k-i,?_⟩;rw [←ue i (k-i),show k-i+i=k by omega]
 exact h1
theorem iR.nodup{w:W}(g:Good w){d:Nat×Nat}{r:List (Nat×Nat)}(h:iR w d r)(hd:bL w d):r.Nodup:=by
 obtain ⟨k,h0,h1,h2,rfl⟩:=h;exact rX g hd h2
theorem iR.aK{w:W}(g:Good w){d:Nat×Nat}{r:List (Nat×Nat)}(h:iR w d r)(hd:bL w d):∀e∈r,bL w e:=by
 obtain ⟨k,h0,h1,h2,rfl⟩:=h;exact oO g hd
structure Wk (w:W) (ds:List (Nat×Nat)) (i:Nat) (rs:List (List (Nat×Nat))):Prop where
 rnd:∀r∈rs,∃d,iR w d r∧bL w d∧∀e∈r,lexLe d e
 nod:rs.flatten.Nodup
 met:∀j e,j<i→ds[j]? =some e→e∈rs.flatten
theorem Wk.zero(w:W)(ds:List (Nat×Nat)):Wk w ds 0 []:=⟨(λr h=>by cases h),jO,(λj e h=>by omega)⟩
theorem Wk.skip{w:W}{ds:List (Nat×Nat)}{i:Nat}{rs:List (List (Nat×Nat))}{d:Nat×Nat}(h:Wk w ds i rs)(hd:ds[i]? =some d)(hm:d∈rs.flatten):Wk w ds (i+1) rs:=
 ⟨h.rnd,h.nod,λj e hj he=>by
  by_cases c:j=i
  ·subst c;rw [hd] at he;cases he;exact hm
  ·exact h.met j e (by omega) he⟩
theorem Wk.take{w:W}(g:Good w){ds:List (Nat×Nat)}(all:∀e,bL w e→e∈ds)(dart:∀e∈ds,bL w e)(sI:ds.Pairwise lexLe){i:Nat}{rs:List (List (Nat×Nat))}{d:Nat×Nat}{r:List (Nat×Nat)}(h:Wk w ds i rs)(hd:ds[i]? =some d)(hm:d∉rs.flatten)(hr:iR w d r):Wk w ds (i+1) (rs++ [r]):=by
 have dd:bL w d:=dart d (cT hd)
 have off:∀e∈r,e∉rs.flatten:=λe he hf=>by
  obtain ⟨r',gf,t4⟩:=xq.mp hf;obtain ⟨d',R',_,_⟩:=h.rnd r' gf;obtain ⟨n,hn⟩:=hr.back he;exact hm (xq.mpr ⟨r',gf,by rw [←hn];exact R'.iter t4 n⟩)
 refine ⟨λr' h'=>?_,?_,λj e hj he=>?_⟩
 ·rcases cM.mp h' with z|z
  ·exact h.rnd r' z
  ·rw [je.mp z]
   refine ⟨d,hr,dd,λe he=>?_⟩;obtain ⟨j,hj⟩:=fZ (all e (hr.aK g dd e he))
   by_cases c:j<i
   ·exact absurd (h.met j e c hj) (off e he)
   ·by_cases c2:j=i
    ·subst c2;rw [hd] at hj;cases hj
     exact .inr ⟨rfl,aT _⟩
    ·obtain ⟨h1,e1⟩:=bV.mp hd
     obtain ⟨h2,e2⟩:=bV.mp hj;rw [←e1,←e2];exact vj.mp sI i j h1 h2 (by omega)
 ·rw [vq,jf]
  refine ⟨h.nod,by simpa using hr.nodup g dd,λa ha b hb e=>?_⟩
  subst e;exact off a (by simpa using hb) ha
 ·rw [vq,cM]
  by_cases c:j=i
  ·subst c;rw [hd] at he;cases he
   exact .inr (by simpa using hr.first)
  ·exact .inl (h.met j e (by omega) he)
theorem Wk.fin{w:W}(g:Good w){ds:List (Nat×Nat)}(all:∀e,bL w e→e∈ds){rs:List (List (Nat×Nat))}(h:Wk w ds ds.length rs):rs.flatten.Perm (aK w):=by
 have sub:∀e,e∈rs.flatten↔e∈aK w:=λe=>by
  rw [bF]
  constructor
  ·intro he
   obtain ⟨r,hr,X8⟩:=xq.mp he;obtain ⟨d,R,dd,_⟩:=h.rnd r hr;exact R.aK g dd e X8
  ·intro he
   obtain ⟨j,hj⟩:=fZ (all e he);exact h.met j e (bV.mp hj).1 hj
 exact (D7 h.nod (fL g)).mpr sub
structure cf (w:W) (rs:List (List (Nat×Nat))):Prop where
 rnd:∀r∈rs,∃d,iR w d r∧bL w d∧∀e∈r,lexLe d e
 perm:rs.flatten.Perm (aK w)
theorem cf.H0{w:W}{rs dS:List (List (Nat×Nat))}(R:cf w rs)(p:dS.Perm rs):cf w dS:=
 ⟨λr hr=>R.rnd r (p.mem_iff.mp hr),(p.flatten).trans R.perm⟩
theorem Ge{w:W}{d:Nat×Nat}(g:Good w)(h:bL w d):d.1≠d.2:=λe=>g.irr d.1 (by have:d.2∈row w d.1:=h;rw [←e] at this;exact this)
theorem A0{w:W}(g:Good w){ts:List (Nat×Nat)}(pm:ts.Perm (jb (row w) w.length)):(ts++ts.map λt=>(t.2,t.1)).Perm (aK w):=by
 have e:=lX w;have nd:=fL g
 have m:∀t,t∈ts↔bL w t∧t.1<t.2:=λt=>by
  rw [pm.mem_iff,e,vi,bF,decide_eq_true_eq]
 have nt:ts.Nodup:=pm.nodup_iff.mpr (by rw [e];exact nd.filter _)
 refine (D7 ?_ nd).mpr λd=>?_
 ·rw [jf]
  refine ⟨nt,?_,λa ha b hb z=>?_⟩
  ·rw [AI,jM]
   rw [AI] at nt;exact nt.imp λ {a b} h z=>h (Prod.ext (Prod.mk.inj z).2 (Prod.mk.inj z).1)
  ·obtain ⟨c,hc,rfl⟩:=bX.mp hb
   have h1:=((m a).mp ha).2;have h2:=((m c).mp hc).2;rw [z] at h1;have h1:c.2<c.1:=h1;omega
 ·rw [cM,bX,bF]
  constructor
  ·rintro (h| ⟨c,hc,rfl⟩)
   ·exact ((m d).mp h).1
   ·exact g.sym _ _ ((m c).mp hc).1
  ·intro h
   rcases Nat.lt_or_gt_of_ne (Ge g h) with c|c
   ·exact .inl ((m d).mpr ⟨h,c⟩)
   ·exact .inr ⟨(d.2,d.1),(m _).mpr ⟨g.sym _ _ h,c⟩,rfl⟩
theorem iR.uniq{w:W}{d:Nat×Nat}{r r':List (Nat×Nat)}(h:iR w d r)(h':iR w d r'):r=r':=by
 obtain ⟨k,a1,a2,a3,rfl⟩:=h;obtain ⟨m,b1,b2,b3,rfl⟩:=h'
 rcases Nat.lt_trichotomy k m with c|c|c
 ·exact absurd a2 (b3 k a1 c)
 ·rw [c]
 ·exact absurd b2 (a3 m b1 c)
theorem cf.sub{w:W}{rs dS:List (List (Nat×Nat))}(R:cf w rs)(R':cf w dS):∀r∈rs,r∈dS:=λr hr=>by
 obtain ⟨d,h1,h2,h3⟩:=R.rnd r hr;have hd:d∈dS.flatten:=R'.perm.mem_iff.mpr (bF.mpr h2);obtain ⟨r',gf,RT⟩:=xq.mp hd;obtain ⟨d',k1,k2,k3⟩:=R'.rnd r' gf;obtain ⟨n,hn⟩:=k1.back RT;have l1:lexLe d d':=by rw [←hn];exact h3 _ (h1.iter h1.first n)
 have e:=qJ l1 (k3 d RT);subst e;rw [h1.uniq k1];exact gf
theorem cf.ne{w:W}{rs:List (List (Nat×Nat))}(R:cf w rs):∀r∈rs,r≠ []:=λr hr z=>by
 obtain ⟨d,h1,_⟩:=R.rnd r hr
 have:=h1.first
 rw [z] at this;cases this
theorem rA{α:Type}:∀{l:List (List α)},l.flatten.Nodup→(∀r∈l,r≠ [])→l.Nodup
 | [],_,_=>jO
 |a::l,h,hn=>by
  rw [AO,jf] at h;refine iP.mpr ⟨λha=>?_,rA h.2.1 λr hr=>hn r (cm _ hr)⟩;cases a with
  |nil=>exact hn [] (b7 ..) rfl
  |cons x a=>exact h.2.2 x (b7 ..) x (xq.mpr ⟨_,ha,b7 ..⟩) rfl
theorem cf.nodup{w:W}{rs:List (List (Nat×Nat))}(g:Good w)(R:cf w rs):rs.Nodup:=rA (R.perm.nodup_iff.mpr (fL g)) R.ne
abbrev fB(rs:List (List (Nat×Nat))):List (List Nat):=rs.map λr=>r.map (·.1)
theorem uq{a b:List Nat}(h:L2.kv a b)(h':L2.kv b a):a=b:=by
 have:=L2.pJ (L2.gq a) (L2.gq b) h' h
 exact L2.Ax (by rw [this])
theorem cf.uniq{w:W}(g:Good w){rs dS:List (List (Nat×Nat))}(R:cf w rs)(R':cf w dS)(s:(fB rs).Pairwise L2.kv)(s':(fB dS).Pairwise L2.kv):fB rs=fB dS:=by
 have pm:rs.Perm dS:=(D7 (R.nodup g) (R'.nodup g)).mpr λr=>⟨R.sub R' r,R'.sub R r⟩;exact List.Perm.eq_of_pairwise (λ_ _ _ _=>uq) s s' (pm.map _)
open Classical in
noncomputable def iG(w:W):List (List Nat):=if h:∃rs,cf w rs∧(fB rs).Pairwise L2.kv then fB h.choose else []
theorem EZ{w:W}(g:Good w){rs:List (List (Nat×Nat))}(R:cf w rs)(s:(fB rs).Pairwise L2.kv):iG w=fB rs:=by
 have h:∃rs,cf w rs∧(fB rs).Pairwise L2.kv:=⟨rs,R,s⟩;unfold iG;rw [dif_pos h];exact h.choose_spec.1.uniq g R h.choose_spec.2 s
theorem Ag{w:W}{d:Nat×Nat}{r:List (Nat×Nat)}(h:iR w d r){i:Nat}(hi:i<r.length):r.getD ((i+1)%r.length) (0,0)=uv w (r.getD i (0,0)):=by
 obtain ⟨k,k0,k1,k2,rfl⟩:=h;rw [jL] at hi ⊢
 have at_:∀j,j<k→(walk w d k).getD j (0,0)=cA w j d:=λj hj=>by
  unfold walk;rw [fW,bH,vo hj];rfl
 rw [at_ i hi]
 by_cases c:i+1<k
 ·rw [ve c,at_ _ c];rfl
 ·have e:i+1=k:=by omega
  rw [e,Nat.mod_self,at_ 0 k0];show d=cA w (i+1) d;rw [e,k1]
theorem wz(r:List (Nat×Nat))(i:Nat):(r.map (·.1)).getD i 0=(r.getD i (0,0)).1:=by
 rw [fW,fW,bH];cases r[i]? <;>rfl
end Wb
namespace AU
open PySem L2 Wb
variable {P:Program} {w:World} {mg:Str→Option Value} {base:Heap} {Z:DC} (T:Txt Z mg)
theorem JV{i j:Int}{P:D→Prop}{ρ:DN}(h:P (.bl (decide (i=j)))):dC (.int j) ρ (λb=>Bc (.int i) b P):=zh h
theorem lJ{w:W}{p:Nat}(h:p<w.length):e7 (w.map aH) (p:Int)=some (aH (row w p)):=f7 (uZ h)
theorem pN{ns:List Nat}{p:Nat}(h:p<ns.length):e7 (ns.map aB) (p:Int)=some (aB (ns.getD p 0)):=f7 (by rw [bH,fW,cN h];rfl)
theorem Ez{g:dA}{tb:cP}{E:eo}{n:Nat}{ρ:DN}(I:Nat→DN→Prop)(h0:I 0 ρ)(hs:∀(j:Nat)(ρ:DN),j<n→I j ρ→∀A:DN→Prop,(∀ρ,I (j+1) ρ→A ρ)→g (aB j) ρ λbf=>tb {nx:=A,ct:=A,bk:=E.nx,rt:=E.rt} bf)
  (he:∀ρ,I n ρ→E.nx ρ):jx g tb E (eX 0 n) ρ:=GK I h0 (λj ρ hj h A hA=>by
 have:=hs j ρ hj h A hA
 unfold aB at this;rw [Int.zero_add];exact this) he
theorem yu{f:DN→Prop}{aE:DN}(ρ:DN)(e:aE=ρ)(h:f ρ):f aE:=by rw [e];exact h
theorem yo{x:Nat}:∀(ns:List Nat)(m:Nat),m<ns.idxOf x→ns[m]? ≠some x
 | [],m,h=>by simp at h
 |a::ns,m,h=>by
  rw [List.idxOf_cons] at h
  by_cases e:(a==x)=true
  ·rw [e] at h;simp at h
  ·rw [qi.mpr e] at h
   cases m with
   |zero=>intro z;simp at z;exact e (by simp [z])
   |succ m=>rw [r6];exact yo ns m (by simpa using h)
theorem BJ{ns:List Nat}{x:Nat}{P:D→Prop}(h:x∈ns)(q:P (aB (ns.idxOf x))):gL (aB x)=true∧(ns.map aB).all gL=true∧∃(j:Nat)(z:D),(ns.map aB)[j]? =some z∧i6 z (aB x)=true∧(∀(m:Nat) z,m<j→(ns.map aB)[m]? =some z→i6 z (aB x)=false)∧P (.int (j:Nat)):=by
 have hl:=vk.mpr h;have e:ns[ns.idxOf x]? =some x:=by rw [cN hl];exact congrArg some (AM hl)
 refine ⟨rfl,gd _,ns.idxOf x,aB x,by rw [bH,e];rfl,by simp [i6,aB],λm z hm hz=>?_,q⟩
 obtain ⟨y,hy,rfl⟩:=dj hz
 have:y≠x:=by
  rintro rfl;exact yo _ _ hm hy
 have:¬((y:Int)=(x:Int)):=by omega
 simpa [i6,aB] using this
theorem h7{ns:List Nat}{x:Nat}(h:x∈ns):(ns.map aB)[ns.idxOf x]? =some (aB x)∧i6 (aB x) (aB x)=true∧∀(m:Nat) z,m<ns.idxOf x→(ns.map aB)[m]? =some z→i6 z (aB x)=false:=by
 have:=BJ (P:=λd=>d=aB (ns.idxOf x)) h rfl
 obtain ⟨_,_,j,z,h1,h2,h3,h4⟩:=this;have hl:=vk.mpr h;have e:ns[ns.idxOf x]? =some x:=by rw [cN hl];exact congrArg some (AM hl)
 refine ⟨by rw [bH,e];rfl,by simp [i6,aB],λm z hm hz=>?_⟩
 obtain ⟨y,hy,rfl⟩:=dj hz
 have:y≠x:=by
  rintro rfl;exact yo _ _ hm hy
 have:¬((y:Int)=(x:Int)):=by omega
 simpa [i6,aB] using this
theorem Co(n:Nat):eX 0 n=(List.range n).map λ(x:Nat)=>aB x:=by unfold eX aB;simp
theorem j8{α:Type}{f:α→D}{g:α→PyData}(h:∀a,(f a).py=some (g a)):∀l:List α,gU (l.map f)=some (l.map g)
 | []=>rfl
 |a::l=>by
  have:=j8 h l
  rw [fF,gU,h a,this];rfl
theorem La(r:List Nat):(aH r).py=some (nj r):=by
 unfold aH nj;rw [D.py,j8 (g:=nD) (λn=>rfl)];rfl
theorem sX(w:W):(aR w).py=some (lY w):=by
 unfold aR lY;rw [D.py,j8 (g:=nj) La];rfl
theorem zi{v w:W}{P:D→Prop}(h:P (.bl (decide (v=w)))):Bc (aR v) (aR w) P:=by
 refine ⟨_,_,sX v,sX w,by have:=rq v;omega,?_⟩
 have:PyData.eqv (lY v) (lY w)=decide (v=w):=by
  by_cases e:v=w
  ·rw [decide_eq_true e];exact (mF v w).mpr e
  ·rw [decide_eq_false e]
   apply qi.mpr;exact λz=>e ((mF v w).mp z)
 rw [if_neg cB,this];exact h
variable {P:Program} {w:World} {mg:Str→Option Value} {base:Heap} {Z:DC} (T:Txt Z mg)
theorem qF:∀(w2:W)(o:Option D)(acc:List D)(N:List D→Prop),acc.length+w2.length≤sizeLine→N (acc++w2.map aH)→HE (oY 0) (GI (Gd 0)) (w2.map aH) [o] acc N
 | [],o,acc,N,_,h=>by
  show N acc;simpa using h
 |x::xs,o,acc,N,hz,h=>by
  rw [cx] at hz;refine ⟨_,rfl,(by omega:acc.length<sizeLine),?_⟩
  refine qF xs _ (acc++ [aH x]) N (by simp;omega) ?_
  rw [nI];exact h
theorem Ic:FnOk P w Z.K mg base bY 4 T.i_f T.i_fd ["self","turns"] (Ar Z):=by
 have nd:=jJ.nd;refine T.i_F.ok jJ (λvs H Q E h=>?_) (λbo A outer s H vs Q E hr h=>?_)
 ·obtain ⟨p,dx,v,G,w',rfl,_⟩:=h;rfl
 obtain ⟨p,dx,v,G,w',rfl,hp,sG,gp,dv,g,h1,cK,q⟩:=h;have hu:=hr.units
 refine ⟨_,aC (t:=oi Z [0,0,2,0] 0 _)
   (cD (gv (Eu yw yw aS (bw fK rfl T.B.len fg (af (U 1) au)) (Em rfl T.c_MOST_POINTS))) (aw v7) bz)
  (aC (t:=oi Z [0,0,2,0] 0 _)
   (tT 2 (NC:= ["row"]) (src:= [none]) rfl nd (vA (ao dN)) trivial (cv (U 1)) (λ_ _ _=>(cG 0 (show (["row"]:List Str).Nodup from by decide+kernel))) (λ_ _ _=>(zl rfl rfl T.B.list ju (U 0))))
  (aC (t:=oi Z [0,0,2,0] 0 _)
   (gu true 3 nd (bJ T.d_first_fault (sF T) hr (af (U 2) au)))
  (aC (t:=oi Z [0,0,2,0] 0 _)
   (cD (cg Fe (U 3) gr (bu _)) (aw v7) bz)
  (bb (K6 (pv 0) (pv 2) rfl))))),?_⟩
 have lw:(w'.map aH).length=w'.length:=aM _;refine ⟨⟨G,H,G⟩,[some (.obj p),some (aR w'),none,none],{nx:=λρ=>ρ= [some (.obj p),some (aR w'),none,none],rt:=λ_=>False},⟨G,λ_=> [],?_⟩,?_,⟨?_,λ_ z=>z.elim,λ_ z=>z.elim,λ_ z=>z.elim⟩⟩
 ·refine ⟨.refl sG, .refl _,rfl,λi d hi=>?_,λ_=>jO,(λ_ _ _ _ z=>by cases z),(λ_ _ z=>by cases z)⟩
  match i,hi with
  |0,hi=>cases hi;exact ⟨_,rfl, .obj p,rfl⟩
  |1,hi=>cases hi;exact ⟨_,rfl,dv,rfl⟩
  |2,hi=>cases hi
  |3,hi=>cases hi
  |i+4,hi=>cases hi
 ·have e1:D.bl (decide ((1:Int)≤((w'.map aH).length:Int)))= .bl true:=congrArg D.bl (decide_eq_true (by rw [lw];omega))
  have e2:D.bl (decide (((w'.map aH).length:Int)≤14))= .bl true:=congrArg D.bl (decide_eq_true (by rw [lw];omega))
  exact ⟨_,rfl,true,e1,eY ⟨true,e2,dh rfl⟩⟩
 rintro _ rfl CW H1 S1;refine ⟨⟨G,H,G⟩,_,{nx:=λρ=>ρ= [some (.obj p),some (aR w'),some (aR w'),none],rt:=λ_=>False},S1,?_,⟨?_,λ_ z=>z.elim,λ_ z=>z.elim,λ_ z=>z.elim⟩⟩
 ·exact ⟨_,rfl,qF w' none [] _ (by rw [qk,ql];exact small (by omega)) rfl⟩
 rintro _ rfl cn H2 S2;refine ⟨⟨G,H,G⟩,_,{nx:=λρ=>ρ= [some (.obj p),some (aR w'),some (aR w'),some .aI],rt:=λ_=>False},S2,?_,⟨?_,λ_ z=>z.elim,λ_ z=>z.elim,λ_ z=>z.elim⟩⟩
 ·exact ⟨_,rfl,w',rfl,g,h1,cK,rfl,rfl⟩
 rintro _ rfl sN H3 S3;refine ⟨⟨G,H,G⟩,_,{nx:=λρ=>ρ= [some (.obj p),some (aR w'),some (aR w'),some .aI],rt:=λ_=>False},S3,?_,⟨?_,λ_ z=>z.elim,λ_ z=>z.elim,λ_ z=>z.elim⟩⟩
 ·exact ⟨_,rfl,_,rfl,dh rfl⟩
 rintro _ rfl cO H4 ⟨G4,fp,S4⟩;obtain ⟨v0,iU,o0⟩:=S4.at_ 0 _ rfl;obtain ⟨v2,zJ,o2⟩:=S4.at_ 2 _ rfl;obtain ⟨d0,_⟩:=o0;cases d0;have n2:=S4.nw 2;generalize hf:fp 2=f at o2 n2;obtain ⟨R,ys,Gv,cE,rfl,e0,hR,hf2,ol⟩:=Own.lst o2;have Yz:=S4.ex.hh _ _ hp
 have Xq:∀b∈f,b≠p:=λb hb z=>by
  have h1:H b=none:=(n2 b hb).1;rw [z,hp] at h1;cases h1
 refine ⟨_,zJ,_,iU,p,Z.C,dx,[],rfl,Yz,T.W.cl,T.W.nR,by decide,?_⟩
 exact q R f _ (λb o eb nb=>by rw [ab nb];exact S4.ex.hh _ _ eb) aa (λGx=>Ip (o2.keep (.refl _) λb hb=>ab (Xq b hb))) λb hb=>(n2 b hb).1
variable {P:Program} {w:World} {mg:Str→Option Value} {base:Heap} {Z:DC} (T:Txt Z mg)
def gm(k:Nat×Nat):PyData:= .tuple [nD k.1,nD k.2]
theorem Cm(k:Nat×Nat):(pairD k).py=some (gm k):=by
 unfold pairD;rw [D.py,gU,gU,gU];rfl
theorem mE(a b:Nat×Nat):PyData.eqv (gm a) (gm b)=true↔a=b:=by
 unfold gm nD;simp [PyData.eqv,PyData.eqvAll]
 constructor
 ·rintro ⟨h1,h2⟩;exact Prod.ext (by omega) (by omega)
 ·rintro rfl;exact ⟨rfl,rfl⟩
theorem xK(l:List (Nat×Nat)):(PyData.list (l.map gm)).depth≤64:=by
 rw [PyData.depth]
 have:=e8 (f:=gm) (k:=10) (λn=>by unfold gm nD;simp [PyData.depth,PyData.depthAll]) l
 omega
theorem wX(l:List (Nat×Nat)):(D.lst (l.map pairD)).py=some (.list (l.map gm)):=by rw [D.py,j8 Cm];rfl
theorem Bl(l m:List (Nat×Nat)):PyData.eqv (.list (l.map gm)) (.list (m.map gm))=decide (l=m):=by
 rw [PyData.eqv]
 by_cases e:l=m
 ·rw [decide_eq_true e];exact (gE mE l m).mpr e
 ·rw [decide_eq_false e]
  apply qi.mpr;exact λz=>e ((gE mE l m).mp z)
theorem Bd{l m:List (Nat×Nat)}{P:D→Prop}(h:P (.bl (decide (l=m)))):Bc (.lst (l.map pairD)) (.lst (m.map pairD)) P:=by
 refine ⟨_,_,wX l,wX m,xK l,?_⟩;rw [if_neg cB,Bl];exact h
def zz(d:Nat×Nat):Int×Int:=(d.1,d.2)
theorem LJ{a b:Nat×Nat}(h:zz a=zz b):a=b:=Prod.ext (by have:=(Prod.mk.inj h).1;omega) (by have:=(Prod.mk.inj h).2;omega)
theorem tm{d:Nat×Nat}{l:List (Nat×Nat)}:zz d∈l.map zz↔d∈l:=by
 rw [bX];exact ⟨λ⟨a,ha,e⟩=>by rw [←LJ e];exact ha,λh=>⟨d,h,rfl⟩⟩
def Lq:dF:=λds P=>∃(w:W),ds= [.fw w]∧Good w∧w.length≤14∧∀ts:List (Nat×Nat),ts.Perm (jb (row w) w.length)→ts.Pairwise lexLe→P (.lst (ts.map pairD))
theorem Ms{g:dA}{fV:iA}{g1:dA}{cX:dB}{te:aU}{α β γ:Type}(I:DN→Prop)(J:α→DN→Prop)(enc:α→D)(f:α→List β)(Dl:β→D)(p:α→β→Bool)(k:α→β→γ)(kX:γ→D)(JI:∀y ρ,J y ρ→I ρ):∀(ys:List α)(aE:DN)(acc:List γ)(P:List D→Prop),
  (∀y∈ys,∀aE,I aE→∀(Y:DN→List D→Prop),(∀bf,J y bf→Y bf ((f y).map Dl))→g (enc y) aE λbf=>fV bf (Y bf))→
  (∀y∈ys,∀b∈f y,∀aE,J y aE→∀(Y:DN→D→Prop)(Nn:DN→Prop),(∀bf,J y bf→p y b=true→Y bf (kX (k y b)))→(∀bf,J y bf→p y b=false→Nn bf)→g1 (Dl b) aE λbf=>cX bf λc=>if c=true then te bf (Y bf) else Nn bf)→
  I aE→acc.length+(ys.flatMap λy=>((f y).filter (p y)).map (k y)).length≤sizeLine→(∀y∈ys,acc.length+(ys.flatMap λy=>((f y).filter (p y)).map (k y)).length+(f y).length≤sizeLine)→P ((acc++ys.flatMap λy=>((f y).filter (p y)).map (k y)).map kX)→nh g tQ fV g1 cX te (ys.map enc) aE (acc.map kX) P
 | [],aE,acc,P,_,_,hI,_,_,h=>by
  show P (acc.map kX);simpa using h
 |y::ys,aE,acc,P,h1,h2,hI,hz,hy,h=>by
  have YL:=hy y (b7 ..);rw [xl,dE] at hz YL;refine h1 y (b7 ..) aE hI (λbf es=>lcW g1 cX te es bf (acc.map kX) λdq tF=>nh g tQ fV g1 cX te (ys.map enc) dq tF P) λbf XJ=>?_;refine pH (J y) Dl (p y) (λb=>kX (k y b)) (f y) bf (acc.map kX) _ (λb hb dq NT Y Nn hY hN=>?_) XJ (by rw [aM];omega) λdq NT=>?_
  ·exact h2 y (b7 ..) b hb dq NT Y Nn hY hN
  ·have e:acc.map kX++((f y).filter (p y)).map (λb=>kX (k y b))=(acc++((f y).filter (p y)).map (k y)).map kX:=by rw [dY,dZ];rfl
   rw [e];refine Ms I J enc f Dl p k kX JI ys dq (acc++((f y).filter (p y)).map (k y)) P (λz hz=>h1 z (cm _ hz)) (λz hz=>h2 z (cm _ hz)) (JI y dq NT) (by rw [dE];omega) (λz hz=>?_) ?_
   ·have:=hy z (cm _ hz)
    rw [xl,dE] at this;rw [dE];omega
   ·rw [xl] at h
    rw [nI];exact h
theorem pQ:FnOk P w Z.K mg base bY 1 T.m_ties.f T.m_ties.fd ["self"] (aZ Z Lq):=by
 have nd:=p5.nd;refine bN T.m_ties.F p5 [0] (by decide) (λds R h=>by obtain ⟨_,rfl,_⟩:=h;rfl) (λbo A outer s H E ds R hr h=>?_)
 have hu:=hr.units;refine ⟨_,(aw (aX (bw vX rfl T.B.sorted jR (af (JM (NC:= ["p","row","q"]) (src:= [none,none,none]) rfl (vA (ao ja)) trivial (gy rfl T.B.enumerate (af (oU T.W (U 0)) au)) (λ_ _ _=>(xN 2 rfl (il (cG 0 (show (["p","row","q"]:List Str).Nodup from by decide+kernel)) (il (cG 1 (show (["p","row","q"]:List Str).Nodup from by decide+kernel)) tS)))) (λ_ _ _=>gB) (λ_ _ _=>(cv (U 1))) (λ_ _ _=>(cG 2 (show (["p","row","q"]:List Str).Nodup from by decide+kernel))) (λ_ _ _=>(GC (cg B2 (U 0) (U 2) (bu _)))) (λ_ _ _=>(fM (af (U 0) (af (U 2) au))))) au)))),?_⟩
 obtain ⟨w',rfl,g,cK,q⟩:=h
 have ee:fN (w'.map aH)=(List.range w'.length).map λ(j:Nat)=>D.tup [.int (j:Int),aH (row w' j)]:=by
  refine xn λj=>?_;rw [bH]
  by_cases lt:j<w'.length
  ·rw [vo lt]
   cases e:(fN (w'.map aH))[j]? with
   |none=>
    have:=List.getElem?_eq_none_iff.mp e
    rw [nQ,aM] at this;omega
   |some d=>rw [(AB e).2];rfl
  ·rw [iO (by rw [nQ,aM];omega),iO (by rw [qh];omega)];rfl
 have tb:((List.range w'.length).flatMap λp=>((row w' p).filter λq=>decide (p<q)).map λq=>(p,q))=jb (row w') w'.length:=rfl
 have fl:∀n,n≤w'.length→(jb (row w') n).length≤n*14:=λn=>by
  induction n with
  |zero=>intro _;exact aT _
  |succ n ih=>
   intro h
   have:=ih (by omega)
   have h2:=eF g n;have h3:=List.length_filter_le (λq=>decide (n<q)) (row w' n);unfold jb at this ⊢;rw [List.range_succ,List.flatMap_append,dE];simp only [xl,List.flatMap_nil,jh,aM];omega
 have fl0:=fl w'.length (aT _);refine ⟨_,rfl,w',rfl,?_⟩;refine (?_:nh _ _ _ _ _ _ (fN (w'.map aH)) _ _ _);rw [ee];refine Ms (λρ=>∃o0 o1 o2,ρ= [o0,o1,o2]) (λp ρ=>∃o2,ρ= [some (aB p),some (aH (row w' p)),o2]) _ (λp=>row w' p) aB (λp q=>decide (p<q)) (λp q=>(p,q)) pairD (λy ρ ⟨o2,e⟩=>⟨_,_,_,e⟩) (List.range w'.length) _ [] _ (λp hp aE hI Y hY=>?_) (λp hp b hb aE hI Y Nn hY hN=>?_) ⟨none,none,none,rfl⟩ ?_ (λp hp=>?_) ?_
 ·obtain ⟨o0,o1,o2,rfl⟩:=hI
  exact ⟨rfl,rfl,_,rfl,hY _ ⟨_,rfl⟩⟩
 ·obtain ⟨o2,rfl⟩:=hI
  refine ⟨_,rfl,_,rfl,_,rfl,?_⟩;refine (?_:if decide ((p:Int)<(b:Int))=true then _ else _);rw [show decide ((p:Int)<(b:Int))=decide (p<b) from decide_eq_decide.mpr (by omega)]
  exact pD (λe=>⟨_,rfl,_,rfl,by show 2≤sizeLine;decide,hY _ ⟨_,rfl⟩ e⟩) (λe=>hN _ ⟨_,rfl⟩ e)
 ·rw [tb,qk,ql];exact small (by omega)
 ·have:=eF g p
  rw [tb,qk,ql];exact small (by omega)
 ·rw [tb,xr]
  exact ⟨_,rfl,by omega,q⟩
def FC:dF:=λds P=>∃(w:W)(p q:Nat),ds= [.fw w,aB p,aB q]∧Good w∧q∈row w p∧P (aB (gX (row w p) q))
theorem lE:FnOk P w Z.K mg base bY 1 T.m_behind.f T.m_behind.fd ["self","p","q"] (aZ Z FC):=by
 have nd:=lP.nd;refine bN T.m_behind.F lP [0,0,0,0] (by decide) (λds R h=>by obtain ⟨_,_,_,rfl,_⟩:=h;rfl) (λbo A outer s H E ds R hr h=>?_)
 have hu:=hr.units
 refine ⟨_,(ax (gu false 3 nd (dQ (oU T.W (U 0)) (U 1)))
   (aw (aX (dQ (U 3) (jk pP (jk pO (v5 (U 3) (U 2)) aS) (bw fK rfl T.B.len fg (af (U 3) au))))))),?_⟩
 obtain ⟨w',p,q',rfl,g,hq,q⟩:=h;have hp:=gx hq;have rl:=eF g p;have lr:((row w' p).map aB).length=(row w' p).length:=aM _;have pos:0<(row w' p).length:=r8 hq;have e0:(0:Int)<(((row w' p).map aB).length:Int):=by rw [lr];omega
 refine ⟨_,rfl,w',rfl,_,rfl,_,lJ hp,trivial,?_⟩;refine ⟨_,rfl,_,rfl,_,rfl,_,rfl,rfl,gd _,_,_,(h7 hq).1,(h7 hq).2.1,(h7 hq).2.2,?_⟩;refine ⟨_,rfl,e0,?_⟩;have em:(((row w' p).idxOf q':Nat):Int)+1=(((row w' p).idxOf q'+1:Nat):Int):=by omega
 have et:((((row w' p).idxOf q':Nat):Int)+1)%(((row w' p).map aB).length:Int)=((((row w' p).idxOf q'+1)%(row w' p).length:Nat):Int):=by rw [lr,em,vf]
 refine ⟨aB (gX (row w' p) q'),?_,q⟩;show e7 ((row w' p).map aB) ((λi j=>i%j) _ _)=_;dsimp only;rw [et];exact pN (qo _ pos)
theorem qu{a b:Nat×Nat}{P:D→Prop}(h:P (.bl (!decide (a=b)))):Ej (pairD a) (pairD b) P:=by
 refine ⟨_,_,Cm a,Cm b,by unfold gm nD;simp [PyData.depth,PyData.depthAll],?_⟩
 have:PyData.eqv (gm a) (gm b)=decide (a=b):=by
  by_cases e:a=b
  ·rw [decide_eq_true e];exact (mE a b).mpr e
  ·rw [decide_eq_false e]
   apply qi.mpr;exact λz=>e ((mE a b).mp z)
 rw [if_pos rfl,this];exact h
def uO:dF:=λds P=>∃(w:W)(d:Nat×Nat),ds= [.fw w,pairD d]∧Good w∧w.length≤14∧bL w d∧∀r,iR w d r→P (.lst (r.map pairD))
theorem uz:FnOk P w Z.K mg base bY 2 T.d_round_from.f T.d_round_from.fd ["web","side"] (aZ Z uO):=by
 have nd:=lS.nd;refine bN T.d_round_from.F lS [0,0,1,0,0] (by decide) (λds R h=>by obtain ⟨_,_,rfl,_⟩:=h;rfl) (λbo A outer s H E ds R hr h=>?_)
 have hu:=hr.units
 refine ⟨_,(ax (sQ 2 nd (oX (af (U 1) au)))
   (ax (Dh (U 1) (hZ 2 rfl (bx (aV 3 nd) (bx (aV 4 nd) eQ))))
   (ax (Dj 3 4 rfl nd (af (U 4) (af (zj T.W (U 0) T.m_behind.m (lE T) (hr.mono (by decide)) T.m_behind.b (af (U 4) (af (U 3) au))) au)))
   (ax (v9 PassesOwn.never (cg (yx hu) (fM (af (U 3) (af (U 4) au))) (U 1) (bu _)) (ax (Dg false 2 (fM (af (U 3) (af (U 4) au))))
   (aw (Dj 3 4 rfl nd (af (U 4) (af (zj T.W (U 0) T.m_behind.m (lE T) (hr.mono (by decide)) T.m_behind.b (af (U 4) (af (U 3) au))) au))))))
   (aw (aX (U 2))))))),?_⟩
 obtain ⟨w',d,rfl,g,cK,hd,q⟩:=h;have c1:=gb g;have c2:w'.length*w'.length≤14*14:=xu cK cK;refine ⟨_,rfl,by show 1≤sizeLine;decide,?_⟩
 refine ⟨_,rfl,rfl,rfl,?_⟩;refine ⟨_,rfl,_,rfl,w',rfl,_,rfl,_,rfl,w',d.2,d.1,rfl,g,g.sym _ _ hd,_,_,rfl,?_⟩;refine u0 (λm ρ=>∃k,0<k∧m+k=(aK w').length+1∧(∀j,0<j→j<k→cA w' j d≠d)∧ρ= [some (.fw w'),some (pairD d),some (.lst ((walk w' d k).map pairD)),some (aB (cA w' k d).1),some (aB (cA w' k d).2)]) (aK w').length ⟨1,by omega,rfl,λj h1 h2=>by omega,rfl⟩ ?_
 rintro m _ ⟨k,k0,hm,hk,rfl⟩;have X4:=gh g hd k;refine ⟨_,rfl,_,rfl,by show 2≤sizeLine;decide,_,rfl,?_⟩
 refine (?_:Ej (pairD (cA w' k d)) (pairD d) _);refine qu ⟨_,rfl,pD (λe=>?_) (λe=>?_)⟩
 ·have ne:cA w' k d≠d:=by simpa using e
  have lt:k<(aK w').length:=by
   have:=uX g hd (k:=k+1) λj h1 h2=>by
    by_cases c:j=k
    ·subst c;exact ne
    ·exact hk j h1 (by omega)
   omega
  refine ⟨_,rfl,_,rfl,_,rfl,by show 2≤sizeLine;decide,trivial,ba (by rw [aM,jL];omega),?_⟩
  refine ⟨_,rfl,_,rfl,w',rfl,_,rfl,_,rfl,w',(cA w' k d).2,(cA w' k d).1,rfl,g,g.sym _ _ X4,_,_,rfl,?_⟩;refine ⟨m-1,by omega,k+1,by omega,by omega,λj h1 h2=>?_,?_⟩
  ·by_cases c:j=k
   ·subst c;exact ne
   ·exact hk j h1 (by omega)
  ·rw [uY,dY];rfl
 ·have e:cA w' k d=d:=by simpa using e
  exact ⟨_,rfl,q _ ⟨k,k0,e,hk,rfl⟩⟩
def sT(rs:List (List (Nat×Nat))):D:= .lst ((rs.map λr=>r.map (·.1)).map aH)
def Jc:dF:=λds P=>∃(w:W),ds= [.fw w]∧Good w∧1≤w.length∧w.length≤14∧(w.length=1→P (.lst [aH [0]]))∧(2≤w.length→∀rs,cf w rs→iG w=fB rs→P (.lst ((iG w).map aH)))
theorem EY{l:List (Nat×Nat)}{d:Nat×Nat}(h:d∉l):zK (l.map zz) (zz d)=(l++ [d]).map zz:=by
 unfold zK;rw [if_neg (λz=>h (tm.mp z)),dY];rfl
theorem B5:FnOk P w Z.K mg base bY 3 T.d_lands.f T.d_lands.fd ["web"] (jC Z 2 Jc):=by
 have nd:=xa.nd;refine wq 2 T.d_lands.F xa [0,98,2,0,0,0] (by decide) (λds R h=>by obtain ⟨_,rfl,_⟩:=h;rfl) (λbo A outer s H E ds R hr h=>?_)
 have hu:=hr.units
 refine ⟨_,(ax (cD (cg (ou hu) (mB T.W (U 0) T.m_many.m (yA T) (hr.mono (by decide)) T.m_many.b) aS (bu _)) (aw (GA (JO (oX (af aS au))))) bz)
   (ax (Et 1 nd rfl T.x_set)
   (ax (sQ 2 nd (Gp 1))
   (ax (eO rfl PassesOwn.never (cv (bw vX rfl T.B.sorted jR (af (jk pO (mB T.W (U 0) T.m_ties.m (pQ T) (hr.mono (by decide)) T.m_ties.b) (tR (NC:= ["a","b"]) (src:= [none,none]) rfl (vA (ao lO)) trivial (cv (mB T.W (U 0) T.m_ties.m (pQ T) (hr.mono (by decide)) T.m_ties.b)) (λ_ _ _=>(xN 2 rfl (il (cG 0 (show (["a","b"]:List Str).Nodup from by decide+kernel)) (il (cG 1 (show (["a","b"]:List Str).Nodup from by decide+kernel)) tS)))) (λ_ _ _=>gB) (λ_ _ _=>(fM (af (U 1) (af (U 0) au)))))) au))) (aV 3 nd) (aw (cD (cg (B3 hu) (U 3) (U 1) (by with_unfolding_all rfl)) (ax (gu false 4 nd (bJ T.d_round_from (uz T) hr (af (U 0) (af (U 3) au))))
   (ax (eO rfl PassesOwn.never (cv (U 4)) (aV 5 nd) (aw (Gw false 1 hu (U 5))))
   (aw (qz 2 (NA (NC:= ["p","q"]) (src:= [none,none]) rfl (vA (ao lO)) trivial (cv (U 4)) (λ_ _ _=>(xN 2 rfl (il (cG 0 (show (["p","q"]:List Str).Nodup from by decide+kernel)) (il (cG 1 (show (["p","q"]:List Str).Nodup from by decide+kernel)) tS)))) (λ_ _ _=>gB) (λ_ _ _=>(U 0))))))) bz)))
   (aw (Bj 2 hu rfl T.B.sorted)))))),?_⟩
 obtain ⟨w',rfl,g,h1,cK,q1,q2⟩:=h;have c1:=gb g;have c2:w'.length*w'.length≤14*14:=xu cK cK;have lw:(w'.map aH).length=w'.length:=aM _;refine ⟨_,rfl,w',rfl,w',rfl,?_⟩;refine JV ⟨_,rfl,pD (λe=>?_) (λe=>?_)⟩
 ·have e:w'.length=1:=by have:=of_decide_eq_true e;omega
  exact ⟨by show 1≤sizeLine;decide,q1 e⟩
 have n2:2≤w'.length:=by have:=of_decide_eq_false e;omega
 refine ⟨by show 0≤sizeLine;decide,?_⟩
 refine ⟨_,rfl,w',rfl,w',rfl,g,cK,λts pm sI=>?_⟩;have tl:=CH g;rw [←jT] at tl;have tl2:=pm.length_eq;refine ⟨_,rfl,w',rfl,w',rfl,g,cK,λAy K4 MR=>?_⟩;have e2:Ay=ts:=List.Perm.eq_of_pairwise (λ_ _ _ _=>qJ) MR sI (K4.trans pm.symm);subst e2;refine pH (λρ=>∃o0 o1,ρ= [o0,o1]) pairD (λ_=>true) (λt=>pairD (t.2,t.1)) Ay _ [] _ (λt ht aE hI Y Nn hY hN=>?_) ⟨none,none,rfl⟩ (by rw [qk,ql];exact small (by omega)) λaE hI=>?_
 ·obtain ⟨o0,o1,rfl⟩:=hI
  exact ⟨rfl,rfl,MV ⟨_,rfl,_,rfl,by show 2≤sizeLine;decide,hY _ ⟨_,_,rfl⟩ rfl⟩⟩
 have pd:=A0 g pm;have pl:=pd.length_eq;rw [dE,aM] at pl;have ef:Ay.filter (λ_=>true)=Ay:=by simp
 rw [xr,ef];refine ⟨by rw [aM,aM];exact small (by omega),?_⟩
 have ej:(.lst (Ay.map pairD++Ay.map λt=>pairD (t.2,t.1)):D)= .lst ((Ay++Ay.map λt=>(t.2,t.1)).map pairD):=by rw [dY,dZ];rfl
 dsimp only [rk];rw [ej];refine ⟨_,rfl,by rw [dE,aM];omega,λds K5 Vv=>?_⟩
 have K5:=K5.trans pd;have all:∀e,bL w' e→e∈ds:=λe h=>K5.mem_iff.mpr (bF.mpr h);have dart:∀e∈ds,bL w' e:=λe h=>bF.mp (K5.mem_iff.mp h);clear pm K4 sI MR ej pd ef;refine cJ (λi ρ=>∃(rs:List (List (Nat×Nat)))(o3 o4 o5:Option D),ρ= [some (.fw w'),some (.x (.pW (fi w) (rs.flatten.map zz))),some (sT rs),o3,o4,o5]∧Wk w' ds i rs) ⟨[],none,none,none,rfl,Wk.zero w' ds⟩ ?_ ?_
 ·rintro i d _ hd ⟨rs,o3,o4,o5,rfl,hw⟩ A hA
  obtain ⟨e,he,rfl⟩:=dj hd;have de:=dart e (cT he);refine ⟨_,rfl,_,rfl,zz e,rs.flatten.map zz,rfl,rfl,_,rfl,?_⟩;refine (?_:if (if true=true then !decide (zz e∈rs.flatten.map zz) else _)=true then _ else _);rw [if_pos rfl,show decide (zz e∈rs.flatten.map zz)=decide (e∈rs.flatten) from decide_eq_decide.mpr tm]
  have sub:∀x∈rs.flatten,x∈aK w':=λx hx=>by
   obtain ⟨r,hr,YK⟩:=xq.mp hx;obtain ⟨d,R,dd,_⟩:=hw.rnd r hr;exact bF.mpr (R.aK g dd x YK)
  have fl:=aN hw.nod sub;refine pD (λc=>?_) (λc=>?_)
  ·have c:e∉rs.flatten:=by simpa using c
   refine ⟨_,rfl,_,rfl,w',e,rfl,g,cK,de,λr R=>⟨trivial,?_⟩⟩;have SH:=hw.take g all dart Vv he c R;have rd:∀x∈r,x∈aK w':=λx hx=>bF.mpr (R.aK g de x hx);have rl:=aN (R.nodup g de) rd;have OP:(rs.flatten++r).Nodup:=by have:=SH.nod;rw [vq] at this;simpa using this
   have Xo:(rs.flatten++r).length≤(aK w').length:=aN OP λx hx=>(cM.mp hx).elim (sub x) (rd x);rw [dE] at Xo;refine ⟨_,rfl,?_⟩;refine cJ (λk ρ=>∃o5,ρ= [some (.fw w'),some (.x (.pW (fi w) ((rs.flatten++r.take k).map zz))),some (sT rs),some (pairD e),some (.lst (r.map pairD)),o5]) ⟨o5,by rw [xt,jh];rfl⟩ ?_ ?_
   ·rintro k d _ hd ⟨o5,rfl⟩ A hA
    obtain ⟨x,hx,rfl⟩:=dj hd;have hk:=(bV.mp hx).1;have tk:r.take (k+1)=r.take k++ [x]:=by rw [List.take_succ,hx];rfl
    have nx:x∉rs.flatten++r.take k:=λz=>by
     have sp:rs.flatten++r=(rs.flatten++r.take k)++(x::r.drop (k+1)):=by
      rw [nI,←bV.mp hx|>.2,List.getElem_cons_drop,nH]
     rw [sp] at OP;exact (jf.mp OP).2.2 x z x (b7 ..) rfl
    refine ⟨_,rfl,_,rfl,zz x,rfl,by rw [aM,dE,jg];omega,?_⟩
    rw [EY nx,nI,←tk];exact hA _ ⟨_,rfl⟩
   ·rintro _ ⟨o5,rfl⟩
    rw [aM,List.take_length]
    have dl:rs.length≤300:=by
     have h:∀dS:List (List (Nat×Nat)),(∀r∈dS,r≠ [])→dS.length≤dS.flatten.length:=λdS=>by
      induction dS with
      |nil=>intro _;exact aT _
      |cons a l ih=>
       intro h;have h1:=vp.mpr (h a (b7 ..));have h2:=ih λr hr=>h r (cm _ hr);rw [AO,dE,cx];omega
     have:=h rs λr hr z=>by
      obtain ⟨d,R,_,_⟩:=hw.rnd r hr
      have:=R.first
      rw [z] at this;cases this
     omega
    refine ⟨_,rfl,_,rfl,?_⟩;refine pH (λρ=>∃o0 o1,ρ= [o0,o1]) pairD (λ_=>true) (λt=>aB t.1) r _ [] _ (λt ht aE hI Y Nn hY hN=>?_) ⟨none,none,rfl⟩ (by rw [qk,ql];exact small (by omega)) λaE hI=>?_
    ·obtain ⟨o0,o1,rfl⟩:=hI
     exact ⟨rfl,rfl,MV ⟨_,rfl,hY _ ⟨_,_,rfl⟩ rfl⟩⟩
    rw [xr,show r.filter (λ_=>true)=r by simp]
    refine ⟨ba (by rw [aM,aM];omega),?_⟩
    refine hA _ ⟨rs++ [r],some (pairD e),some (.lst (r.map pairD)),o5,?_,SH⟩
    have e1:sT (rs++ [r])= .lst ((rs.map λr=>r.map (·.1)).map aH++ [.lst (r.map λt=>aB t.1)]):=by
     unfold sT aH;rw [dY,dY];simp only [fF,List.map_nil,dZ];rfl
    rw [e1,vq,show [r].flatten=r by simp];rfl
  ·have c:e∈rs.flatten:=by simpa using c
   exact hA _ ⟨rs,_,_,_,rfl,hw.skip he c⟩
 ·rintro _ ⟨rs,o3,o4,o5,rfl,hw⟩
  have hw:Wk w' ds ds.length rs:=by rw [aM] at hw;exact hw
  have fin:=hw.fin g all;have R:cf w' rs:=⟨hw.rnd,fin⟩
  have dl:rs.length≤300:=by
   have h:∀dS:List (List (Nat×Nat)),(∀r∈dS,r≠ [])→dS.length≤dS.flatten.length:=λdS=>by
    induction dS with
    |nil=>intro _;exact aT _
    |cons a l ih=>
     intro h;have h1:=vp.mpr (h a (b7 ..));have h2:=ih λr hr=>h r (cm _ hr);rw [AO,dE,cx];omega
   have:=h rs λr hr z=>by
    obtain ⟨d,R,_,_⟩:=hw.rnd r hr
    have:=R.first
    rw [z] at this;cases this
   have:=fin.length_eq
   omega
  refine ⟨rs.map (λr=>r.map (·.1)),rfl,by rw [aM];omega,λM pm sI=>?_⟩
  obtain ⟨dS,p',rfl⟩:=L2.h8 (λr:List (Nat×Nat)=>r.map (·.1)) M rs pm;have R':=R.H0 p';have e:=EZ g R' sI
  have:=q2 n2 dS R' e
  rw [e] at this;exact this
end AU
namespace xv
open PySem L2
def top(i:Nat):Stmt:=PySem.Challenge.pw_mapdye_k13_whole_lands_walked.main.body.getD i (.Pass ⟨0,0,0,0⟩)
abbrev uH:Stmt:=top 23
abbrev sY:Stmt:=top 24
abbrev uI:Stmt:=top 25
abbrev qX:Stmt:=top 26
def Lm(K:PySem.W.Frag):Sp:=λvs H Q _=>∃(a:Addr)(ns:List Int)(k:Int),vs= [.ref a, .int k]∧aD K H a (ns.map V.int)∧ns.length≤63∧0≤k∧k≤100∧∀(v:Int)(H':Hp),az H H'→Q (.int v) H'
section
variable {P:Program} {w:World} {K:PySem.W.Frag} {mg:Str→Option Value} {base:Heap}
theorem Lj:aG ["_law_script","_law_k"] ["_law_script","_law_k"] (ao uH):=⟨rfl,rfl,rfl,by decide+kernel,rfl,by decide+kernel,by decide+kernel⟩
theorem ux(D:bM K mg "_law_cell" uH ["_law_script","_law_k"]):FnOk P w K mg base bY 1 D.f D.fd ["_law_script","_law_k"] (Lm K):=by
 refine D.F.ok Lj (λvs H Q E h=>?_) (λbo A outer s H vs Q E hr h=>?_)
 ·obtain ⟨a,ns,k,rfl,_⟩:=h
  rfl
 obtain ⟨a,ns,k,rfl,hS,nY,h0,h1,q⟩:=h;refine ⟨_,bb (eV (bT bg (bU yD (mO p9 (pv 0) (lG (pv 1)) (lG (bU fR (pv 1) aJ))) (cY (ae aJ ar))) aJ (λ_ _=>rfl))),?_⟩;refine ⟨_,rfl,_,rfl,k,rfl,_,rfl,_,_,rfl,rfl,_,rfl,a,_,rfl,hS,λp hp=>?_⟩;refine ⟨by show 1≤sizeLine;decide,λp2 J9=>?_⟩
 have ne:p≠p2:=ah (aa (H:=H) (a:=p)) J9;have hlen:=jS (ns.map V.int) (some k) (some (k+1));rw [aM] at hlen;refine ⟨p,p2,_,_,rfl,rfl,by rw [ab ne];exact aa,aa,small (by show _+1≤1000;omega),λp3 Yy=>?_⟩
 have sm:az H (upd (upd (upd H p (.lst (fY (ns.map V.int) (some k) (some (k+1))))) p2 (.lst [.int 0])) p3 (.lst (fY (ns.map V.int) (some k) (some (k+1))++ [.int 0]))):=
  (av hp _).trans ((av J9 _).trans (av Yy _))
 have hint:∃v:Int,e7 (fY (ns.map V.int) (some k) (some (k+1))++ [V.int 0]) 0=some (.int v):=by
  have:∀x∈fY (ns.map V.int) (some k) (some (k+1))++ [V.int 0],∃v,x=V.int v:=λx hx=>by
   rcases cM.mp hx with z|z
   ·unfold fY at z
    obtain ⟨v,_,rfl⟩:=bX.mp (List.mem_of_mem_drop (List.mem_of_mem_take z));exact ⟨v,rfl⟩
   ·exact ⟨0,by simpa using z⟩
  cases e:fY (ns.map V.int) (some k) (some (k+1))++ [V.int 0] with
  |nil=>simp at e
  |cons x r=>
   obtain ⟨v,rfl⟩:=this x (by rw [e];exact b7)
   exact ⟨v,bS (j:=0) rfl⟩
 obtain ⟨v,hv⟩:=hint;exact ⟨p3,_,0, .int v,rfl,rfl,aD.of aa,hv,q v _ sm⟩
end
theorem boot_max:bootBuiltins "max"=some (.builtin "max"):=by decide+kernel
theorem boot_min:bootBuiltins "min"=some (.builtin "min"):=by decide+kernel
def Jd(K:PySem.W.Frag):Sp:=λvs H Q _=>∃(a:Addr)(ns:List Int)(k:Int),vs= [.ref a, .int k]∧aD K H a (ns.map V.int)∧ns.length≤63∧∀(v:Int)(H':Hp),az H H'→Q (.int v) H'
structure vw (mg:Str→Option Value):Prop where
 len:mg "len"=none
 range:mg "range"=none
 max:mg "max"=none
 min:mg "min"=none
 enumerate:mg "enumerate"=none
 zip:mg "zip"=none
 sorted:mg "sorted"=none
 all:mg "all"=none
 isinstance:mg "isinstance"=none
 int:mg "int"=none
 bool:mg "bool"=none
 list:mg "list"=none
 tuple:mg "tuple"=none
section
variable {P:Program} {w:World} {K:PySem.W.Frag} {mg:Str→Option Value} {base:Heap}
theorem Al:aG ["_law_script","_law_turn","_law_number","_law_k","_law_part"] ["_law_script","_law_turn"] (ao sY):=⟨rfl,rfl,rfl,by decide+kernel,rfl,by decide+kernel,by decide+kernel⟩
theorem Ff(B:vw mg)(C:bM K mg "_law_cell" uH ["_law_script","_law_k"])(D:bM K mg "_law_mixed" sY ["_law_script","_law_turn"]):FnOk P w K mg base bY 2 D.f D.fd ["_law_script","_law_turn"] (Jd K):=by
 refine D.F.ok Al (λvs H Q E h=>?_) (λbo A outer s H vs Q E hr h=>?_)
 ·obtain ⟨a,ns,k,rfl,_⟩:=h
  rfl
 obtain ⟨a,ns,k,rfl,hS,nY,q⟩:=h;have nd:=Al.nd
 refine ⟨_,aC (bA (i:=2) nd rfl (Or.inl rfl) aJ)
  (aC (ic PassesOwn.never rfl (iI rfl B.range (ae (cq (A4 rfl) rfl B.max boot_max (ae aJ (ae (cq (A6 rfl) rfl B.min boot_min (ae aJ (ae (cq bP rfl B.len PySem.boot_len (ae (pv 0) ar)) ar))) ar))) ar)) (bG (i:=3) nd rfl (Or.inl rfl))
   (aC (bA (i:=4) nd rfl (Or.inl rfl) (bU mM (bU mN (bU fR (bU fR (bU fR (bU mM (aW (ux C) hr rfl C.m C.F.kp C.b .nil bK (ae (pv 0) (ae (pv 3) ar))) aJ) (bU mN aJ (pv 3))) (bU mN aJ (pv 1))) aJ) aJ) aJ))
    (bb (bA (i:=2) nd rfl (Or.inl rfl) (bU fR (bU mN (pv 2) aJ) (bU mM (bU mN (pv 4) (pv 4)) aJ))))))
  (bb (eV (pv 2)))),?_⟩
 refine ⟨_,rfl,a,_,rfl, .inl hS,_,_,rfl,_,_,rfl,_,rfl,?_⟩;have hl:(ns.map V.int).length=ns.length:=aM _;rw [hl]
 have hb:(if (if (ns.length:Int)<63 then (ns.length:Int) else 63)>12 then (if (ns.length:Int)<63 then (ns.length:Int) else 63) else 12)≤63∧0≤(if (if (ns.length:Int)<63 then (ns.length:Int) else 63)>12 then (if (ns.length:Int)<63 then (ns.length:Int) else 63) else (12:Int)):=by
  repeat' split
  all_goals omega
 generalize (if (if (ns.length:Int)<63 then (ns.length:Int) else 63)>12 then (if (ns.length:Int)<63 then (ns.length:Int) else 63) else (12:Int))=n at hb;refine ⟨by omega,by omega,jX (λi σ H'=>∃num o3 o4,σ= [some (.ref a),some (.int k),some (.int num),o3,o4]∧az H H') ⟨_,_,_,rfl,az.refl _⟩ (λi σ H' hi hP=>?_) (λσ H' hP=>?_)⟩
 ·obtain ⟨num,o3,o4,rfl,sm⟩:=hP
  have hz:(0:Int)+(i:Int)=(i:Int):=by omega
  refine ⟨_,rfl,_,rfl,a,ns,_,rfl,sm.seq hS,nY,by omega,by omega,λv H2 Ll=>?_⟩
  refine ⟨_,_,rfl,rfl,(by show (0:Int)<2147483647;decide),?_⟩
  refine ⟨_,rfl,_,_,rfl,rfl, .inl ⟨by decide,by decide⟩,_,_,rfl,rfl,?_⟩
  refine ⟨_,rfl,_,_,rfl,rfl, .inl ⟨by decide,by decide⟩,_,_,rfl,rfl,_,_,rfl,rfl,?_⟩
  refine ⟨_,_,rfl,rfl, .inr ⟨by decide,by decide⟩,_,_,rfl,rfl,(by show (0:Int)<2147483647;decide),?_⟩
  generalize Hq:((v%2147483647+40692*(0+(i:Int))+7*k+1)*48271)%2147483647=part;have p0:0≤part:=by rw [←Hq];exact Int.emod_nonneg _ (by decide)
  have p1:part<2147483647:=by rw [←Hq];exact Int.emod_lt_of_pos _ (by decide)
  refine ⟨_,rfl,_,_,rfl,rfl, .inr ⟨by decide,by decide⟩,?_⟩
  refine ⟨_,rfl,_,rfl,_,_,rfl,rfl, .inl ⟨by omega,by omega⟩,_,_,rfl,rfl,(by show (0:Int)<2147483629;decide),_,_,rfl,rfl,?_⟩
  exact ⟨_,_,_,rfl,sm.trans Ll⟩
 ·obtain ⟨num,o3,o4,rfl,sm⟩:=hP
  exact ⟨_,rfl,q _ _ sm⟩
def FD(K:PySem.W.Frag):Sp:=λvs H Q _=>∃(a:Addr)(ns:List Int)(k:Int),vs= [.ref a, .int k]∧aD K H a (ns.map V.int)∧ns.length≤63∧0≤k∧k≤100∧
 ∀(r:Addr)(ds:List Int)(H':Hp),az H H'→H r=none→H' r=some (.lst (ds.map V.int))→ds≠ []→ds.length≤2→Q (.ref r) H'
theorem Fz:aG ["_law_script","_law_at"] ["_law_script","_law_at"] (ao uI):=⟨rfl,rfl,rfl,by decide+kernel,rfl,by decide+kernel,by decide+kernel⟩
theorem B6(B:vw mg)(C:bM K mg "_law_cell" uH ["_law_script","_law_k"])(M:bM K mg "_law_mixed" sY ["_law_script","_law_turn"])(D:bM K mg "_law_digits" uI ["_law_script","_law_at"]):FnOk P w K mg base bY 3 D.f D.fd ["_law_script","_law_at"] (FD K):=by
 refine D.F.ok Fz (λvs H Q E h=>?_) (λbo A outer s H vs Q E hr h=>?_)
 ·obtain ⟨a,ns,k,rfl,_⟩:=h
  rfl
 obtain ⟨a,ns,k,rfl,hS,nY,h0,h1,q⟩:=h;have gC:=(ux (P:=P) (w:=w) (base:=base) C).mono (show 1≤2 by decide)
 have gM:=Ff (P:=P) (w:=w) (base:=base) B C M
 refine ⟨_,aC (uE (gH B8 (aW gC hr rfl C.m C.F.kp C.b .nil bK (ae (pv 0) (ae (pv 1) ar))) (bU KR aJ aJ) (bu _))
   (bb (eV (cY (ae (aW gM hr rfl M.m M.F.kp M.b .nil bK (ae (pv 0) (ae (pv 1) ar))) ar)))) lH)
  (bb (eV (cY (ae (aW gC hr rfl C.m C.F.kp C.b .nil bK (ae (pv 0) (ae (pv 1) ar))) (ae (aW gM hr rfl M.m M.F.kp M.b .nil bK (ae (pv 0) (ae (pv 1) ar))) ar))))),?_⟩
 refine ⟨_,rfl,_,rfl,a,ns,k,rfl,hS,nY,h0,h1,λv H1 s1=>?_⟩;refine ⟨_,_,rfl,rfl,⟨by decide,by decide,by decide⟩,_,_,rfl,rfl,_,rfl,?_⟩
 refine rJ (λ_=>?_) (λ_=>?_)
 ·refine ⟨_,rfl,_,rfl,a,ns,k,rfl,s1.seq hS,nY,λv2 H2 s2=>?_⟩
  refine ⟨by show 1≤sizeLine;decide,λr gf=>?_⟩
  have IQ:=s1.trans s2;exact q r [v2] _ (IQ.trans (av gf _)) (IQ.free gf) aa (by simp) (by simp)
 ·refine ⟨_,rfl,_,rfl,a,ns,k,rfl,s1.seq hS,nY,h0,h1,λv2 H2 s2=>?_⟩
  refine ⟨_,rfl,_,rfl,a,ns,k,rfl,(s1.trans s2).seq hS,nY,λv3 H3 s3=>?_⟩;refine ⟨by show 2≤sizeLine;decide,λr gf=>?_⟩
  have Va:=(s1.trans s2).trans s3;exact q r [v2,v3] _ (Va.trans (av gf _)) (Va.free gf) aa (by simp) (by simp)
def Lp:Sp:=λvs H Q _=>∃(l:Addr)(ns:List Int)(m:Int),vs= [.ref l, .int m]∧H l=some (.lst (ns.map V.int))∧ns≠ []∧ns.length≤1000∧0<m∧m<1073741824∧
 ∀(d:Int)(ds:List Int),0≤d→d<m→ds≠ []→ds.length≤ns.length→Q (.int d) (upd H l (.lst (ds.map V.int)))
theorem DV:aG ["_law_left","_law_many","_law_digit"] ["_law_left","_law_many"] (ao qX):=⟨rfl,rfl,rfl,by decide+kernel,rfl,by decide+kernel,by decide+kernel⟩
theorem pR(B:vw mg)(D:bM K mg "_law_take" qX ["_law_left","_law_many"]):FnOk P w K mg base bY 1 D.f D.fd ["_law_left","_law_many"] Lp:=by
 refine D.F.ok DV (λvs H Q E h=>?_) (λbo A outer s H vs Q E hr h=>?_)
 ·obtain ⟨a,ns,k,rfl,_⟩:=h
  rfl
 obtain ⟨l,ns,m,rfl,hl,gP,hz,h0,h1,q⟩:=h;have nd:=DV.nd
 refine ⟨_,aC (uE (PW.pt (DL (gH B8 (bT bg (pv 0) aJ (λ_ _=>rfl)) aJ (bu _)) (Af (gH Il (cq bP rfl B.len PySem.boot_len (ae (pv 0) ar)) aJ (bu _)))))
   (bb (cL (fu PySem.F.plainAttrs_list PySem.F.slot_list_pop PySem.F.type_list_pop E8 (pv 0) (ae aJ ar)))) lH)
  (aC (bA (i:=2) nd rfl (Or.inl rfl) (bU mM (bT bg (pv 0) aJ (λ_ _=>rfl)) (pv 1)))
  (aC (mQ (bU Ik (bT bg (pv 0) aJ (λ_ _=>rfl)) (pv 1)) (yF (pv 0) aJ set_list))
  (bb (eV (pv 2))))),?_⟩
 have fin:∀(ms:List Int),ms≠ []→ms.length≤ns.length→∀H1,H1=H∨H1=upd H l (.lst (ms.map V.int))→H1 l=some (.lst (ms.map V.int))→
   (Jm (D3 (yR (rI (λ_ j=>0<j) λi j=>V.int (i%j)) (yR (DM K) (rW 0) (tC (.int 0))) (rW 1)) (tX 2)) (Jm (D3 (yR (rI LL λi j=>V.int (i / j)) (yR (DM K) (rW 0) (tC (.int 0))) (rW 1)) (Mh (rW 0) (tC (.int 0)) II)) (MU (rW 2))))
    {nx:=λ_ H'=>Q .aI H',rt:=Q} (start ["_law_left","_law_many","_law_digit"] [.ref l, .int m]) H1:=by
  intro ms Yr Oi H1 XI e1
  obtain ⟨x,r,rfl⟩:∃x r,ms=x::r:=by
   cases ms with
   |nil=>exact absurd rfl Yr
   |cons x r=>exact ⟨x,r,rfl⟩
  refine ⟨_,rfl,l,_,0, .int x,rfl,rfl,aD.of e1,bS (j:=0) rfl,_,rfl,_,_,rfl,rfl,h0,?_⟩;refine ⟨_,rfl,l,_,0, .int x,rfl,rfl,aD.of e1,bS (j:=0) rfl,_,rfl,_,_,rfl,rfl,⟨h0,h1⟩,?_⟩;refine ⟨_,rfl,l,_,0,0,rfl,rfl,e1,?_,?_⟩
  ·show iF (r.length+1|>λn=>((x::r).map V.int).length) 0=some 0
   unfold iF;rw [if_pos (by decide),if_pos (by simp)]
   rfl
  ·refine ⟨_,rfl,?_⟩
   have e2:upd H1 l (.lst (((x::r).map V.int).set 0 (.int (x / m))))=upd H l (.lst (((x / m)::r).map V.int)):=by
    rcases XI with z|z
    ·rw [z];rfl
    ·rw [z,qc];rfl
   rw [e2];exact q (x%m) ((x / m)::r) (Int.emod_nonneg _ (by omega)) (Int.emod_lt_of_pos _ h0) (by simp) (by simpa using Oi)
 obtain ⟨x,r,rfl⟩:∃x r,ns=x::r:=by
  cases ns with
  |nil=>exact absurd rfl gP
  |cons x r=>exact ⟨x,r,rfl⟩
 refine ⟨_,rfl,l,_,0, .int x,rfl,rfl,aD.of hl,bS (j:=0) rfl,_,_,rfl,rfl,_,rfl,?_⟩;refine rJ (λ_=>?_) (λ_=>?_)
 ·refine ⟨_,rfl,l,_,rfl, .inl (aD.of hl),_,_,rfl,rfl,_,rfl,?_⟩
  refine rJ (λc=>?_) (λ_=>?_)
  ·have c':=of_decide_eq_true c
   have YA:r≠ []:=by
    intro z;subst z;simp at c'
   refine ⟨_,rfl, .inl ⟨rfl,_,aD.of hl⟩,l,_,0,0, .int x,rfl,rfl,hl,by decide,by decide,?_,rfl,?_⟩
   ·simp [seqIndex?]
   ·exact fin r YA (by simp) _ (.inr rfl) aa
  ·exact fin (x::r) (by simp) (aT _) _ (.inl rfl) hl
 ·exact dh (fin (x::r) (by simp) (aT _) _ (.inl rfl) hl)
end
open Wb
abbrev Ct:Stmt:=top 27
def aP(r:List Nat):List V:=r.map λ(n:Nat)=>V.int (n:Int)
def Off(S:List Addr)(H H':Hp):Prop:=∀b o,b∉S→H b=some o→H' b=some o
theorem Off.trans{S:List Addr}{H H1 H2:Hp}(a:Off S H H1)(b:Off S H1 H2):Off S H H2:=λc o hc h=>b c o hc (a c o hc h)
theorem Off.of_same{S:List Addr}{H H':Hp}(h:az H H'):Off S H H':=λb o _ e=>h b o e
theorem Off.put{S:List Addr}{H:Hp}{a:Addr}{o:HO}(h:a∈S∨H a=none):Off S H (upd H a o):=λb u hb e=>by
 rw [ab (λz=>?_)]
 ·exact e
 ·rcases h with h|h
  ·rw [z] at hb;exact hb h
  ·rw [z,h] at e;cases e
structure aF (H:Hp) (T:Addr) (as:List Addr) (w:W):Prop where
 top:H T=some (.lst (as.map V.ref))
 nod:as.Nodup
 nT:T∉as
 len:as.length=w.length
 row:∀(i:Nat) a,as[i]? =some a→H a=some (.lst (aP (Wb.row w i)))
theorem aF.keep{H H':Hp}{T:Addr}{as:List Addr}{w:W}(R:aF H T as w)(h:∀b,b=T∨b∈as→H' b=H b):aF H' T as w:=
 ⟨by rw [h T (.inl rfl)];exact R.top,R.nod,R.nT,R.len,λi a e=>by rw [h a (.inr (cT e))];exact R.row i a e⟩
theorem aF.off{S:List Addr}{H H':Hp}{T:Addr}{as:List Addr}{w:W}(R:aF H T as w)(h:Off S H H')(hT:T∉S)(ha:∀a∈as,a∉S):aF H' T as w:=
 ⟨h _ _ hT R.top,R.nod,R.nT,R.len,λi a e=>h _ _ (ha a (cT e)) (R.row i a e)⟩
theorem aF.at{H:Hp}{T:Addr}{as:List Addr}{w:W}(R:aF H T as w){p:Nat}(hp:p<w.length):∃a,as[p]? =some a∧H a=some (.lst (aP (Wb.row w p))):=by
 have:p<as.length:=by rw [R.len];exact hp
 exact ⟨_,cN this,R.row p _ (cN this)⟩
theorem get_inj{α:Type}{l:List α}(h:l.Nodup){i j:Nat}{a:α}(h1:l[i]? =some a)(h2:l[j]? =some a):i=j:=by
 obtain ⟨a1,b1⟩:=bV.mp h1;obtain ⟨a2,b2⟩:=bV.mp h2;exact (List.getElem_inj h).mp (b1.trans b2.symm)
theorem aF.put{H H':Hp}{T:Addr}{as:List Addr}{w:W}(R:aF H T as w){p:Nat}{a:Addr}{r:List Nat}(ha:as[p]? =some a)(h:∀b,b=T∨b∈as→b≠a→H' b=H b)(e:H' a=some (.lst (aP r))):aF H' T as (w.set p r):=by
 have hp:p<w.length:=by rw [←R.len];exact (bV.mp ha).1
 have am:=cT ha;refine ⟨by rw [h T (.inl rfl) (λz=>R.nT (by rw [z];exact am))];exact R.top,R.nod,R.nT,by rw [R.len,fe],λi b hb=>?_⟩
 rw [gI hp]
 by_cases hi:p=i
 ·subst hi
  rw [ha] at hb;cases hb;rw [if_pos rfl];exact e
 ·rw [if_neg hi,h b (.inr (cT hb)) (λz=>hi (get_inj R.nod ha (by rw [←z];exact hb)))]
  exact R.row i b hb
theorem aF.snoc{H H':Hp}{T:Addr}{as:List Addr}{w:W}(R:aF H T as w){a:Addr}{r:List Nat}(na:a∉as)(nT:a≠T)(h:∀b,b∈as→H' b=H b)(eT:H' T=some (.lst ((as++ [a]).map V.ref)))(e:H' a=some (.lst (aP r))):aF H' T (as++ [a]) (w++ [r]):=by
 refine ⟨eT,?_,λz=>?_,by simp [R.len],λi b hb=>?_⟩
 ·rw [jf]
  exact ⟨R.nod,by simp,λx hx y hy z=>by
   have:y=a:=by simpa using hy
   rw [this] at z;rw [z] at hx;exact na hx⟩
 ·rcases cM.mp z with z|z
  ·exact R.nT z
  ·have z':T=a:=by simpa using z
   exact nT z'.symm
 ·rw [w6]
  by_cases hi:i<as.length
  ·rw [kH hi] at hb
   rw [if_neg (by rw [←R.len];omega),h b (cT hb)]
   exact R.row i b hb
  ·have eC:i=as.length:=by
    have:=(bV.mp hb).1
    simp at this;omega
   subst eC;rw [mm (aT _)] at hb;simp at hb;rw [if_pos R.len,←hb];exact e
theorem bC(r:List Nat):(aP r).length=r.length:=aM _
theorem mR(r:List Nat)(i n:Nat):aP (ins r i n)=ins (aP r) i (.int (n:Int)):=ins_map _ _ _ _
def Lr:Sp:=λvs H Q _=>∃(l:Addr)(ns:List Int)(m:Nat),vs= [.int (m:Int), .ref l]∧H l=some (.lst (ns.map V.int))∧ns≠ []∧ns.length≤2∧1≤m∧m≤14∧
 ∀(T:Addr)(as:List Addr)(w:W)(ds:List Int)(H':Hp),Off [l] H H'→H T=none→(∀a∈as,H a=none)→aF H' T as w→Good w→w.length=m→H' l=some (.lst (ds.map V.int))→ds≠ []→ds.length≤2→fI w+2=2*m→Q (.ref T) H'
section
variable {P:Program} {w:World} {K:PySem.W.Frag} {mg:Str→Option Value} {base:Heap}
theorem DX:aG ["_law_many","_law_left","_law_turns","_law_new","_law_p"] ["_law_many","_law_left"] (ao Ct):=⟨rfl,rfl,rfl,by decide+kernel,rfl,by decide+kernel,by decide+kernel⟩
theorem Ig(B:vw mg)(Tk:bM K mg "_law_take" qX ["_law_left","_law_many"])(D:bM K mg "_law_tree" Ct ["_law_many","_law_left"]):FnOk P w K mg base bY 2 D.f D.fd ["_law_many","_law_left"] Lr:=by
 refine D.F.ok DX (λvs H Q E h=>?_) (λbo A outer s H vs Q E hr h=>?_)
 ·obtain ⟨a,ns,k,rfl,_⟩:=h
  rfl
 obtain ⟨l,ns,m,rfl,hl,gP,hz,h1,cK,q⟩:=h;have nd:=DX.nd;have gT:=pR (P:=P) (w:=w) (base:=base) B Tk
 refine ⟨_,aC (bA (i:=2) nd rfl (Or.inl rfl) (cY (ae (cY ar) ar)))
  (aC (ic PassesOwn.never rfl (Cd rfl B.range (ae aJ (ae (pv 0) ar))) (bG (i:=3) nd rfl (Or.inl rfl))
   (aC (bA (i:=4) nd rfl (Or.inl rfl) (aW gT hr rfl Tk.m Tk.F.kp Tk.b .nil bK (ae (pv 1) (ae (pv 3) ar))))
   (aC (cL (fu PySem.F.plainAttrs_list PySem.F.slot_list_insert PySem.F.type_list_insert j4 (bT bg (pv 2) (pv 4) (λ_ _=>rfl))
     (ae (aW gT hr rfl Tk.m Tk.F.kp Tk.b .nil bK (ae (pv 1) (ae (bU fR (cq bP rfl B.len PySem.boot_len (ae (bT bg (pv 2) (pv 4) (λ_ _=>rfl)) ar)) aJ) ar))) (ae (pv 3) ar))))
   (bb (cL (fu PySem.F.plainAttrs_list PySem.F.slot_list_append PySem.F.type_list_append ft (pv 2) (ae (cY (ae (pv 4) ar)) ar)))))))
  (bb (eV (pv 2)))),?_⟩
 refine ⟨by show 0≤sizeLine;decide,λr0 Oo=>⟨by show 1≤sizeLine;decide,λT hT=>?_⟩⟩
 have OR:T≠r0:=λz=>by rw [z,aa] at hT;cases hT
 have GW:H T=none:=by rw [ab OR] at hT;exact hT
 have sC:l≠T:=ah hl GW;have nl0:l≠r0:=ah hl Oo;refine ⟨_,rfl,1,(m:Int),rfl,⟨by decide,by decide,by omega,by omega⟩,?_⟩
 refine jX (λi σ H'=>∃as w ds o3 o4,σ= [some (.int (m:Int)),some (.ref l),some (.ref T),o3,o4]∧Off [l] H H'∧(∀a∈as,H a=none)∧aF H' T as w∧Good w∧w.length=i+1∧H' l=some (.lst (ds.map V.int))∧ds≠ []∧ds.length≤2∧fI w=2*i) ?_ (λi σ H' hi hP=>?_) (λσ H' hP=>?_)
 ·refine ⟨[r0],[[]],ns,_,_,rfl,(Off.put (.inr Oo)).trans (Off.put (.inr hT)),λa ha=>?_,⟨aa,by simp,by simpa using OR,rfl,λi a e=>?_⟩,EB,rfl,?_,gP,hz,rfl⟩
  ·have:a=r0:=by simpa using ha
   rw [this];exact Oo
  ·cases i with
   |zero=>
    have:a=r0:=by simpa using e.symm
    rw [this,ab (Ne.symm OR),aa];rfl
   |succ i=>simp at e
  ·rw [ab sC,ab nl0];exact hl
 ·obtain ⟨as,w',ds,o3,o4,rfl,off,fr,R,g,hlen,BA,Hj,Ke,X5⟩:=hP
  have jz:l∉as:=λz=>by have:=fr l z;rw [hl] at this;cases this
  refine ⟨_,rfl,_,rfl,l,ds,_,rfl,BA,Hj,by omega,by omega,by omega,λd mX d0 d1 ng Hw=>?_⟩
  have R1:aF (upd H' l (.lst (mX.map V.int))) T as w':=R.keep λb hb=>by
   refine ab λz=>?_
   rcases hb with hb|hb
   ·exact sC (z.symm.trans hb)
   ·rw [z] at hb;exact jz hb
  obtain ⟨p,rfl⟩:=qf d0;have hp:p<w'.length:=by omega
  obtain ⟨a,ha,gG⟩:=R1.at hp;have KC:l≠a:=λz=>jz (by rw [z];exact cT ha)
  have mW:e7 (as.map V.ref) ((p:Nat):Int)=some (.ref a):=bS (by rw [bH,ha];rfl)
  refine ⟨_,rfl,_,rfl,T,_,_,_,rfl,rfl,aD.of R1.top,mW, .inl ⟨rfl,_,aD.of gG⟩,?_⟩;refine ⟨_,rfl,_,rfl,_,rfl,T,_,_,_,rfl,rfl,aD.of R1.top,mW,a,_,rfl, .inl (aD.of gG),_,_,rfl,rfl,?_⟩;have rl:=eF g p;rw [bC];refine ⟨l,mX,_,rfl,aa,ng,by omega,by omega,by omega,λd2 jv e0 e1 rF Kf=>?_⟩
  rw [qc]
  have R2:aF (upd H' l (.lst (jv.map V.int))) T as w':=R.keep λb hb=>by
   refine ab λz=>?_
   rcases hb with hb|hb
   ·exact sC (z.symm.trans hb)
   ·rw [z] at hb;exact jz hb
  have BF:=R2.row p a ha;refine ⟨_,rfl,a,_,d2,_,rfl,rfl,BF,e0,by rw [bC];omega,mq (by rw [bC];exact rl) (ba (by omega)),?_⟩
  obtain ⟨j,rfl⟩:=qf e0;have ew:(1:Int)+(i:Int)=((w'.length:Nat):Int):=by omega
  rw [ew,kI,←mR];have R3:aF (upd (upd H' l (.lst (jv.map V.int))) a (.lst (aP (ins (row w' p) j w'.length)))) T as (w'.set p (ins (row w' p) j w'.length)):=R2.put ha (λb _ hb=>ab hb) aa;refine ⟨_,rfl, .inl ⟨rfl,_,aD.of R3.top⟩,_,rfl,by show 1≤sizeLine;decide,λr gf=>?_⟩
  have OW:r≠T:=Ne.symm (ah R3.top gf)
  have HU:r∉as:=λz=>by
   obtain ⟨k,hk⟩:=fZ z
   have:=R3.row k r hk
   rw [gf] at this;cases this
  have OX:r≠l:=λz=>by
   rw [z,ab KC,aa] at gf;cases gf
  refine ⟨T,_, .ref r,rfl,rfl,by rw [ab (Ne.symm OW)];exact R3.top,mq (by rw [aM,R3.len,fe];exact aT _) (ba (by omega)),?_⟩
  have Sz:H r=none:=by
   cases e:H r with
   |none=>rfl
   |some o=>
    have:=off r o (by simpa using OX) e
    rw [ab (λz=>HU (by rw [z];exact cT ha)),ab OX] at gf
    rw [gf] at this;cases this
  have XS:H a=none:=fr a (cT ha);refine ⟨as++ [r],leaf w' p j,jv,_,_,rfl,?_,λb hb=>?_,?_,Bq g hp,by rw [qG];omega,?_,rF,by omega,by rw [Eo hp];omega⟩
  ·intro b o hb e
   have XX:b≠l:=by simpa using hb
   rw [ab (λz=>by rw [z,GW] at e;cases e),ab (λz=>by rw [z,Sz] at e;cases e),ab (λz=>by rw [z,XS] at e;cases e),ab XX]
   exact off b o hb e
  ·rcases cM.mp hb with z|z
   ·exact fr b z
   ·have:b=r:=by simpa using z
    rw [this];exact Sz
  ·refine R3.snoc (r:= [p]) HU OW (λb hb=>?_) ?_ ?_
   ·rw [ab (λz=>R3.nT (by rw [←z];exact hb)),ab (λz=>HU (by rw [←z];exact hb))]
   ·rw [aa,dY];rfl
   ·rw [ab OW,aa];rfl
  ·rw [ab sC,ab (Ne.symm OX),ab KC,aa]
 ·obtain ⟨as,w',ds,o3,o4,rfl,off,fr,R,g,hlen,BA,Hj,Ke,X5⟩:=hP
  exact ⟨_,rfl,q T as w' ds H' off GW fr R g (by omega) BA Hj Ke (by omega)⟩
end
abbrev uJ:Stmt:=top 28
abbrev sZ:Stmt:=top 29
theorem gn{r:List Nat}{i n:Nat}(h:r[i]? =some n):(aP r)[i]? =some (.int (n:Int)):=by unfold aP;rw [bH,h];rfl
theorem j9(r:List Nat):(aP r).all fO=true:=by
 rw [vg];intro x hx;obtain ⟨n,_,rfl⟩:=bX.mp hx;rfl
theorem qU{r:List Nat}{i:Nat}{z:V}(h:(aP r)[i]? =some z):∃n,r[i]? =some n∧z= .int (n:Int):=by
 unfold aP at h;rw [bH] at h;cases e:r[i]? with
 |none=>rw [e] at h;cases h
 |some n=>rw [e] at h;cases h;exact ⟨n,rfl,rfl⟩
theorem pA{r:List Nat}{p:Nat}(h:p∈r):r[r.idxOf p]? =some p:=by
 have lt:=vk.mpr h;rw [cN lt,AM lt]
theorem Kg{r:List Nat}(nd:r.Nodup){p m n:Nat}(h:p∈r)(hm:m<r.idxOf p)(e:r[m]? =some n):n≠p:=λz=>by
 rw [z] at e
 have:=get_inj nd e (pA h)
 omega
theorem mD(p:Nat):nS (.int (p:Int)) (.int (p:Int))=true:=by simp [nS]
theorem oq{r:List Nat}(nd:r.Nodup){p:Nat}(h:p∈r)(m:Nat)(z:V)(hm:m<r.idxOf p)(hz:(aP r)[m]? =some z):nS z (.int (p:Int))=false:=by
 obtain ⟨n,hn,rfl⟩:=qU hz
 have:=Kg nd h hm hn
 simp [nS];omega
def yL:Sp:=λvs H Q _=>∃(T sd:Addr)(as:List Addr)(w:W)(d:Nat×Nat),vs= [.ref T, .ref sd]∧aF H T as w∧Good w∧w.length≤14∧H sd=some (.tup (fS d))∧bL w d∧
 ∀t,H t=none→Q (.ref t) (upd H t (.tup (fS (uv w d))))
section
variable {P:Program} {w:World} {K:PySem.W.Frag} {mg:Str→Option Value} {base:Heap}
theorem DU:aG ["_law_turns","_law_side","_law_p","_law_q"] ["_law_turns","_law_side"] (ao uJ):=⟨rfl,rfl,rfl,by decide+kernel,rfl,by decide+kernel,by decide+kernel⟩
theorem Ie(B:vw mg)(D:bM K mg "_law_next" uJ ["_law_turns","_law_side"]):FnOk P w K mg base bY 1 D.f D.fd ["_law_turns","_law_side"] yL:=by
 refine D.F.ok DU (λvs H Q E h=>?_) (λbo A outer s H vs Q E hr h=>?_)
 ·obtain ⟨T,sd,as,w,d,rfl,_⟩:=h
  rfl
 obtain ⟨T,sd,as,w',⟨p,q'⟩,rfl,R,g,cK,zH,hd,q⟩:=h;have nd:=DU.nd
 refine ⟨_,aC (mQ (pv 1) (mP rfl (dO (bG (i:=2) nd rfl (Or.inl rfl)) (dO (bG (i:=3) nd rfl (Or.inl rfl)) jF))))
  (bb (eV (sW (ae (pv 3) (ae (bT bg (bT bg (pv 0) (pv 3) (λ_ _=>rfl))
   (bU mM (bU fR (fu PySem.F.plainAttrs_list PySem.F.slot_list_index PySem.F.type_list_index mL (bT bg (pv 0) (pv 3) (λ_ _=>rfl)) (ae (pv 2) ar)) aJ)
    (cq bP rfl B.len PySem.boot_len (ae (bT bg (pv 0) (pv 3) (λ_ _=>rfl)) ar))) (λ_ _=>rfl)) ar))))),?_⟩
 have Ka:p∈row w' q':=g.sym _ _ hd;have hq:q'<w'.length:=g.rng _ _ hd;obtain ⟨a,ha,gG⟩:=R.at hq;have mW:e7 (as.map V.ref) ((q':Nat):Int)=some (.ref a):=bS (by rw [bH,ha];rfl)
 have hlen:0<(row w' q').length:=r8 Ka;refine ⟨_,rfl,sd,_,rfl,cZ.of zH,rfl,_,_,rfl,_,_,rfl,rfl,?_⟩;refine ⟨_,rfl,_,rfl,_,rfl,T,_,_,_,rfl,rfl,aD.of R.top,mW,?_⟩;refine ⟨_,rfl,_,rfl,T,_,_,_,rfl,rfl,aD.of R.top,mW, .inl ⟨rfl,_,aD.of gG⟩,_,rfl,?_⟩;refine ⟨a,_,_,(row w' q').idxOf p,_,rfl,rfl,gG,rfl,j9 _,gn (pA Ka),mD p,oq (g.nod _) Ka,?_⟩;refine ⟨_,_,rfl,rfl,_,rfl,_,rfl,T,_,_,_,rfl,rfl,aD.of R.top,mW,a,_,rfl, .inl (aD.of gG),_,_,rfl,rfl,?_⟩;rw [bC];refine ⟨by omega,?_⟩
 have em:((((row w' q').idxOf p:Nat):Int)+1)%((row w' q').length:Int)=((((row w' q').idxOf p+1)%(row w' q').length:Nat):Int):=by rw [vf,Int.natCast_add];rfl
 have XU:e7 (aP (row w' q')) (((((row w' q').idxOf p:Nat):Int)+1)%((row w' q').length:Int))=some (.int (gX (row w' q') p:Nat)):=by
  rw [em];exact bS (gn (kj Ka))
 refine ⟨a,_,_,_,rfl,rfl,aD.of gG,XU,by show 2≤sizeLine;decide,λt ht=>?_⟩
 exact q t ht
def uO:Sp:=λvs H Q _=>∃(T sd:Addr)(as:List Addr)(w:W)(d:Nat×Nat),vs= [.ref T, .ref sd]∧aF H T as w∧Good w∧w.length≤14∧H sd=some (.tup (fS d))∧bL w d∧
 ∀(F:Addr)(L:List (Addr×(Nat×Nat)))(k:Nat)(H':Hp),az H H'→H F=none→H' F=some (.lst (L.map λe=>V.ref e.1))→nM H' L→L.map (·.2)=walk w d k→0<k→cA w k d=d→(∀j,0<j→j<k→cA w j d≠d)→Q (.ref F) H'
theorem Am:aG ["_law_turns","_law_side","_law_found","_law_here"] ["_law_turns","_law_side"] (ao sZ):=⟨rfl,rfl,rfl,by decide+kernel,rfl,by decide+kernel,by decide+kernel⟩
theorem zo{K:PySem.W.Frag}{H:Hp}{a:Addr}{d:Nat×Nat}(h:H a=some (.tup (fS d))):Dp K H (.ref a) (kG d):= .tup (cZ.of h) (.cons (.int _) (.cons (.int _) .nil))
theorem Fg(B:vw mg)(Nx:bM K mg "_law_next" uJ ["_law_turns","_law_side"])(D:bM K mg "_law_round" sZ ["_law_turns","_law_side"]):FnOk P w K mg base bY 2 D.f D.fd ["_law_turns","_law_side"] uO:=by
 refine D.F.ok Am (λvs H Q E h=>?_) (λbo A outer s H vs Q E hr h=>?_)
 ·obtain ⟨T,sd,as,w,d,rfl,_⟩:=h
  rfl
 obtain ⟨T,sd,as,w',d,rfl,R,g,cK,zH,hd,q⟩:=h;have nd:=Am.nd;have gN:=Ie (P:=P) (w:=w) (base:=base) B Nx
 refine ⟨_,aC (bA (i:=2) nd rfl (Or.inl rfl) (cY (ae (pv 1) ar)))
  (aC (bA (i:=3) nd rfl (Or.inl rfl) (aW gN hr rfl Nx.m Nx.F.kp Nx.b .nil bK (ae (pv 0) (ae (pv 1) ar))))
  (aC (wW PassesOwn.never (gH (yE hr.units) (pv 3) (pv 1) (bu _))
   (aC (cL (fu PySem.F.plainAttrs_list PySem.F.slot_list_append PySem.F.type_list_append ft (pv 2) (ae (pv 3) ar)))
    (bb (bA (i:=3) nd rfl (Or.inl rfl) (aW gN hr rfl Nx.m Nx.F.kp Nx.b .nil bK (ae (pv 0) (ae (pv 3) ar)))))))
  (bb (eV (pv 2))))),?_⟩
 refine ⟨_,rfl,by show 1≤sizeLine;decide,λF hF=>?_⟩
 have s1:az H (upd H F (.lst [.ref sd])):=av hF _;have R1:aF (upd H F (.lst [.ref sd])) T as w':=R.off (S:= []) (Off.of_same s1) (by simp) (by simp)
 refine ⟨_,rfl,_,rfl,T,sd,as,w',d,rfl,R1,g,cK,s1 _ _ zH,hd,λt ht=>?_⟩;have dl:=gb g;have hw:w'.length*w'.length≤196:=xu cK cK
 refine FE (λσ H'=>∃(k:Nat)(L:List (Addr×(Nat×Nat)))(t:Addr),σ= [some (.ref T),some (.ref sd),some (.ref F),some (.ref t)]∧0<k∧L.map (·.2)=walk w' d k∧(∀j,0<j→j<k→cA w' j d≠d)∧az H H'∧H' F=some (.lst (L.map λe=>V.ref e.1))∧nM H' L∧H' t=some (.tup (fS (cA w' k d))))
  (λσ H'=>(aK w').length+1-(match H' F with|some (.lst xs)=>xs.length|_=>0)) ?_ (λσ H' hP=>?_) (λσ H Q Q' hq h=>?_)
 ·have nFt:F≠t:=λz=>by rw [←z,aa] at ht;cases ht
  have nsF:sd≠F:=ah zH hF;refine ⟨1,[(sd,d)],t,rfl,by omega,rfl,λj h1 h2=>by omega,s1.trans (av ht _),by rw [ab nFt];exact aa,λe he=>?_,aa⟩
  have t4:e=(sd,d):=by simpa using he
  rw [t4];exact (s1.trans (av ht _)) _ _ zH
 ·obtain ⟨k,L,t,rfl,hk,hL,zG,sm,EE,Du,vJ⟩:=hP
  refine ⟨_,rfl,_,rfl,_,_,zo vJ,zo (sm _ _ zH),by have:=rp (cA w' k d);omega,_,rfl,?_⟩
  refine rJ (λc=>?_) (λc=>?_)
  ·have gP:cA w' k d≠d:=λz=>by
    rw [(wg _ _).mpr z] at c;cases c
   have Mp:∀j,0<j→j<k+1→cA w' j d≠d:=λj h1 h2=>by
    by_cases hj:j=k
    ·rw [hj];exact gP
    ·exact zG j h1 (by omega)
   have Se:=uX g hd Mp;have lL:L.length=k:=by have:=congrArg List.length hL;rw [aM,jL] at this;exact this
   refine ⟨_,rfl, .inl ⟨rfl,_,aD.of EE⟩,_,rfl,F,_, .ref t,rfl,rfl,EE,mq (by rw [aM,lL];exact aT _) (ba (by omega)),?_⟩
   have nFH:H F=none:=hF;have Ll:az H (upd H' F (.lst ((L.map λe=>V.ref e.1)++ [.ref t]))):=λb o e=>by rw [ab (ah e hF)];exact sm b o e
   have R2:aF (upd H' F (.lst ((L.map λe=>V.ref e.1)++ [.ref t]))) T as w':=R.off (S:= []) (Off.of_same Ll) (by simp) (by simp)
   have T6:t≠F:=λz=>by rw [z,EE] at vJ;cases vJ
   refine ⟨_,rfl,_,rfl,T,t,as,w',cA w' k d,rfl,R2,g,cK,by rw [ab T6];exact vJ,gh g hd k,λt2 Hs=>?_⟩
   have HV:t2≠F:=λz=>by rw [z,aa] at Hs;cases Hs
   have T5:H' t2=none:=by rw [ab HV] at Hs;exact Hs
   refine ⟨⟨k+1,L++ [(t,cA w' k d)],t2,rfl,by omega,?_,Mp,Ll.trans (av Hs _),?_,λe he=>?_,aa⟩,?_⟩
   ·rw [dY,hL,uY];rfl
   ·rw [ab (Ne.symm HV),aa,dY];rfl
   ·rcases cM.mp he with z|z
    ·have xR:=Du e z
     rw [ab (ah xR T5),ab (λy=>by rw [y,EE] at xR;cases xR)]
     exact xR
    ·have z':e=(t,cA w' k d):=by simpa using z
     rw [z'];show upd _ t2 _ t=_;rw [ab (ah vJ T5),ab T6];exact vJ
   ·show (aK w').length+1-_<(aK w').length+1-_
    rw [ab (Ne.symm HV),aa,EE];simp only [dE,aM,List.length_singleton];omega
  ·have heq:cA w' k d=d:=by
    apply Classical.byContradiction;intro z;apply c
    have:PyData.eqv (kG (cA w' k d)) (kG d)=false:=by
     cases y:PyData.eqv (kG (cA w' k d)) (kG d) with
     |false=>rfl
     |true=>exact absurd ((wg _ _).mp y) z
    rw [this];rfl
   exact ⟨_,rfl,q F L k H' sm hF EE Du hL hk heq zG⟩
 ·obtain ⟨v1,e1,v2,e2,d',e',a,b,c,k,ek,q⟩:=h
  exact ⟨v1,e1,v2,e2,d',e',a,b,c,k,ek,hq _ _ q⟩
end
end xv
namespace L2
open PySem
theorem Df{K:PySem.W.Frag}{H:Hp}:∀{M:List (Addr×(Nat×Nat))},nM H M→dP K H (M.map λe=>V.ref e.1) (M.map λe=>kG e.2)
 | [],_=> .nil
 |e::M,h=> .cons (.tup (cZ.of (h e b7)) (.cons (.int _) (.cons (.int _) .nil))) (Df λx hx=>h x (cm _ hx))
end L2
namespace xv
open PySem L2 Wb
theorem GP{i:Nat}{x:V}{σ:St}{H:Hp}{P R:St→Hp→Prop}(h:P (σ.set i (some x)) H):tX i x σ H (λcO H4=>D5 cO H4 (λb H5=>if b=true then P cO H5 else R cO H5)):=by
 show (if true=true then P (σ.set i (some x)) H else R (σ.set i (some x)) H);rw [if_pos rfl];exact h
abbrev uK:Stmt:=top 30
theorem Lg{w:W}(g:Good w)(h2:2≤w.length){p:Nat}(hp:p<w.length):row w p≠ []:=by
 intro z
 have hq:∃q,q<w.length∧q≠p:=by
  by_cases h:p=0
  ·exact ⟨1,by omega,by omega⟩
  ·exact ⟨0,by omega,λy=>h y.symm⟩
 obtain ⟨q,hq,ne⟩:=hq;have r:=((g.con p hp).symm g.sym).trans (g.con q hq)
 have:∀{a b},Reach w a b→a=p→b=p:=λ {a b} h=>by
  induction h with
  |refl=>exact id
  |step _ hr ih=>
   intro e
   have:=ih e
   rw [this,z] at hr;cases hr
 exact ne (this r rfl)
structure M1 (H:Hp) (w:W) (S:Addr) (L:List (Addr×(Nat×Nat))):Prop where
 at':H S=some (.lst (L.map λe=>V.ref e.1))
 prs:nM H L
 dart:∀e∈L,bL w e.2
 few:L.length≤196
def Pf:Sp:=λvs H Q _=>∃(T l:Addr)(b:Bool)(as:List Addr)(w:W)(ns:List Int),vs= [.ref T, .ref l, .bl b]∧aF H T as w∧Good w∧2≤w.length∧w.length≤14∧H l=some (.lst (ns.map V.int))∧ns≠ []∧ns.length≤2∧l≠T∧l∉as∧
 ∀(w':W)(ds:List Int)(H':Hp),Off (l::as) H H'→aF H' T as w'→Good w'→w'.length=w.length→H' l=some (.lst (ds.map V.int))→ds≠ []→ds.length≤2→fI w'≤fI w+2→Q .aI H'
section
variable {P:Program} {w:World} {K:PySem.W.Frag} {mg:Str→Option Value} {base:Heap}
theorem IU:aG ["_law_turns","_law_left","_law_plane","_law_p","_law_r","_law_sides_here","_law_q","_law_turn","_law_u","_law_v"] ["_law_turns","_law_left","_law_plane"] (ao uK):=⟨rfl,rfl,rfl,by decide+kernel,rfl,by decide+kernel,by decide+kernel⟩
theorem KN(B:vw mg)(Tk:bM K mg "_law_take" qX ["_law_left","_law_many"])(Nx:bM K mg "_law_next" uJ ["_law_turns","_law_side"])(Rd:bM K mg "_law_round" sZ ["_law_turns","_law_side"])
  (D:bM K mg "_law_tie" uK ["_law_turns","_law_left","_law_plane"]):FnOk P w K mg base bY 3 D.f D.fd ["_law_turns","_law_left","_law_plane"] Pf:=by
 refine D.F.ok IU (λvs H Q E h=>?_) (λbo A outer s H vs Q E hr h=>?_)
 ·obtain ⟨T,l,b,as,w,ns,rfl,_⟩:=h
  rfl
 obtain ⟨T,l,b,as,w',ns,rfl,R,g,h2,cK,hl,gP,hz,sC,jz,q⟩:=h;have nd:=IU.nd;have gT:=(pR (P:=P) (w:=w) (base:=base) B Tk).mono (show 1≤2 by decide)
 have gR:=Fg (P:=P) (w:=w) (base:=base) B Nx Rd;have YG:w'.length*w'.length≤196:=xu cK cK;have yt:(["_law_side","_law_p","_law_turns"]:List Str).Nodup:=by decide+kernel
 obtain ⟨tE,pE,rE⟩:∃t,kK (oT bY P w K mg base ["_law_turns","_law_left","_law_plane","_law_p","_law_r","_law_sides_here","_law_q","_law_turn","_law_u","_law_v"] "_law_tie" (ao uK) D.f bo A outer s H E).iV ((eB uK).drop 4) t∧
   ∀(p r:Nat)(S:Addr)(L:List (Addr×(Nat×Nat)))(ds:List Int)(o6 o7:Option V)(H1:Hp),Off (l::as) H H1→aF H1 T as w'→p<w'.length→r∈row w' p→M1 H1 w' S L→H1 l=some (.lst (ds.map V.int))→ds≠ []→ds.length≤2→S≠l→S≠T→S∉as→
    t {nx:=λ_ H'=>Q .aI H',rt:=Q} [some (.ref T),some (.ref l),some (.bl b),some (.int (p:Int)),some (.int (r:Int)),some (.ref S),o6,o7,none,none] H1:=by
  refine ⟨_,aC (jI (i:=5) (NC:= ["_law_side","_law_p","_law_turns"]) (src:= [none,some 3,some 0]) rfl nd rfl (Or.inl rfl) (bE.of (ao uK) rfl rfl (by decide+kernel) (by decide+kernel) (by decide+kernel)) ⟨rfl,rfl,rfl,rfl,trivial⟩ (jG (pv 5))
    (λ_ _ _=>bG (i:=0) yt rfl (Or.inl rfl)) (λ_ _ _=>Ab (PW.pt (DL (gH O2 (bT (zR (K:=K)) (pv 0) aJ (λ_ _=>rfl)) (pv 1) (bu _)) (Af (gH (B9 (K:=K)) (bT (zR (K:=K)) (pv 0) aJ (λ_ _=>rfl)) (bT (wH (K:=K)) (pv 2) (pv 1) (λ_ _=>rfl)) rfl))))) (λ_ _ _=>pv 0) rfl)
   (bb (uE (gH (yE hr.units) (pv 5) (cY ar) (bu _))
    (aC (mQ (bT bg (pv 5) (aW gT hr rfl Tk.m Tk.F.kp Tk.b .nil bK (ae (pv 1) (ae (cq bP rfl B.len PySem.boot_len (ae (pv 5) ar)) ar))) (λ_ _=>rfl)) (mP rfl (dO (bG (i:=8) nd rfl (Or.inl rfl)) (dO (bG (i:=9) nd rfl (Or.inl rfl)) jF))))
    (aC (cL (fu PySem.F.plainAttrs_list PySem.F.slot_list_insert PySem.F.type_list_insert j4 (bT bg (pv 0) (pv 3) (λ_ _=>rfl)) (ae (fu PySem.F.plainAttrs_list PySem.F.slot_list_index PySem.F.type_list_index mL (bT bg (pv 0) (pv 3) (λ_ _=>rfl)) (ae (pv 4) ar)) (ae (pv 8) ar))))
    (bb (cL (fu PySem.F.plainAttrs_list PySem.F.slot_list_insert PySem.F.type_list_insert j4 (bT bg (pv 0) (pv 8) (λ_ _=>rfl)) (ae (fu PySem.F.plainAttrs_list PySem.F.slot_list_index PySem.F.type_list_index mL (bT bg (pv 0) (pv 8) (λ_ _=>rfl)) (ae (pv 9) ar)) (ae (pv 3) ar))))))) lH)),?_⟩
  intro p r S L ds o6 o7 H1 off R1 hp yb sd ET ng Hw TQ TN MA;obtain ⟨a,ha,gG⟩:=R1.at hp;have mW:e7 (as.map V.ref) ((p:Nat):Int)=some (.ref a):=bS (by rw [bH,ha];rfl)
  refine ⟨_,rfl,S,rfl,⟨_,aD.of sd.at'⟩,λDd hD=>?_⟩;have Kz:S≠Dd:=ah sd.at' hD;refine yh (L.map λe=>V.ref e.1).length (λi iQ Hc=>∃(M:List (Addr×(Nat×Nat)))(o:Option V),iQ= [o,some (.int (p:Int)),some (.ref T)]∧Hc=upd H1 Dd (.lst (M.map λe=>V.ref e.1))∧(∀e∈M,e∈L∧e.2.1≠p∧e.2.1∉row w' p)∧M.length≤i) ?_ ?_ ?_ ?_ ?_
  ·exact ⟨[],none,rfl,rfl,(λe he=>by cases he),aT _⟩
  ·rintro i iQ Hc hi ⟨M,o,rfl,rfl,_,_⟩
   exact ⟨_,_,aD.of (by rw [ab Kz];exact sd.at'),cN hi⟩
  ·rintro i iQ Hc hi ⟨M,o,rfl,rfl,_,_⟩
   exact ⟨_,aD.of (by rw [ab Kz];exact sd.at'),hi⟩
  ·rintro i x iQ Hc H3 hi ⟨M,o,rfl,rfl,hM,NW⟩ ⟨rfl,hx⟩
   have vK:=hx _ (aD.of (by rw [ab Kz];exact sd.at'))
   have eC:i<L.length:=by simpa using hi
   rw [bH,cN eC] at vK;have ex:x= .ref (L[i]).1:=(Option.some.inj vK).symm;subst ex;have hm:L[i]∈L:=jN eC
   have wB:upd H1 Dd (.lst (M.map λe=>V.ref e.1)) (L[i]).1=some (.tup (fS (L[i]).2)):=by
    have:=sd.prs _ hm
    rw [ab (ah this hD)];exact this
   have TK:T≠Dd:=ah R1.top hD;have nDa:a≠Dd:=ah gG hD;refine ⟨_,rfl,(L[i]).1,_,0,_,rfl,rfl,cZ.of wB,bS (j:=0) rfl,_,rfl,rfl,_,rfl,?_⟩;refine rJ (λc=>?_) (λc=>?_)
   ·refine ⟨_,rfl,(L[i]).1,_,0,_,rfl,rfl,cZ.of wB,bS (j:=0) rfl,?_⟩
    refine ⟨_,rfl,_,rfl,T,_,_,_,rfl,rfl,aD.of (by rw [ab TK];exact R1.top),mW,a,_,rfl, .inl (aD.of (by rw [ab nDa];exact gG)),rfl,j9 _,_,rfl,?_⟩
    refine rJ (λc2=>?_) (λc2=>?_)
    ·refine ⟨_,rfl,_,aa,mq (by rw [aM];exact NW) (ba (by have:=sd.few;omega)),M++ [L[i]],_,rfl,?_,λe he=>?_,by simp;omega⟩
     ·rw [qc,dY];rfl
     ·rcases cM.mp he with z|z
      ·exact hM e z
      ·have z':e=L[i]:=by simpa using z
       rw [z'];refine ⟨hm,λy=>?_,λy=>?_⟩
       ·rw [show V.int ((L[i]).2.1:Int)=V.int (p:Int) by rw [y]] at c
        simp at c
       ·have:BH (V.int ((L[i]).2.1:Int)) (aP (row w' p))=true:=by
         unfold BH;rw [List.any_eq_true];exact ⟨_,bX.mpr ⟨_,y,rfl⟩,mD _⟩
        have c3:(!BH (V.int ((L[i]).2.1:Int)) (aP (row w' p)))=true:=c2;rw [this] at c3;cases c3
    ·exact ⟨M,_,rfl,rfl,hM,by omega⟩
   ·exact dh ⟨M,_,rfl,rfl,hM,by omega⟩
  ·rintro iQ Hc ⟨M,o,rfl,rfl,hM,NW⟩
   have nDl:l≠Dd:=ah ET hD;have TK:T≠Dd:=ah R1.top hD;have few:=sd.few;rw [aM] at NW
   have UW:nM (upd H1 Dd (.lst (M.map λe=>V.ref e.1))) M:=λe he=>by
    have:=sd.prs e (hM e he).1
    rw [ab (ah this hD)];exact this
   refine ⟨_,rfl,by show 0≤sizeLine;decide,λe1 xR=>?_⟩
   have n1D:e1≠Dd:=λz=>by rw [z,aa] at xR;cases xR
   have Cw:az (upd H1 Dd (.lst (M.map λe=>V.ref e.1))) (upd (upd H1 Dd (.lst (M.map λe=>V.ref e.1))) e1 (.lst [])):=av xR _;have MO:nM (upd (upd H1 Dd (.lst (M.map λe=>V.ref e.1))) e1 (.lst [])) M:=λe he=>Cw _ _ (UW e he);have NS:upd (upd H1 Dd (.lst (M.map λe=>V.ref e.1))) e1 (.lst []) Dd=some (.lst (M.map λe=>V.ref e.1)):=Cw _ _ aa;have MK:Off (l::as) H (upd (upd H1 Dd (.lst (M.map λe=>V.ref e.1))) e1 (.lst [])):=off.trans ((Off.put (.inr hD)).trans (Off.put (.inr xR)));have Hr:az H1 (upd (upd H1 Dd (.lst (M.map λe=>V.ref e.1))) e1 (.lst [])):=(av hD _).trans Cw;have R3:aF (upd (upd H1 Dd (.lst (M.map λe=>V.ref e.1))) e1 (.lst [])) T as w':=R1.off (S:= []) (Off.of_same Hr) (by simp) (by simp)
   have EU:=Hr _ _ ET;refine ⟨_,_, .lst (aD.of NS) (Df MO), .lst (aD.of aa) .nil,?_,_,rfl,?_⟩
   ·rw [PyData.depth]
    have:=e8 (f:=λe:Addr×(Nat×Nat)=>kG e.2) (k:=2) (λe=>rp e.2) M
    omega
   generalize RD:upd (upd H1 Dd (.lst (M.map λe=>V.ref e.1))) e1 (.lst [])=H3 at*;refine rJ (λc=>?_) (λc=>?_)
   ·have hM0:0<M.length:=by
     cases M with
     |nil=>simp [PyData.eqv,PyData.eqvAll] at c
     |cons _ _=>simp
    refine ⟨_,rfl,_,rfl,_,rfl,Dd,_,rfl, .inl (aD.of NS),?_⟩;rw [aM];refine ⟨l,ds,_,rfl,EU,ng,by omega,by omega,by omega,λdI jv d0 d1 rF Kf=>?_⟩
    obtain ⟨d,rfl⟩:=qf d0;have hd:d<M.length:=by omega
    have nlD:Dd≠l:=λz=>nDl z.symm;have RC:upd H3 l (.lst (jv.map V.int)) Dd=some (.lst (M.map λe=>V.ref e.1)):=by rw [ab nlD];exact NS
    obtain ⟨Yp,OA,YF⟩:=hM _ (jN hd);have n5:=sd.dart _ Yp;have wB:=MO _ (jN hd);have ntl:(M[d]).1≠l:=λz=>by rw [z,EU] at wB;cases wB
    refine ⟨Dd,_,_, .ref (M[d]).1,rfl,rfl,aD.of RC,bS (by rw [bH,cN hd];rfl),?_⟩
    refine ⟨(M[d]).1,_,rfl,cZ.of (by rw [ab ntl];exact wB),rfl,_,_,rfl,_,_,rfl,rfl,?_⟩
    generalize M[d]=me at*;obtain ⟨Qc,u,v⟩:=me;dsimp only at*;have hu:u<w'.length:=gx n5
    have R4:aF (upd H3 l (.lst (jv.map V.int))) T as w':=R3.keep λb hb=>by
     refine ab λz=>?_
     rcases hb with hb|hb
     ·exact sC (z.symm.trans hb)
     ·rw [z] at hb;exact jz hb
    have x9:=R4.row p a ha;have rlp:=eF g p;have rlu:=eF g u;have OJ:=vk.mpr yb;have jlt:(row w' u).idxOf v<(row w' u).length:=vk.mpr n5;refine ⟨_,rfl,_,rfl,T,_,_,_,rfl,rfl,aD.of R4.top,mW, .inl ⟨rfl,_,aD.of x9⟩,?_⟩;refine ⟨_,rfl,_,rfl,T,_,_,_,rfl,rfl,aD.of R4.top,mW, .inl ⟨rfl,_,aD.of x9⟩,_,rfl,?_⟩;refine ⟨a,_,_,(row w' p).idxOf r,_,rfl,rfl,x9,rfl,j9 _,gn (pA yb),mD r,oq (g.nod _) yb,?_⟩;refine ⟨_,rfl,a,_,_,_,rfl,rfl,x9,by omega,by rw [bC];omega,mq (by rw [bC];exact rlp) (ba (by omega)),?_⟩
    rw [kI,←mR];have R5:aF (upd (upd H3 l (.lst (jv.map V.int))) a (.lst (aP (ins (row w' p) ((row w' p).idxOf r) u)))) T as (w'.set p (ins (row w' p) ((row w' p).idxOf r) u)):=R4.put ha (λb _ hb=>ab hb) aa;obtain ⟨a2,GY,_⟩:=R4.at hu;have lj:=R5.row u a2 GY;rw [gI hp,if_neg (Ne.symm OA)] at lj;have at2:e7 (as.map V.ref) ((u:Nat):Int)=some (.ref a2):=bS (by rw [bH,GY];rfl)
    refine ⟨_,rfl,_,rfl,T,_,_,_,rfl,rfl,aD.of R5.top,at2, .inl ⟨rfl,_,aD.of lj⟩,?_⟩;refine ⟨_,rfl,_,rfl,T,_,_,_,rfl,rfl,aD.of R5.top,at2, .inl ⟨rfl,_,aD.of lj⟩,_,rfl,?_⟩;refine ⟨a2,_,_,(row w' u).idxOf v,_,rfl,rfl,lj,rfl,j9 _,gn (pA n5),mD v,oq (g.nod _) n5,?_⟩;refine ⟨_,rfl,a2,_,_,_,rfl,rfl,lj,by omega,by rw [bC];omega,mq (by rw [bC];exact rlu) (ba (by omega)),?_⟩
    rw [kI,←mR];have R6:aF (upd (upd (upd H3 l (.lst (jv.map V.int))) a (.lst (aP (ins (row w' p) ((row w' p).idxOf r) u)))) a2 (.lst (aP (ins (row w' u) ((row w' u).idxOf v) p)))) T as (yS w' p ((row w' p).idxOf r) u ((row w' u).idxOf v)):=R5.put GY (λb _ hb=>ab hb) aa;have KC:l≠a:=λz=>jz (by rw [z];exact cT ha)
    have TZ:l≠a2:=λz=>jz (by rw [z];exact cT GY)
    refine q _ jv _ ?_ R6 (ED g hp hu OA YF) (uU _ _ _ _ _) ?_ rF (by omega) (by rw [Gm hp hu OA];exact aT _)
    ·exact MK.trans ((Off.put (.inl b7)).trans ((Off.put (.inl (cm _ (cT ha)))).trans (Off.put (.inl (cm _ (cT GY))))))
    ·rw [ab TZ,ab KC,aa]
   ·exact q w' ds _ MK R3 g rfl EU ng Hw (by omega)
 have OT:(["_law_s","_law_q"]:List Str).Nodup:=by decide+kernel
 refine ⟨_,aC (bA (i:=3) nd rfl (Or.inr rfl) (aW gT hr rfl Tk.m Tk.F.kp Tk.b .nil bK (ae (pv 1) (ae (cq bP rfl B.len PySem.boot_len (ae (pv 0) ar)) ar))))
  (aC (bA (i:=4) nd rfl (Or.inl rfl) (bT bg (bT bg (pv 0) (pv 3) (λ_ _=>rfl)) (aW gT hr rfl Tk.m Tk.F.kp Tk.b .nil bK (ae (pv 1) (ae (cq bP rfl B.len PySem.boot_len (ae (bT bg (pv 0) (pv 3) (λ_ _=>rfl)) ar)) ar))) (λ_ _=>rfl)))
  (aC (bA (i:=5) nd rfl (Or.inl rfl) (aW gR hr rfl Rd.m Rd.F.kp Rd.b .nil bK (ae (pv 0) (ae (sW (ae (pv 3) (ae (pv 4) ar))) ar))))
  (aC (uE (DJ (K8 (pv 2)))
   (aC (bA (i:=5) nd rfl (Or.inl rfl) (cY ar))
   (bb (ic PassesOwn.never rfl (uC rfl B.enumerate (ae (pv 0) ar)) (mP rfl (dO (bG (i:=6) nd rfl (Or.inr rfl)) (dO (bG (i:=7) nd rfl (Or.inl rfl)) jF)))
    (bb (cL (fu PySem.F.plainAttrs_list PySem.F.slot_list_extend PySem.F.type_list_extend BX (pv 5) (ae (Cc (NC:= ["_law_s","_law_q"]) (src:= [none,some 6]) rfl (bE.of (ao uK) rfl rfl (by decide+kernel) (by decide+kernel) (by decide+kernel)) ⟨rfl,rfl,trivial⟩ (jG (pv 7))
     (λ_ _ _=>bG (i:=0) OT rfl (Or.inl rfl)) (λ_ _ _=>lI) (λ_ _ _=>sW (ae (pv 1) (ae (pv 0) ar)))) ar))))))) lH) pE))),?_⟩
 have GX:H T=_:=R.top;have lmap:(as.map V.ref).length=w'.length:=by rw [aM,R.len]
 refine ⟨_,rfl,_,rfl,T,_,rfl, .inl (aD.of R.top),l,ns,_,rfl,hl,gP,by omega,by omega,by omega,λdI mX d0 d1 ng Hw=>?_⟩
 obtain ⟨p,rfl⟩:=qf d0;have hp:p<w'.length:=by omega
 have keep:∀(o:HO),aF (upd H l o) T as w':=λo=>R.keep λb hb=>by
  refine ab λz=>?_
  rcases hb with hb|hb
  ·exact sC (z.symm.trans hb)
  ·rw [z] at hb;exact jz hb
 have R1:=keep (.lst (mX.map V.int));obtain ⟨a,ha,gG⟩:=R1.at hp;have mW:e7 (as.map V.ref) ((p:Nat):Int)=some (.ref a):=bS (by rw [bH,ha];rfl)
 have rne:=Lg g h2 hp;have aan:0<(row w' p).length:=vp.mpr rne;have rl:=eF g p;have U8:=bC (row w' p);refine ⟨_,rfl,_,rfl,T,_,_,_,rfl,rfl,aD.of R1.top,mW,?_⟩;refine ⟨_,rfl,_,rfl,_,rfl,T,_,_,_,rfl,rfl,aD.of R1.top,mW,a,_,rfl, .inl (aD.of gG),l,mX,_,rfl,aa,ng,by omega,by omega,by omega,λdI2 jv e0 e1 rF Kf=>?_⟩
 rw [qc];obtain ⟨j,rfl⟩:=qf e0;have hj:j<(row w' p).length:=by omega
 have R2:=keep (.lst (jv.map V.int));have BF:=R2.row p a ha;refine ⟨a,_,_,_,rfl,rfl,aD.of BF,bS (gn (cN hj)),?_⟩;have yb:(row w' p)[j]∈row w' p:=jN hj;generalize (row w' p)[j]=r at yb;have MH:Off (l::as) H (upd H l (.lst (jv.map V.int))):=Off.put (.inl b7);have zC:upd H l (.lst (jv.map V.int)) l=some (.lst (jv.map V.int)):=aa;generalize upd H l (.lst (jv.map V.int))=H2 at R2 MH zC;refine ⟨_,rfl,_,rfl,_,rfl,by show 2≤sizeLine;decide,λsd zH=>?_⟩
 have ss:=av zH (.tup [V.int (p:Int),V.int (r:Int)]);have R3:aF (upd H2 sd (.tup [V.int (p:Int),V.int (r:Int)])) T as w':=R2.off (S:= []) (Off.of_same ss) (by simp) (by simp)
 refine ⟨T,sd,as,w',(p,r),rfl,R3,g,cK,aa,yb,λF L k H4 sm4 EF hF Du hL hk hit zG=>?_⟩;have IZ:az H2 H4:=ss.trans sm4;have R4:aF H4 T as w':=R2.off (S:= []) (Off.of_same IZ) (by simp) (by simp)
 have Oc:=IZ _ _ zC;have ML:Off (l::as) H H4:=MH.trans (Off.of_same IZ);have n5:bL w' (p,r):=yb;have kd:=uX g n5 zG;have dl:=gb g;have MZ:∀e∈L,bL w' e.2:=λe he=>oO g n5 (k:=k) e.2 (by rw [←hL];exact bX.mpr ⟨e,he,rfl⟩)
 have aaa:L.length=k:=by have:=congrArg List.length hL;rw [aM,jL] at this;exact this
 have nFl:F≠l:=λz=>by rw [z,ss _ _ zC] at EF;cases EF
 have nFT:F≠T:=λz=>by rw [z,R3.top] at EF;cases EF
 have TL:F∉as:=λz=>by
  obtain ⟨i,hi⟩:=fZ z;rw [R3.row i F hi] at EF;cases EF
 refine ⟨_,rfl,_,rfl,rJ (λ_=>?_) (λ_=>?_)⟩
 ·
  refine ⟨by show 0≤sizeLine;decide,λS hS=>?_⟩
  have TQ:S≠l:=λz=>by rw [z,Oc] at hS;cases hS
  have TN:S≠T:=λz=>by rw [z,R4.top] at hS;cases hS
  have MA:S∉as:=λz=>by
   obtain ⟨i,hi⟩:=fZ z;rw [R4.row i S hi] at hS;cases hS
  refine ⟨_,rfl,T,rfl,⟨_,(av hS _) _ _ R4.top⟩,wx (xs:=as.map V.ref) (λi σ H'=>∃(o6 o7:Option V)(L:List (Addr×(Nat×Nat))),σ= [some (.ref T),some (.ref l),some (.bl b),some (.int (p:Int)),some (.int (r:Int)),some (.ref S),o6,o7,none,none]∧az H4 H'∧H' S=some (.lst (L.map λe=>V.ref e.1))∧nM H' L∧(∀e∈L,bL w' e.2)∧L.length≤i*14) ?_ ?_ ?_ ?_⟩
  ·exact ⟨_,_,[],rfl,av hS _,aa,(λe he=>by cases he),(λe he=>by cases he),cW _⟩
  ·rintro i σ H' _ ⟨o6,o7,L,rfl,sm,_⟩
   exact aD.of (sm _ _ R4.top)
  ·rintro i x t σ H5 hx ht ⟨o6,o7,L,rfl,FA,NY,BC,N3,Hh⟩
   rw [bH] at hx;obtain ⟨ai,EK,rfl⟩:=Option.map_eq_some_iff.mp hx;have hi:i<w'.length:=by rw [←R4.len];exact (bV.mp EK).1
   refine ⟨t,_,rfl,cZ.of aa,rfl,_,_,rfl,_,_,rfl,rfl,?_⟩;have s6:=av ht (.tup [V.int (i:Int),V.ref ai]);generalize upd H5 t (.tup [V.int (i:Int),V.ref ai])=H6 at s6;have ya:=s6 _ _ (FA _ _ (R4.row i ai EK));have NZ:=s6 _ _ NY;have rli:=eF g i;refine ⟨_,rfl, .inl ⟨rfl,_,aD.of NZ⟩,_,rfl,ai,rfl,⟨_,aD.of ya⟩,λDd hD=>?_⟩;have Kz:S≠Dd:=ah NZ hD;refine yh (aP (row w' i)).length (λj iQ Hc=>∃(o:Option V)(M:List (Addr×(Nat×Nat))),iQ= [o,some (.int (i:Int))]∧az H6 Hc∧Hc Dd=some (.lst (M.map λe=>V.ref e.1))∧nM Hc M∧(∀e∈M,bL w' e.2)∧M.length≤j) ?_ ?_ ?_ ?_ ?_
   ·exact ⟨none,[],rfl,av hD _,aa,(λe he=>by cases he),(λe he=>by cases he),aT _⟩
   ·rintro j iQ Hc hj ⟨o,M,rfl,vT,_⟩
    exact ⟨_,_,aD.of (vT _ _ ya),cN hj⟩
   ·rintro j iQ Hc hj ⟨o,M,rfl,vT,_⟩
    exact ⟨_,aD.of (vT _ _ ya),hj⟩
   ·rintro j x iQ Hc H7 hj ⟨o,M,rfl,vT,hM,BD,N4,Oe⟩ ⟨rfl,hx⟩
    obtain ⟨n,hn,rfl⟩:=qU (hx _ (aD.of (vT _ _ ya)));refine GP ?_;refine ⟨_,rfl,_,rfl,by show 2≤sizeLine;decide,λtt vJ=>?_⟩
    have s8:=av vJ (.tup [V.int (i:Int),V.int (n:Int)]);have Mr:upd H7 tt (.tup [V.int (i:Int),V.int (n:Int)]) tt=some (.tup (fS (i,n))):=aa;generalize upd H7 tt (.tup [V.int (i:Int),V.int (n:Int)])=H8 at s8 Mr;have ntD:tt≠Dd:=λz=>by rw [z,hM] at vJ;cases vJ
    refine ⟨_,s8 _ _ hM,mq (by rw [aM];exact Oe) (ba (by rw [bC] at hj;omega)),_,M++ [(tt,(i,n))],rfl,λb u eb=>?_,?_,λe he=>?_,λe he=>?_,by simp;omega⟩
    ·rw [ab (ah eb hD)];exact s8 _ _ (vT _ _ eb)
    ·rw [aa,dY];rfl
    ·rcases cM.mp he with z|z
     ·have:=BD e z
      rw [ab (λy=>by rw [y,hM] at this;cases this)]
      exact s8 _ _ this
     ·have z':e=(tt,(i,n)):=by simpa using z
      rw [z',ab ntD];exact Mr
    ·rcases cM.mp he with z|z
     ·exact N4 e z
     ·have z':e=(tt,(i,n)):=by simpa using z
      rw [z'];exact cT hn
   ·rintro iQ Hc ⟨o,M,rfl,vT,hM,BD,N4,Oe⟩
    rw [bC] at Oe;have RJ:=vT _ _ NZ;refine ⟨S,Dd,_,_,rfl,rfl,RJ,hM,small (by simp;omega),?_⟩
    refine ⟨_,_,L++M,rfl,λb u eb=>?_,?_,λe he=>?_,λe he=>?_,by simp;omega⟩
    ·rw [ab (ah eb hS)];exact vT _ _ (s6 _ _ (FA _ _ eb))
    ·rw [aa,dY]
    ·have hh:Hc e.1=some (.tup (fS e.2)):=by
      rcases cM.mp he with z|z
      ·exact vT _ _ (s6 _ _ (BC e z))
      ·exact BD e z
     rw [ab (λy=>by rw [y,RJ] at hh;cases hh)];exact hh
    ·rcases cM.mp he with z|z
     ·exact N3 e z
     ·exact N4 e z
  ·rintro σ H5 ⟨o6,o7,L,rfl,FA,NY,BC,N3,Hh⟩
   rw [aM,R4.len] at Hh;exact rE p r S L jv o6 o7 H5 (ML.trans (Off.of_same FA)) (R4.off (S:= []) (Off.of_same FA) (by simp) (by simp)) hp yb ⟨NY,BC,N3,by omega⟩ (FA _ _ Oc) rF (by omega) TQ TN MA
 ·exact rE p r F L jv none none H4 ML R4 hp yb ⟨hF,Du,MZ,by omega⟩ Oc rF (by omega) nFl nFT TL
end
abbrev Ak:Stmt:=top 31
theorem aF.U5{H H':Hp}{T:Addr}{as:List Addr}{w:W}(R:aF H T as w){k:Nat}{a:Addr}{r:List Nat}(hk:k<w.length)(na:a∉as)(naT:a≠T)(h:∀b,b∈as→H' b=H b)(eT:H' T=some (.lst ((as.set k a).map V.ref)))
  (e:H' a=some (.lst (aP r))):aF H' T (as.set k a) (w.set k r):=by
 have fP:k<as.length:=by rw [R.len];exact hk
 refine ⟨eT,?_,λz=>?_,by rw [fe,fe];exact R.len,λi b hb=>?_⟩
 ·unfold List.Nodup
  rw [vj];intro i j hi hj lt;rw [fe] at hi hj;rw [List.getElem_set,List.getElem_set];have pw:=vj.mp R.nod
  split
  ·split
   ·omega
   ·intro z;exact na (by rw [z];exact jN hj)
  ·split
   ·intro z;exact na (by rw [←z];exact jN hi)
   ·exact pw i j hi hj lt
 ·rcases CU z with z|z
  ·exact R.nT z
  ·exact naT z.symm
 ·rw [gI hk]
  rw [qg] at hb
  by_cases hi:k=i
  ·rw [if_pos hi,if_pos fP] at hb
   cases hb;rw [if_pos hi];exact e
  ·rw [if_neg hi] at hb
   rw [if_neg hi,h b (cT hb)];exact R.row i b hb
theorem HB{n k:Nat}(h:k<n):iF n (k:Int)=some k:=by
 unfold iF;rw [if_pos (by omega),if_pos (by omega),kI]
theorem JG(xs:List V)(b:Nat):fY xs (some (b:Int)) none=xs.drop b:=by
 unfold fY;rw [HT.Aj,HT.w9]
 by_cases h:b≤xs.length
 ·rw [Nat.min_eq_left h,nG (by rw [vt];exact aT _)]
 ·rw [Nat.min_eq_right (by omega),vm (aT _),vm (by omega)];simp
theorem JF(xs:List V)(b:Nat):fY xs none (some (b:Int))=xs.take b:=by
 unfold fY;rw [HT.Aj,HT.w9,List.drop_zero,Nat.sub_zero]
 by_cases h:b≤xs.length
 ·rw [Nat.min_eq_left h]
 ·rw [Nat.min_eq_right (by omega),nG (aT _),nG (by omega)]
theorem Cr(r:List Nat)(b:Nat):(aP r).take b=aP (r.take b):=by unfold aP;rw [List.map_take]
theorem Cq(r:List Nat)(b:Nat):(aP r).drop b=aP (r.drop b):=by unfold aP;rw [List.map_drop]
theorem Fw(r s:List Nat):aP r++aP s=aP (r++s):=by unfold aP;rw [dY]
theorem Fv{α:Type}(l:List α)(b:Nat):(l.drop b++l.take b).Perm l:=by
 have:=(List.perm_append_comm (l₁:=l.drop b) (l₂:=l.take b))
 rwa [nH] at this
structure Ord (ord:List Nat) (n:Nat):Prop where
 pm:ord.Perm (List.range n)
theorem Ord.len{ord:List Nat}{n:Nat}(o:Ord ord n):ord.length=n:=by rw [o.pm.length_eq,qh]
theorem Ord.get{ord:List Nat}{n p:Nat}(o:Ord ord n)(h:p<n):ord[p]? =some (ord.getD p 0):=by
 rw [fW,cN (by rw [o.len];exact h)];rfl
theorem Ord.into{ord:List Nat}{n p:Nat}(o:Ord ord n)(h:p<n):ord.getD p 0<n:=fE.mp (o.pm.mem_iff.mp (cT (o.get h)))
theorem Ord.inj{ord:List Nat}{n p q:Nat}(o:Ord ord n)(hp:p<n)(hq:q<n)(e:ord.getD p 0=ord.getD q 0):p=q:=by
 have nd:ord.Nodup:=o.pm.nodup_iff.mpr List.nodup_range;have h1:=o.get hp;rw [e] at h1;exact get_inj nd h1 (o.get hq)
theorem Ord.Av{ord:List Nat}{n y:Nat}(o:Ord ord n)(h:y<n):∃p,p<n∧ord.getD p 0=y:=by
 have:=o.pm.mem_iff.mpr (fE.mpr h)
 obtain ⟨p,hp⟩:=fZ this;have lt:=(bV.mp hp).1;rw [o.len] at lt
 have:=o.get lt
 rw [hp] at this;exact ⟨p,lt,(Option.some.inj this).symm⟩
def Pe:Sp:=λvs H Q _=>∃(T O l:Addr)(as:List Addr)(w:W)(ord:List Nat)(ns:List Int),vs= [.ref T, .ref O, .ref l]∧aF H T as w∧Good w∧w.length≤14∧H O=some (.lst (aP ord))∧Ord ord w.length∧H l=some (.lst (ns.map V.int))∧ns≠ []∧ns.length≤2∧l≠T∧l∉as∧l≠O∧
 ∀(F:Addr)(fs:List Addr)(w':W)(H':Hp),Off [l] H H'→H F=none→(∀a∈fs,H a=none)→aF H' F fs w'→Good w'→w'.length=w.length→fI w'=fI w→Q (.ref F) H'
section
variable {P:Program} {w:World} {K:PySem.W.Frag} {mg:Str→Option Value} {base:Heap}
theorem IT:aG ["_law_turns","_law_order","_law_left","_law_found","_law_p","_law_turn","_law_begin","_law_names"] ["_law_turns","_law_order","_law_left"] (ao Ak):=⟨rfl,rfl,rfl,by decide+kernel,rfl,by decide+kernel,by decide+kernel⟩
theorem KL(B:vw mg)(Tk:bM K mg "_law_take" qX ["_law_left","_law_many"])(D:bM K mg "_law_renamed" Ak ["_law_turns","_law_order","_law_left"]):FnOk P w K mg base bY 2 D.f D.fd ["_law_turns","_law_order","_law_left"] Pe:=by
 refine D.F.ok IT (λvs H Q E h=>?_) (λbo A outer s H vs Q E hr h=>?_)
 ·obtain ⟨T,O,l,as,w,ord,ns,rfl,_⟩:=h
  rfl
 obtain ⟨T,O,l,as,w',ord,ns,rfl,R,g,cK,hO,od,hl,gP,hz,sC,jz,TY,q⟩:=h;have nd:=IT.nd;have BZ:(["_law_turn"]:List Str).Nodup:=by decide+kernel
 have yt:(["_law_q","_law_order"]:List Str).Nodup:=by decide+kernel
 have gT:=pR (P:=P) (w:=w) (base:=base) B Tk
 refine ⟨_,aC (jI (i:=3) (NC:= ["_law_turn"]) (src:= [none]) rfl nd rfl (Or.inl rfl) (bE.of (ao Ak) rfl rfl (by decide+kernel) (by decide+kernel) (by decide+kernel)) trivial (jG (pv 0))
    (λ_ _ _=>bG (i:=0) BZ rfl (Or.inl rfl)) (λ_ _ _=>lI) (λ_ _ _=>cY ar) rfl)
  (aC (ic PassesOwn.never rfl (uC rfl B.enumerate (ae (pv 0) ar)) (mP rfl (dO (bG (i:=4) nd rfl (Or.inl rfl)) (dO (bG (i:=5) nd rfl (Or.inl rfl)) jF)))
   (aC (bA (i:=6) nd rfl (Or.inl rfl) (aW gT hr rfl Tk.m Tk.F.kp Tk.b .nil bK (ae (pv 2) (ae (bU fR (cq bP rfl B.len PySem.boot_len (ae (pv 5) ar)) aJ) ar))))
   (aC (jI (i:=7) (NC:= ["_law_q","_law_order"]) (src:= [none,some 1]) rfl nd rfl (Or.inl rfl) (bE.of (ao Ak) rfl rfl (by decide+kernel) (by decide+kernel) (by decide+kernel)) ⟨rfl,rfl,trivial⟩ (jG (pv 5))
    (λ_ _ _=>bG (i:=0) yt rfl (Or.inl rfl)) (λ_ _ _=>lI) (λ_ _ _=>bT (wH (K:=K)) (pv 1) (pv 0) (λ_ _=>rfl)) rfl)
   (bb (mQ (bU yD (mO p9 (pv 7) (lG (pv 6)) uD) (mO p9 (pv 7) uD (lG (pv 6)))) (yF (pv 3) (bT bg (pv 1) (pv 4) (λ_ _=>rfl)) set_list))))))
  (bb (eV (pv 3)))),?_⟩
 refine ⟨_,rfl,T,rfl,⟨_,aD.of R.top⟩,λF hF=>?_⟩;refine yh (as.map V.ref).length (λi iQ Hc=>∃(o:Option V)(fs:List Addr),iQ= [o]∧az H Hc∧Hc F=some (.lst (fs.map V.ref))∧fs.Nodup∧F∉fs∧(∀a∈fs,H a=none∧Hc a=some (.lst []))∧fs.length=i) ?_ ?_ ?_ ?_ ?_
 ·exact ⟨none,[],rfl,av hF _,aa,jO,(by simp),(λa ha=>by cases ha),rfl⟩
 ·rintro i iQ Hc hi ⟨o,fs,rfl,sm,_⟩
  exact ⟨_,_,aD.of (sm _ _ R.top),cN hi⟩
 ·rintro i iQ Hc hi ⟨o,fs,rfl,sm,_⟩
  exact ⟨_,aD.of (sm _ _ R.top),hi⟩
 ·rintro i x iQ Hc H3 hi ⟨o,fs,rfl,sm,hf,nf,nF,fr,hl⟩ ⟨rfl,hx⟩
  rw [aM,R.len] at hi;refine GP ?_;refine ⟨by show 0≤sizeLine;decide,λr gf=>?_⟩
  have OV:r≠F:=λz=>by rw [z,hf] at gf;cases gf
  have MF:r∉fs:=λz=>by rw [(fr r z).2] at gf;cases gf
  refine ⟨_,by rw [ab (Ne.symm OV)];exact hf,ba (by simp;omega),_,fs++ [r],rfl,λb u eb=>?_,?_,?_,?_,λa ha=>?_,by simp [hl]⟩
  ·rw [ab (ah eb hF),ab (ah (sm _ _ eb) gf)];exact sm _ _ eb
  ·rw [aa,dY];rfl
  ·rw [jf]
   exact ⟨nf,by simp,λx hx y hy z=>by
    have:y=r:=by simpa using hy
    rw [this] at z;rw [z] at hx;exact MF hx⟩
  ·intro z
   rcases cM.mp z with z|z
   ·exact nF z
   ·have:F=r:=by simpa using z
    exact OV this.symm
  ·rcases cM.mp ha with z|z
   ·refine ⟨(fr a z).1,?_⟩
    rw [ab (λy=>nF (by rw [←y];exact z)),ab (λy=>MF (by rw [←y];exact z))]
    exact (fr a z).2
   ·have:a=r:=by simpa using z
    rw [this];exact ⟨sm.free gf,by rw [ab OV,aa]⟩
 rintro iQ H1 ⟨o,Rt,rfl,Cw,XH,nf0,nF0,GN,ES⟩;rw [aM,R.len] at ES;have ET:=Cw _ _ hl;have OU:l≠F:=λz=>by rw [z,hF] at hl;cases hl
 have R1:aF H1 F Rt (List.replicate w'.length []):=by
  refine ⟨XH,nf0,nF0,by rw [ES,r9],λi a e=>?_⟩
  have hz:row (List.replicate w'.length []) i= []:=by
   unfold row;rw [fW,AK]
   split<;>rfl
  rw [hz];exact (GN a (cT e)).2
 refine ⟨_,rfl,T,rfl,⟨_,Cw _ _ R.top⟩,wx (xs:=as.map V.ref) (λi σ H'=>∃(o4 o5 o6 o7:Option V)(fs:List Addr)(w1:W)(ds:List Int),σ= [some (.ref T),some (.ref O),some (.ref l),some (.ref F),o4,o5,o6,o7]∧Off [l] H H'∧aF H' F fs w1∧(∀a∈fs,H a=none)∧w1.length=w'.length∧
   (∀p,p<i→(row w1 (ord.getD p 0)).Perm ((row w' p).map λx=>ord.getD x 0))∧H' l=some (.lst (ds.map V.int))∧ds≠ []∧ds.length≤2) ?_ ?_ ?_ ?_⟩
 ·exact ⟨_,_,_,_,Rt,_,ns,rfl,Off.of_same Cw,R1,λa ha=>(GN a ha).1,r9,(λp hp=>by omega),ET,gP,hz⟩
 ·rintro i σ H' _ ⟨o4,o5,o6,o7,fs,w1,ds,rfl,off,_⟩
  exact aD.of (off _ _ (by simpa using Ne.symm sC) R.top)
 ·rintro i x t σ H5 hx ht ⟨o4,o5,o6,o7,fs,w1,ds,rfl,off,R5,nV,kq,uG,Hh,Mn,YQ⟩
  rw [bH] at hx;obtain ⟨ai,EK,rfl⟩:=Option.map_eq_some_iff.mp hx;have hi:i<w'.length:=by rw [←R.len];exact (bV.mp EK).1
  have MC:l≠ai:=λz=>jz (by rw [z];exact cT EK)
  have lj:H5 ai=_:=off _ _ (by simpa using Ne.symm MC) (R.row i ai EK)
  have Bt:H5 O=_:=off _ _ (by simpa using Ne.symm TY) hO
  refine ⟨t,_,rfl,cZ.of aa,rfl,_,_,rfl,_,_,rfl,rfl,?_⟩;have s6:=av ht (.tup [V.int (i:Int),V.ref ai]);generalize upd H5 t (.tup [V.int (i:Int),V.ref ai])=H6 at s6;have rli:=eF g i;have U8:=bC (row w' i);refine ⟨_,rfl,_,rfl,ai,_,rfl, .inl (aD.of (s6 _ _ lj)),_,_,rfl,rfl,l,ds,_,rfl,s6 _ _ Hh,Mn,by omega,by omega,by omega,λdI mX d0 d1 ng Hw=>?_⟩
  obtain ⟨b,rfl⟩:=qf d0;have Ia:Off [l] H (upd H6 l (.lst (mX.map V.int))):=(off.trans (Off.of_same s6)).trans (Off.put (.inl b7));have t6:upd H6 l (.lst (mX.map V.int)) l=some (.lst (mX.map V.int)):=aa;have T3:l∉fs:=λz=>by rw [nV l z] at hl;cases hl
  have R7:aF (upd H6 l (.lst (mX.map V.int))) F fs w1:=(R5.off (S:= []) (Off.of_same s6) (by simp) (by simp)).keep λb hb=>by
   refine ab λz=>?_
   rcases hb with hb|hb
   ·exact OU (z.symm.trans hb)
   ·rw [z] at hb;exact T3 hb
  have uc:upd H6 l (.lst (mX.map V.int)) ai=some (.lst (aP (row w' i))):=by rw [ab (Ne.symm MC)];exact s6 _ _ lj
  have EI:upd H6 l (.lst (mX.map V.int)) O=some (.lst (aP ord)):=by rw [ab (Ne.symm TY)];exact s6 _ _ Bt
  generalize upd H6 l (.lst (mX.map V.int))=H7 at Ia t6 R7 uc EI;refine ⟨_,rfl,ai,rfl,⟨_,aD.of uc⟩,λNm RH=>?_⟩;refine yh (aP (row w' i)).length (λj iQ Hc=>∃(o:Option V),iQ= [o,some (.ref O)]∧az H7 Hc∧Hc Nm=some (.lst (aP (((row w' i).take j).map λx=>ord.getD x 0)))) ?_ ?_ ?_ ?_ ?_
  ·exact ⟨none,rfl,av RH _,aa⟩
  ·rintro j iQ Hc hj ⟨o,rfl,sm,_⟩
   exact ⟨_,_,aD.of (sm _ _ uc),cN hj⟩
  ·rintro j iQ Hc hj ⟨o,rfl,sm,_⟩
   exact ⟨_,aD.of (sm _ _ uc),hj⟩
  ·rintro j x iQ Hc H8 hj ⟨o,rfl,sm,hN⟩ ⟨rfl,hx⟩
   obtain ⟨n,hn,rfl⟩:=qU (hx _ (aD.of (sm _ _ uc)));have Ol:n<w'.length:=g.rng _ _ (cT hn);refine GP ?_;refine ⟨_,rfl,_,rfl,O,_,_,_,rfl,rfl,aD.of (sm _ _ EI),bS (gn (od.get Ol)),?_⟩;refine ⟨_,hN,mq (by rw [bC,aM,jg];exact Nat.min_le_right _ _) (ba (by omega)),_,rfl,λb u eb=>?_,?_⟩
   ·rw [ab (ah eb RH)];exact sm _ _ eb
   ·obtain ⟨bq,hg⟩:=bV.mp hn
    rw [aa,Js bq,hg,dY];unfold aP;rw [dY];rfl
  rintro iQ H8 ⟨o,rfl,Vt,J2⟩;rw [U8,List.take_length] at J2;generalize Sr:((row w' i).map λx=>ord.getD x 0)=nm at J2;have nml:nm.length≤14:=by rw [←Sr,aM];omega
  refine ⟨_,rfl,_,rfl,_,rfl,Nm,_,rfl,aD.of J2,λc1 XZ=>?_⟩;rw [JG,Cq];have s9:=av XZ (.lst (aP (nm.drop b)));have e9:upd H8 c1 (.lst (aP (nm.drop b))) c1=_:=aa;generalize upd H8 c1 (.lst (aP (nm.drop b)))=H9 at s9 e9;refine ⟨_,rfl,_,rfl,_,rfl,Nm,_,rfl,aD.of (s9 _ _ J2),λc2 vC=>?_⟩;rw [JF,Cr];have yI:=av vC (.lst (aP (nm.take b)));have Ri:upd H9 c2 (.lst (aP (nm.take b))) c2=_:=aa;generalize upd H9 c2 (.lst (aP (nm.take b)))=xw at yI Ri;refine ⟨c1,c2,_,_,rfl,rfl,yI _ _ e9,Ri,small (by rw [bC,bC,vt,jg];omega),λc3 RL=>?_⟩
  rw [Fw];have Cs:=av RL (.lst (aP (nm.drop b++nm.take b)));have Rj:upd xw c3 (.lst (aP (nm.drop b++nm.take b))) c3=_:=aa;have rB:xw c3=none:=RL;generalize upd xw c3 (.lst (aP (nm.drop b++nm.take b)))=Ed at Cs Rj;have DS:az H7 Ed:=Vt.trans (s9.trans (yI.trans Cs));have DR:az H7 xw:=Vt.trans (s9.trans yI);have M0:aF Ed F fs w1:=R7.off (S:= []) (Off.of_same DS) (by simp) (by simp)
  have Om:=od.into hi;have lfs:(fs.map V.ref).length=w'.length:=by rw [aM,R7.len,kq]
  refine ⟨_,rfl,_,rfl,_,rfl,O,_,_,_,rfl,rfl,aD.of (DS _ _ EI),bS (gn (od.get hi)),F,_,_,ord.getD i 0,rfl,rfl,M0.top,by rw [lfs];exact HB Om,?_⟩
  have MB:c3≠F:=λz=>by rw [z,DR _ _ R7.top] at rB;cases rB
  have OS:c3∉fs:=λz=>by
   obtain ⟨k,hk⟩:=fZ z;rw [DR _ _ (R7.row k c3 hk)] at rB;cases rB
  have RM:H c3=none:=by
   cases e:H c3 with
   |none=>rfl
   |some u=>
    by_cases z:c3=l
    ·rw [z,DR _ _ t6] at rB;cases rB
    ·rw [DR _ _ (Ia _ _ (by simpa using z) e)] at rB;cases rB
  have aal:l≠F:=OU;refine ⟨_,_,_,_,fs.set (ord.getD i 0) c3,w1.set (ord.getD i 0) (nm.drop b++nm.take b),mX,rfl,?_,?_,λa ha=>?_,by rw [fe];exact kq,λp hp=>?_,?_,ng,by omega⟩
  ·exact λb u hb eb=>by rw [ab (ah eb hF)];exact DS _ _ (Ia b u hb eb)
  ·refine M0.U5 (by rw [kq];exact Om) OS MB (λb hb=>ab λz=>M0.nT (by rw [←z];exact hb)) ?_ ?_
   ·rw [aa,List.map_set]
   ·rw [ab MB];exact Rj
  ·rcases CU ha with z|z
   ·exact nV a z
   ·rw [z];exact RM
  ·rw [gI (by rw [kq];exact Om)]
   by_cases e:p=i
   ·subst e
    rw [if_pos rfl,Sr];exact Fv nm b
   ·rw [if_neg (λz=>e (od.inj (by omega) hi z.symm))]
    exact uG p (by omega)
  ·rw [ab OU];exact DS _ _ t6
 ·rintro σ H5 ⟨o4,o5,o6,o7,fs,w1,ds,rfl,off,R5,nV,kq,uG,Hh,Mn,YQ⟩
  rw [aM,R.len] at uG;exact ⟨_,rfl,q F fs w1 H5 off hF nV R5 (EC g kq (λp hp=>od.into hp) (λp q hp hq e=>od.inj hp hq e) (λy hy=>od.Av hy) λp hp=>uG p hp) kq (Gk kq od.pm λp hp=>uG p hp)⟩
end
abbrev IS:Stmt:=top 32
theorem boot_int:bootBuiltins "int"=some (.type "int"):=by decide+kernel
def Lu(K:PySem.W.Frag):Sp:=λvs H Q _=>∃(a:Addr)(ns:List Int)(m:Int)(b:Bool),vs= [.ref a, .int m, .bl b]∧aD K H a (ns.map V.int)∧ns.length≤63∧1≤m∧m≤14∧
 ∀(F:Addr)(fs:List Addr)(w':W)(H':Hp),az H H'→H F=none→(∀a∈fs,H a=none)→aF H' F fs w'→Good w'→1≤w'.length→(w'.length:Int)≤m→fI w'≤102→Q (.ref F) H'
section
variable {P:Program} {w:World} {K:PySem.W.Frag} {mg:Str→Option Value} {base:Heap}
theorem DY:aG ["_law_script","_law_most","_law_plane","_law_left","_law_many","_law_turns","_law_order","_law_k","_law_at"] ["_law_script","_law_most","_law_plane"] (ao IS):=⟨rfl,rfl,rfl,by decide+kernel,rfl,by decide+kernel,by decide+kernel⟩
theorem Ih(B:vw mg)(Ce:bM K mg "_law_cell" uH ["_law_script","_law_k"])(Mi:bM K mg "_law_mixed" sY ["_law_script","_law_turn"])(Di:bM K mg "_law_digits" uI ["_law_script","_law_at"])(Tk:bM K mg "_law_take" qX ["_law_left","_law_many"])
  (Tr:bM K mg "_law_tree" Ct ["_law_many","_law_left"]) (Nx:bM K mg "_law_next" uJ ["_law_turns","_law_side"]) (Rd:bM K mg "_law_round" sZ ["_law_turns","_law_side"]) (Ti:bM K mg "_law_tie" uK ["_law_turns","_law_left","_law_plane"]) (Re:bM K mg "_law_renamed" Ak ["_law_turns","_law_order","_law_left"])
  (D:bM K mg "_law_web" IS ["_law_script","_law_most","_law_plane"]):FnOk P w K mg base bY 4 D.f D.fd ["_law_script","_law_most","_law_plane"] (Lu K):=by
 refine D.F.ok DY (λvs H Q E h=>?_) (λbo A outer s H vs Q E hr h=>?_)
 ·obtain ⟨a,ns,m,b,rfl,_⟩:=h
  rfl
 obtain ⟨a,ns,m,b,rfl,hS,nY,m1,m14,q⟩:=h;have nd:=DY.nd;have gD:=B6 (P:=P) (w:=w) (base:=base) B Ce Mi Di;have gT:=(pR (P:=P) (w:=w) (base:=base) B Tk).mono (show 1≤3 by decide)
 have Xx:=(Ig (P:=P) (w:=w) (base:=base) B Tk Tr).mono (show 2≤3 by decide)
 have Xw:=KN (P:=P) (w:=w) (base:=base) B Tk Nx Rd Ti;have Xv:=(KL (P:=P) (w:=w) (base:=base) B Tk Re).mono (show 2≤3 by decide)
 refine ⟨_,aC (bA (i:=3) nd rfl (Or.inl rfl) (aW gD hr rfl Di.m Di.F.kp Di.b .nil bK (ae (pv 0) (ae aJ ar))))
  (aC (bA (i:=4) nd rfl (Or.inl rfl) (bU fR aJ (aW gT hr rfl Tk.m Tk.F.kp Tk.b .nil bK (ae (pv 3) (ae (pv 1) ar)))))
  (aC (bA (i:=5) nd rfl (Or.inl rfl) (aW Xx hr rfl Tr.m Tr.F.kp Tr.b .nil bK (ae (pv 4) (ae (pv 3) ar))))
  (aC (bA (i:=6) nd rfl (Or.inl rfl) (cY ar))
  (aC (ic PassesOwn.never rfl (iI rfl B.range (ae (pv 4) ar)) (bG (i:=7) nd rfl (Or.inl rfl))
   (bb (cL (fu PySem.F.plainAttrs_list PySem.F.slot_list_insert PySem.F.type_list_insert j4 (pv 6) (ae (aW gT hr rfl Tk.m Tk.F.kp Tk.b .nil bK (ae (pv 3) (ae (bU fR (pv 7) aJ) ar))) (ae (pv 7) ar))))))
  (aC (ic PassesOwn.never rfl (jG (cY (ae aJ (ae aJ ar)))) (bG (i:=8) nd rfl (Or.inl rfl))
   (aC (bA (i:=3) nd rfl (Or.inl rfl) (aW gD hr rfl Di.m Di.F.kp Di.b .nil bK (ae (pv 0) (ae (pv 8) ar))))
   (bb (ic PassesOwn.never rfl (iI rfl B.range (ae (bU mN (aW gT hr rfl Tk.m Tk.F.kp Tk.b .nil bK (ae (pv 3) (ae aJ ar))) (oF A3 rfl B.int boot_int (ae (z9 Il (pv 4) aJ (bu _)) ar))) ar)) (bG (i:=7) nd rfl (Or.inl rfl))
    (bb (cL (aW Xw hr rfl Ti.m Ti.F.kp Ti.b .nil bK (ae (pv 5) (ae (pv 3) (ae (pv 2) ar))))))))))
  (bb (eV (aW Xv hr rfl Re.m Re.F.kp Re.b .nil bK (ae (pv 5) (ae (pv 6) (ae (aW gD hr rfl Di.m Di.F.kp Di.b .nil bK (ae (pv 0) (ae aJ ar))) ar))))))))))),?_⟩
 refine ⟨_,rfl,a,ns,1,rfl,hS,nY,by decide,by decide,λl ds H1 s1 ES ET gP hz=>?_⟩
 refine ⟨_,rfl,_,rfl,l,ds,m,rfl,ET,gP,by omega,by omega,by omega,λdI mX d0 d1 ng Hw=>?_⟩
 refine ⟨_,_,rfl,rfl,?_⟩;obtain ⟨d,rfl⟩:=qf d0;have em:(1:Int)+(d:Int)=((d+1:Nat):Int):=by omega
 show tX 4 (V.int (1+(d:Int))) _ _ _;rw [em];have hm:((d+1:Nat):Int)≤m:=by omega
 generalize d+1=n at hm em;have J6:1≤n:=by omega
 refine ⟨_,rfl,_,rfl,l,mX,n,rfl,aa,ng,by omega,J6,by omega,λT as w0 jv H2 off GX GN R2 g0 len0 zC rF Kf dg0=>?_⟩
 have sC:l≠T:=λz=>by rw [←z,aa] at GX;cases GX
 have jz:l∉as:=λz=>by have:=GN l z;rw [aa] at this;cases this
 have s2:az H H2:=λb u eb=>off b u (by simpa using ah eb ES) (by rw [ab (ah eb ES)];exact s1 b u eb)
 have hTH:H T=none:=by
  cases e:H T with
  |none=>rfl
  |some u=>rw [ab (Ne.symm sC),s1 _ _ e] at GX;cases GX
 have Xs:∀x∈as,H x=none:=λx hx=>by
  cases e:H x with
  |none=>rfl
  |some u=>
   have:=GN x hx
   rw [ab (λz=>jz (by rw [←z];exact hx)),s1 _ _ e] at this;cases this
 refine ⟨by show 0≤sizeLine;decide,λO hO=>?_⟩
 have OQ:l≠O:=ah zC hO;have nOT:T≠O:=ah R2.top hO
 have Mz:O∉as:=λz=>by
  obtain ⟨k,hk⟩:=fZ z;rw [R2.row k O hk] at hO;cases hO
 have XO:H O=none:=s2.free hO;refine ⟨_,rfl,(n:Int),rfl,by omega,by omega,jX (n:=((n:Int)).toNat) (λi σ H'=>∃(ord:List Nat)(ds:List Int)(o7:Option V),σ= [some (.ref a),some (.int m),some (.bl b),some (.ref l),some (.int (n:Int)),some (.ref T),some (.ref O),o7,none]∧az H H'∧aF H' T as w0∧H' O=some (.lst (aP ord))∧ord.Perm (List.range i)∧H' l=some (.lst (ds.map V.int))∧ds≠ []∧ds.length≤2) ?_ ?_ ?_⟩
 ·refine ⟨[],jv,none,rfl,s2.trans (av hO _),R2.off (S:= []) (Off.of_same (av hO _)) (by simp) (by simp),aa,List.Perm.refl _,?_,rF,Kf⟩
  rw [ab OQ];exact zC
 ·rintro i σ H3 hi ⟨ord,Rc,o7,rfl,s3,R3,GV,Cg,EU,Mm,YO⟩
  rw [kI] at hi;have lo:ord.length=i:=by rw [Cg.length_eq,qh]
  have Ke:(0:Int)+(i:Int)=(i:Int):=by omega
  refine ⟨_,rfl, .inl ⟨rfl,_,aD.of GV⟩,_,rfl,_,rfl,_,_,rfl,rfl,l,Rc,_,rfl,EU,Mm,by omega,by omega,by omega,λeI Rf e0 e1 Sn hz4=>?_⟩
  obtain ⟨e,rfl⟩:=qf e0;have XM:upd H3 l (.lst (Rf.map V.int)) O=some (.lst (aP ord)):=by rw [ab (Ne.symm OQ)];exact GV
  refine ⟨_,rfl,O,_,_,_,rfl,rfl,XM,by omega,by rw [bC];omega,mq (by rw [bC];exact Nat.le_of_eq lo) (ba (by omega)),?_⟩
  rw [Ke,kI,←mR];refine ⟨ins ord e i,Rf,_,rfl,λb u eb=>?_,?_,aa,?_,?_,Sn,by omega⟩
  ·rw [ab (ah eb XO),ab (ah eb ES)];exact s3 b u eb
  ·refine R3.keep λb hb=>?_
   rw [ab (λz=>?_),ab (λz=>?_)]
   ·rcases hb with hb|hb
    ·exact sC (z.symm.trans hb)
    ·rw [z] at hb;exact jz hb
   ·rcases hb with hb|hb
    ·exact nOT (hb.symm.trans z)
    ·rw [z] at hb;exact Mz hb
  ·refine (mI ord e i).trans ?_
   rw [List.range_succ];refine (List.Perm.cons i Cg).trans ?_;exact (List.perm_append_singleton i (List.range i)).symm
  ·rw [ab OQ,aa]
 rintro σ H3 ⟨ord,Rc,o7,rfl,s3,R3,GV,Cg,EU,Mm,YO⟩;rw [kI] at Cg;have od:Ord ord n:=⟨Cg⟩;refine ⟨by show 2≤sizeLine;decide,λLx EH=>?_⟩
 have s4:=av EH (.lst [V.int 2,V.int 3]);have e4:upd H3 Lx (.lst [V.int 2,V.int 3]) Lx=some (.lst [V.int 2,V.int 3]):=aa;have nLT:Lx≠T:=Ne.symm (ah R3.top EH);have nLO:Lx≠O:=Ne.symm (ah GV EH)
 have TM:Lx∉as:=λz=>by
  obtain ⟨k,hk⟩:=fZ z;rw [R3.row k Lx hk] at EH;cases EH
 have hLH:H Lx=none:=s3.free EH;generalize upd H3 Lx (.lst [V.int 2,V.int 3])=H4 at s4 e4;have R4:aF H4 T as w0:=R3.off (S:= []) (Off.of_same s4) (by simp) (by simp)
 refine ⟨Lx,rfl,⟨_,aD.of e4⟩,Ey (K:=K) (a:=Lx) (xs:= [V.int 2,V.int 3]) (λi σ H'=>∃(l':Addr)(w1:W)(o7 o8:Option V),σ= [some (.ref a),some (.int m),some (.bl b),some (.ref l'),some (.int (n:Int)),some (.ref T),some (.ref O),o7,o8]∧az H H'∧aF H' T as w1∧Good w1∧w1.length=n∧H' O=some (.lst (aP ord))∧H' Lx=some (.lst [V.int 2,V.int 3])∧fI w1≤26+38*i) ?_ ?_ ?_ ?_⟩
 ·exact ⟨l,w0,o7,none,rfl,s3.trans s4,R4,g0,len0,s4 _ _ GV,e4,by omega⟩
 ·rintro i σ H' _ ⟨l',w1,o7,o8,rfl,_,_,_,_,_,hL,_⟩
  exact aD.of hL
 ·rintro i x σ H5 hx ⟨l',w1,o7,o8,rfl,s5,R5,g5,kq,Bt,NU,Q9⟩
  obtain ⟨k,sv,vE,rfl⟩:∃k:Int,0≤k∧k≤100∧x= .int k:=by
   match i,hx with
   |0,hx=>cases hx;exact ⟨2,by decide,by decide,rfl⟩
   |1,hx=>cases hx;exact ⟨3,by decide,by decide,rfl⟩
   |n+2,hx=>simp at hx
  refine ⟨_,rfl,_,rfl,a,ns,k,rfl,s5.seq hS,nY,sv,vE,λl2 NF H6 s6 gF Od Hk SN=>?_⟩;have TH:l2≠T:=λz=>by rw [z,R5.top] at gF;cases gF
  have My:l2∉as:=λz=>by
   obtain ⟨k,hk⟩:=fZ z;rw [R5.row k l2 hk] at gF;cases gF
  have TF:l2≠O:=λz=>by rw [z,Bt] at gF;cases gF
  have TC:l2≠Lx:=λz=>by rw [z,NU] at gF;cases gF
  have Ry:H l2=none:=s5.free gF;refine ⟨_,rfl,l2,NF,20,rfl,Od,Hk,by omega,by decide,by decide,λcI zp c0 c1 So hz7=>?_⟩
  refine ⟨_,rfl,_,_,rfl,rfl, .inr ⟨_,rfl,?_⟩⟩;obtain ⟨c,rfl⟩:=qf c0
  have R7:aF (upd H6 l2 (.lst (zp.map V.int))) T as w1:=(R5.off (S:= []) (Off.of_same s6) (by simp) (by simp)).keep λb hb=>by
   refine ab λz=>?_
   rcases hb with hb|hb
   ·exact TH (z.symm.trans hb)
   ·rw [z] at hb;exact My hb
  have s7:az H (upd H6 l2 (.lst (zp.map V.int))):=λb u eb=>by rw [ab (ah eb Ry)];exact s6 _ _ (s5 b u eb)
  have EI:upd H6 l2 (.lst (zp.map V.int)) O=some (.lst (aP ord)):=by rw [ab (Ne.symm TF)];exact s6 _ _ Bt
  have RG:upd H6 l2 (.lst (zp.map V.int)) Lx=some (.lst [V.int 2,V.int 3]):=by rw [ab (Ne.symm TC)];exact s6 _ _ NU
  have t6:upd H6 l2 (.lst (zp.map V.int)) l2=some (.lst (zp.map V.int)):=aa;generalize upd H6 l2 (.lst (zp.map V.int))=H7 at R7 s7 EI RG t6;refine ⟨_,_,rfl,rfl, .inl ⟨by omega,by omega⟩,?_⟩
  have RQ:∃N:Nat,(c:Int)*(if decide ((1:Int)<(n:Int))=true then 1 else 0)=(N:Int)∧N<20∧(0<N→2≤n):=by
   by_cases hn:(1:Int)<(n:Int)
   ·rw [decide_eq_true hn,if_pos rfl]
    exact ⟨c,by omega,by omega,λ_=>by omega⟩
   ·rw [decide_eq_false hn,if_neg (by decide)]
    exact ⟨0,by omega,by omega,λh=>by omega⟩
  obtain ⟨N,eN,N20,N2⟩:=RQ;refine ⟨(N:Int),congrArg (λz=> [V.int z]) eN,by omega,by omega,jX (n:=((N:Int)).toNat) (λj σ H'=>∃(w2:W)(ds:List Int)(o7 o8:Option V),σ= [some (.ref a),some (.int m),some (.bl b),some (.ref l2),some (.int (n:Int)),some (.ref T),some (.ref O),o7,o8]∧az H H'∧aF H' T as w2∧Good w2∧w2.length=n∧H' O=some (.lst (aP ord))∧H' Lx=some (.lst [V.int 2,V.int 3])∧H' l2=some (.lst (ds.map V.int))∧ds≠ []∧ds.length≤2∧fI w2≤fI w1+2*j) ?_ ?_ ?_⟩
  ·exact ⟨w1,zp,_,_,rfl,s7,R7,g5,kq,EI,RG,t6,So,by omega,by omega⟩
  ·rintro j σ H8 hj ⟨w2,Rg,o7,o8,rfl,s8,R8,g8,Mu,NX,NV,Sg,Mo,SO,Ra⟩
   rw [kI] at hj;have n2:=N2 (by omega)
   refine ⟨_,rfl,_,rfl,_,rfl,T,l2,b,as,w2,Rg,rfl,R8,g8,by omega,by omega,Sg,Mo,SO,TH,My,λw3 Xc H9 Ib R9 g9 aak Yl Sq YR dg9=>?_⟩
   refine ⟨w3,Xc,_,_,rfl,λb u eb=>Ib b u (λz=>?_) (s8 b u eb),R9,g9,by omega,Ib _ _ (λz=>?_) NX,Ib _ _ (λz=>?_) NV,Yl,Sq,YR,by omega⟩
   ·rcases cy.mp z with z|z
    ·rw [z,Ry] at eb;cases eb
    ·rw [Xs b z] at eb;cases eb
   ·rcases cy.mp z with z|z
    ·exact TF z.symm
    ·exact Mz z
   ·rcases cy.mp z with z|z
    ·exact TC z.symm
    ·exact TM z
  ·rintro σ H8 ⟨w2,Rg,o7,o8,rfl,s8,R8,g8,Mu,NX,NV,Sg,Mo,SO,Ra⟩
   rw [kI] at Ra;exact ⟨l2,w2,o7,o8,rfl,s8,R8,g8,Mu,NX,NV,by omega⟩
 ·rintro σ H5 ⟨l',w1,o7,o8,rfl,s5,R5,g5,kq,Bt,NU,Q9⟩
  refine ⟨_,rfl,_,rfl,_,rfl,a,ns,4,rfl,s5.seq hS,nY,by decide,by decide,λl4 NF H6 s6 gF Od Hk SN=>?_⟩
  have n4T:l4≠T:=λz=>by rw [z,R5.top] at gF;cases gF
  have TJ:l4∉as:=λz=>by
   obtain ⟨k,hk⟩:=fZ z;rw [R5.row k l4 hk] at gF;cases gF
  have n4O:l4≠O:=λz=>by rw [z,Bt] at gF;cases gF
  have XE:H l4=none:=s5.free gF;have Pd:=s5.trans s6;refine ⟨T,O,l4,as,w1,ord,NF,rfl,R5.off (S:= []) (Off.of_same s6) (by simp) (by simp),g5,by omega,s6 _ _ Bt,by rw [kq];exact od,Od,Hk,SN,n4T,TJ,n4O,λF fs w' H' off hF fr R' g' aaj W9=>?_⟩
  refine q F fs w' H' (λb u eb=>off b u (by simpa using ah eb XE) (Pd b u eb)) (Pd.free hF) (λx hx=>Pd.free (fr x hx)) R' g' (by omega) (by omega) (by rw [W9];simp at Q9;omega)
end
end xv
namespace AU
open PySem L2 Wb
variable {P:Program} {w:World} {mg:Str→Option Value} {base:Heap} {Z:DC} (T:Txt Z mg)
theorem DP{Z:DC}{G:Hp}:∀(fs:List Addr)(w:W),fs.length=w.length→(∀(i:Nat) a,fs[i]? =some a→G a=some (.lst (xv.aP (row w i))))→aq Z G (fs.map V.ref) (w.map aH)
 | [],[],_,_=> .nil
 | [],_::_,h,_=>by cases h
 |_::_,[],h,_=>by cases h
 |a::fs,r::w,h,k=>by
  refine .cons ?_ (DP fs w (by simpa using h) λi b hb=>k (i+1) b (by simpa using hb))
  have h0:G a=some (.lst (xv.aP r)):=k 0 a rfl;refine Dv.lst h0 ?_;unfold xv.aP;clear h0 k h
  induction r with
  |nil=>exact .nil
  |cons x r ih=>exact .cons (.int _) ih
def Ls:dF:=λds P=>∃(ns:List Int)(m:Nat)(b:Bool),ds= [.ij ns,aB m, .bl b]∧1≤m∧m≤14∧∀w,Good w→1≤w.length→w.length≤m→P (aR w)
theorem Qf{Z:DC}{mg:Str→Option Value}(T:Txt Z mg):xv.vw mg:=⟨T.B.len,T.B.range,T.B.max,T.B.min,T.B.enumerate,T.B.zip,T.B.sorted,T.B.all,T.B.isinstance,T.B.int,T.B.bool,T.B.list,T.B.tuple⟩
theorem yB:FnOk P w Z.K mg base bY 4 T.d__law_web.f T.d__law_web.fd ["_law_script","_law_most","_law_plane"] (aZ Z Ls):=by
 refine (xv.Ih (Qf T) T.d__law_cell T.d__law_mixed T.d__law_digits T.d__law_take T.d__law_tree T.d__law_next T.d__law_round T.d__law_tie T.d__law_renamed T.d__law_web).imp ?_;rintro vs H Q E ⟨G,ds,P,s,dv,⟨ns,m,b,rfl,m1,m14,hp⟩,q⟩;obtain ⟨v1,us,rfl,d1,dv⟩:=dv.sV;obtain ⟨v2,v3,rfl,d2,d3⟩:=dv.yz;obtain ⟨a,rfl,hs,nY⟩:=d1.yy;obtain rfl:=d2.ofInt;obtain rfl:=d3.MG;refine ⟨a,ns,m,b,rfl,hs.mono s,nY,by omega,by omega,λF fs w' H' sm hF Yb R g l1 lm _=>?_⟩
 let Fc:Addr→Prop:=λb=>b=F∨b∈fs
 have F1:∀b,Fc b→H b=none:=λb hb=>by
  rcases hb with rfl|hb
  ·exact hF
  ·exact Yb b hb
 have nF:∀b o,H b=some o→¬Fc b:=λb o e z=>by rw [F1 b z] at e;cases e
 have x2:Ext G H (plus G H' Fc) H':=⟨λb o e=>by rw [dm (nF b o (s _ _ e))];exact e,λb o e=>by
  by_cases z:Fc b
  ·rw [eE z] at e;exact e
  ·rw [dm z] at e;exact sm _ _ (s _ _ e),sm,λb hb hg=>by
  rw [dm (λz=>hb (F1 b z))];exact hg⟩
 refine q _ (hp w' g l1 (by omega)) _ _ _ x2 (Dv.lst (xs:=fs.map V.ref) (by rw [eE (.inl rfl)];exact R.top) (DP fs w' R.len λi a ha=>?_))
 rw [eE (.inr (cT ha))];exact R.row i a ha
def Ja:dF:=λds P=>∃(ns:List Int)(k:Nat),ds= [.ij ns,aB k]∧k≤100∧∀v:Int,P (.int v)
theorem vP:FnOk P w Z.K mg base bY 1 T.d__law_cell.f T.d__law_cell.fd ["_law_script","_law_k"] (aZ Z Ja):=by
 refine (xv.ux T.d__law_cell).imp ?_;rintro vs H Q E ⟨G,ds,P,s,dv,⟨ns,k,rfl,hk,hp⟩,q⟩;obtain ⟨v1,v2,rfl,d1,d2⟩:=dv.yz;obtain ⟨a,rfl,hs,nY⟩:=d1.yy;obtain rfl:=d2.ofInt;refine ⟨a,ns,k,rfl,hs.mono s,nY,by omega,by omega,λv H' sm=>?_⟩
 exact q _ (hp v) _ G H' ⟨.refl _,s.trans sm,sm,λ_ _ z=>z⟩ (.int v)
variable {P:Program} {w:World} {mg:Str→Option Value} {base:Heap} {Z:DC} (T:Txt Z mg)
theorem xD{t u:cP}{E:eo}{aE:DN}(ρ:DN)(e:aE=ρ)(h:dSeq t u E ρ):dSeq t u E aE:=by rw [e];exact h
def Jb:dF:=λds P=>∃(i:Int),ds= [.int i]∧P (.bl true)
theorem kz:FnOk P w Z.K mg base bY 1 T.d__law_is_int.f T.d__law_is_int.fd ["_law_found"] (aZ Z Jb):=by
 have nd:=kB.nd;refine bN T.d__law_is_int.F kB [0] (by decide) (λds R h=>by obtain ⟨_,rfl,_⟩:=h;rfl) (λbo A outer s H E ds R hr h=>?_)
 have hu:=hr.units;refine ⟨_,(aw (aX (mw (jU "int" (U 0) rfl T.B.isinstance rfl T.B.int C3) (sP (C9 (jU "bool" (U 0) rfl T.B.isinstance rfl T.B.bool za)))))),?_⟩;obtain ⟨i,rfl,q⟩:=h;exact ⟨_,rfl,rfl,true,rfl,eY ⟨_,rfl,rfl,_,rfl,q⟩⟩
def yL:dF:=λds P=>∃(w:W)(d:Nat×Nat),ds= [aR w,pairD d]∧Good w∧bL w d∧P (pairD (uv w d))
theorem vR:FnOk P w Z.K mg base bY 1 T.d__law_next.f T.d__law_next.fd ["_law_turns","_law_side"] (aZ Z yL):=by
 have nd:=nv.nd;refine bN T.d__law_next.F nv [0,0,0,0] (by decide) (λds R h=>by obtain ⟨_,_,rfl,_⟩:=h;rfl) (λbo A outer s H E ds R hr h=>?_)
 have hu:=hr.units
 refine ⟨_,(ax (Dh (U 1) (hZ 2 rfl (bx (aV 2 nd) (bx (aV 3 nd) eQ))))
   (aw (aX (fM (af (U 3) (af (dQ (dQ (U 0) (U 3)) (jk pP (jk pO (v5 (dQ (U 0) (U 3)) (U 2)) aS) (bw fK rfl T.B.len fg (af (dQ (U 0) (U 3)) au)))) au)))))),?_⟩
 obtain ⟨w',d,rfl,g,hd,q⟩:=h;have d2:=g.rng _ _ hd;have hm:d.1∈row w' d.2:=g.sym _ _ hd;have lr:((row w' d.2).map aB).length=(row w' d.2).length:=aM _;have pos:0<(row w' d.2).length:=r8 hm;have e0:(0:Int)<(((row w' d.2).map aB).length:Int):=by rw [lr];omega
 have fx:=h7 hm;refine ⟨_,rfl,rfl,rfl,?_⟩;have em:(((row w' d.2).idxOf d.1:Nat):Int)+1=(((row w' d.2).idxOf d.1+1:Nat):Int):=by omega
 have et:((((row w' d.2).idxOf d.1:Nat):Int)+1)%(((row w' d.2).map aB).length:Int)=((((row w' d.2).idxOf d.1+1)%(row w' d.2).length:Nat):Int):=by rw [lr,em,vf]
 have at_:e7 ((row w' d.2).map aB) (((((row w' d.2).idxOf d.1:Nat):Int)+1)%(((row w' d.2).map aB).length:Int))=some (aB (gX (row w' d.2) d.1)):=by
  rw [et];exact pN (qo _ pos)
 refine ⟨_,rfl,_,rfl,_,rfl,_,lJ d2,_,rfl,_,rfl,_,lJ d2,?_⟩;exact ⟨_,rfl,_,rfl,rfl,gd _,_,_,fx.1,fx.2.1,fx.2.2,_,rfl,_,rfl,_,lJ d2,e0,_,at_,by show 2≤sizeLine;decide,q⟩
def p8(l:List Nat):List (Nat×Nat):=(List.range l.length).map λk=>(l.getD k 0,l.getD ((k+1)%l.length) 0)
def Je:dF:=λds P=>∃(l:List Nat)(n:Nat),ds= [aH l,aB n]∧(∀x∈l,x<n)∧l.length≤300∧P (.lst ((p8 l).map pairD))
theorem uw:FnOk P w Z.K mg base bY 2 T.d__law_sides.f T.d__law_sides.fd ["_law_land","_law_many"] (aZ Z Je):=by
 have nd:=lQ.nd;refine bN T.d__law_sides.F lQ [0,0] (by decide) (λds R h=>by obtain ⟨_,_,rfl,_⟩:=h;rfl) (λbo A outer s H E ds R hr h=>?_)
 have hu:=hr.units
 refine ⟨_,(ax (cD (DW.dt (tU (gv (gw (jU "list" (U 0) rfl T.B.isinstance rfl T.B.list ju))) (sR (gv (gw (bw (JD rfl) rfl T.B.all JA (af (tR (NC:= ["_law_p","_law_many"]) (src:= [none,some 1]) rfl (vA (ao fc)) ⟨rfl,rfl,trivial⟩ (cv (U 0)) (λ_ _ _=>(cG 0 (show (["_law_p","_law_many"]:List Str).Nodup from by decide+kernel))) (λ_ _ _=>gB) (λ_ _ _=>(mw (bJ T.d__law_is_int (kz T) hr (af (U 0) au)) (mw (mz yw aS (U 0) (bu _)) (sP (mz B2 (U 0) (U 1) (bu _))))))) au))))))) (aw (aX (sO au))) bz)
   (aw (aX (tR (NC:= ["_law_k","_law_land"]) (src:= [none,some 0]) rfl (vA (ao fc)) ⟨rfl,rfl,trivial⟩ (Bh rfl T.B.range (af (bw fK rfl T.B.len fg (af (U 0) au)) au)) (λ_ _ _=>(cG 0 (show (["_law_k","_law_land"]:List Str).Nodup from by decide+kernel))) (λ_ _ _=>gB) (λ_ _ _=>(fM (af (dQ (U 1) (U 0)) (af (dQ (U 1) (jk pP (jk pO (U 0) aS) (bw fK rfl T.B.len fg (af (U 1) au)))) au)))))))),?_⟩
 obtain ⟨l,n,rfl,hl,l3,q⟩:=h;have ll:(l.map aB).length=l.length:=aM _;refine ⟨_,rfl,rfl,rfl,dh ?_⟩;refine ⟨_,rfl,pG (ρ:= [none,some (aB n)]) aB (λ_=> .bl true) l _ (λx hx Y hY=>?_) rfl (small (by omega)) λaE=>?_⟩
 ·have e1:D.bl (decide ((0:Int)≤(x:Int)))= .bl true:=congrArg D.bl (decide_eq_true (by omega))
  have e2:D.bl (decide ((x:Int)<(n:Int)))= .bl true:=congrArg D.bl (decide_eq_true (by have:=hl x hx;omega))
  exact ⟨_,rfl,_,rfl,true,rfl,eY ⟨_,rfl,true,e1,eY ⟨_,rfl,_,rfl,(by rw [e2];exact hY:Y (.bl (decide ((x:Int)<(n:Int)))))⟩⟩⟩
 have ea:(l.map λ_=>D.bl true)=(List.replicate l.length true).map D.bl:=by rw [List.map_replicate,List.map_const']
 refine ⟨List.replicate l.length true,by rw [ea],rfl,?_⟩
 have er:xc (.bl ((List.replicate l.length true).all id))=true:=by simp [xc]
 rw [er];refine dh ?_;refine ⟨_,rfl,⟨by omega,by show ((l.map aB).length:Int)<2^62;omega⟩,?_⟩
 rw [show (((l.map aB).length:Int)).toNat=l.length by omega,Co]
 refine pG (ρ:= [none,some (aH l)]) aB (λk=>pairD (l.getD k 0,l.getD ((k+1)%l.length) 0)) (List.range l.length) _ (λk hk Y hY=>?_) rfl (by rw [qh];exact small (by omega)) λaE=>?_
 ·have kl:=fE.mp hk
  have et:((k:Int)+1)%((l.map aB).length:Int)=(((k+1)%l.length:Nat):Int):=by rw [ll,show (k:Int)+1=((k+1:Nat):Int) by omega,vf]
  have at2:e7 (l.map aB) (((k:Int)+1)%((l.map aB).length:Int))=some (aB (l.getD ((k+1)%l.length) 0)):=by rw [et];exact pN (qo _ (by omega))
  exact ⟨_,rfl,_,rfl,_,pN kl,_,rfl,_,rfl,_,rfl,(by show (0:Int)<((l.map aB).length:Int);omega),_,at2,by show 2≤sizeLine;decide,hY⟩
 have e:(.lst ((List.range l.length).map λk=>pairD (l.getD k 0,l.getD ((k+1)%l.length) 0)):D)= .lst ((p8 l).map pairD):=by unfold p8;rw [dZ];rfl
 rw [e];exact q
theorem Cv{w:W}{d:Nat×Nat}{r:List (Nat×Nat)}(h:iR w d r):p8 (r.map (·.1))=r:=by
 refine xn λi=>?_;unfold p8;rw [bH,aM]
 by_cases h2:i<r.length
 ·have g1:r.getD i (0,0)=r[i]:=by rw [fW,cN h2];rfl
  rw [vo h2,cN h2,Option.map_some,wz,wz,Ag h h2,g1];rfl
 ·rw [iO (by rw [qh];omega),iO (by omega)];rfl
theorem Tx(a b c d:Int):HT.lexLt [a,b] [c,d]=decide (a<c∨(a=c∧b<d)):=by
 rw [HT.eD]
 by_cases e:a=c
 ·rw [if_pos e,HT.eD]
  by_cases e2:b=d
  ·rw [if_pos e2,show HT.lexLt [] []=false from lu [],decide_eq_false (by omega)]
  ·rw [if_neg e2]
   exact decide_eq_decide.mpr (by omega)
 ·rw [if_neg e]
  exact decide_eq_decide.mpr (by omega)
theorem om{d e:Nat×Nat}(h:lexLe d e)(hl:HT.lexLt [(d.1:Int),(d.2:Int)] [(e.1:Int),(e.2:Int)]=false):e=d:=by
 rw [Tx] at hl;have hl:=of_decide_eq_false hl;unfold lexLe at h;exact Prod.ext (by omega) (by omega)
theorem Fu{w:W}{d:Nat×Nat}{r:List (Nat×Nat)}(h:iR w d r):r[0]? =some d:=by
 obtain ⟨k,k0,k1,k2,rfl⟩:=h;unfold walk;rw [bH,vo k0];rfl
theorem Au:∀w:W,(w.map λr=>(r.length:Int)).sum=((fI w:Nat):Int)
 | []=>rfl
 |r::w=>by
  have:=Au w
  unfold fI at this ⊢;simp only [fF,List.sum_cons] at this ⊢;omega
def Ln:dF:=λds P=>∃(w:W)(rs:List (List (Nat×Nat))),ds= [.lst ((fB rs).map aH),aR w]∧Good w∧w.length≤14∧cf w rs∧(fB rs).Pairwise kv∧P (.bl true)
theorem vQ:FnOk P w Z.K mg base bY 3 T.d__law_good.f T.d__law_good.fd ["_law_found","_law_turns"] (aZ Z Ln):=by
 have nd:=nu.nd;refine bN T.d__law_good.F nu [0,0,98,0,0,0,0] (by decide) (λds R h=>by obtain ⟨_,_,rfl,_⟩:=h;rfl) (λbo A outer s H E ds R hr h=>?_)
 have hu:=hr.units
 refine ⟨_,(ax (cD (gv (gw (jU "list" (U 0) rfl T.B.isinstance rfl T.B.list ju))) (aw (aX jj)) bz)
   (ax (Gy 2 nd)
   (ax (eO rfl PassesOwn.never (cv (U 0)) (aV 3 nd) (ax (gu false 4 nd (bJ T.d__law_sides (uw T) hr (af (U 3) (af (bw fK rfl T.B.len fg (af (U 1) au)) au))))
   (ax (cD (DW.dt (tU (cg (ou hu) (U 4) (sO au) (bu _)) (sR (cg (yx hu) (dQ (U 4) aS) (bw (F2 rfl hu) rfl T.B.min JB (af (U 4) au)) (bu _))))) (aw (aX jj)) bz)
   (aw (eO rfl PassesOwn.never (gy rfl T.B.enumerate (af (U 4) au)) (hZ 2 rfl (bx (aV 5 nd) (bx (aV 6 nd) eQ))) (ax (cD (DW.dt (tU (cg wR (dQ (U 6) aS) (dQ (U 1) (dQ (U 6) aS)) (by with_unfolding_all rfl)) (sR (cg (KI hu) (U 6) (U 2) (by with_unfolding_all rfl))))) (aw (aX jj)) bz)
   (ax (cD (cg (yx hu) (bJ T.d__law_next (vR T) hr (af (U 1) (af (U 6) au))) (dQ (U 4) (jk pP (jk pO (U 5) aS) (bw fK rfl T.B.len fg (af (U 4) au)))) (bu _)) (aw (aX jj)) bz)
   (aw (GB 2 hu (U 6) jj)))))))))
   (aw (aX (mw (mz (ou hu) (bw FZ rfl T.B.len fg (af (U 2) au)) (bw (JE rfl) rfl T.B.sum JC (af (tR (NC:= ["_law_turn"]) (src:= [none]) rfl (vA (ao ig)) trivial (cv (U 1)) (λ_ _ _=>(cG 0 (show (["_law_turn"]:List Str).Nodup from by decide+kernel))) (λ_ _ _=>gB) (λ_ _ _=>(bw fK rfl T.B.len fg (af (U 0) au)))) au)) (bu _)) (sP (mz (ou hu) (U 0) (bw (A8 hu) rfl T.B.sorted jR (af (U 0) au)) (bu _))))))))),?_⟩
 obtain ⟨w',rs,rfl,g,cK,R,sI,q⟩:=h;have lw:(w'.map aH).length=w'.length:=aM _;have dl:=gb g;have Xa:w'.length*w'.length≤14*14:=xu cK cK;have JY:=R.perm.nodup_iff.mpr (fL g);have JX:=R.perm.length_eq;refine ⟨_,rfl,rfl,rfl,dh ?_⟩;refine ⟨_,rfl,?_⟩;refine (?_:jx _ _ _ ((fB rs).map aH) _);refine cJ (λi ρ=>∃(vs:List FV)(o3 o4 o5 o6:Option D),ρ= [some (.lst ((fB rs).map aH)),some (aR w'),some (.x (.pT (((rs.take i).flatten).map zz) vs)),o3,o4,o5,o6]) ⟨[],none,none,none,none,rfl⟩ ?_ ?_
 ·rintro i _ _ hd ⟨vs,o3,o4,o5,o6,rfl⟩ A hA
  obtain ⟨l,hl,rfl⟩:=dj hd;obtain ⟨r,hr,rfl⟩:=dj hl;have rm:=cT hr;obtain ⟨d,Rd,dd,Rb⟩:=R.rnd r rm;have tk:rs.take (i+1)=rs.take i++ [r]:=by rw [List.take_succ,hr];rfl
  have fm:(rs.take (i+1)).flatten=(rs.take i).flatten++r:=by rw [tk,vq];simp
  have U7:∀x∈r,x∈aK w':=λx hx=>bF.mpr (Rd.aK g dd x hx);have aam:=aN (Rd.nodup g dd) U7;have sr:=Cv Rd;have r0:0<r.length:=r8 Rd.first;have lr:(r.map pairD).length=r.length:=aM _
  have BZ:((rs.take i).flatten++r).Nodup:=by
   have h1:rs.flatten=(rs.take (i+1)).flatten++(rs.drop (i+1)).flatten:=by rw [←vq,nH]
   rw [h1,fm] at JY;exact (jf.mp JY).1
  have Xn:((rs.take i).flatten++r).length≤196:=by
   have h1:rs.flatten=(rs.take (i+1)).flatten++(rs.drop (i+1)).flatten:=by rw [←vq,nH]
   have:=congrArg List.length h1
   rw [fm,dE] at this;omega
  rw [dE] at Xn;refine ⟨_,rfl,_,rfl,r.map (·.1),(w'.map aH).length,rfl,λx hx=>?_,by rw [aM];omega,trivial,?_⟩
  ·obtain ⟨e,he,rfl⟩:=bX.mp hx
   rw [lw];exact gx (Rd.aK g dd e he)
  rw [sr];refine ⟨_,rfl,by show 0≤sizeLine;decide,?_⟩
  refine (?_:Bc (.lst (r.map pairD)) (.lst (([]:List (Nat×Nat)).map pairD)) _);refine Bd ⟨_,rfl,wF (decide_eq_false λz=>by rw [z] at r0;cases r0) ?_⟩
  have Qc:e7 (r.map pairD) 0=some (pairD d):=f7 (p:=0) (by rw [bH,Fu Rd];rfl)
  refine ⟨_,rfl,_,Qc,_,rfl,r.map (λe=> [(e.1:Int),(e.2:Int)]),by rw [dZ];rfl,λz=>?_,λm hm Sk=>?_⟩
  ·have:=congrArg List.length z
   rw [aM] at this;exact absurd this (Nat.ne_of_gt r0)
  obtain ⟨e,he,rfl⟩:=bX.mp hm;have ed:=om (Rb e he) (Sk _ (bX.mpr ⟨d,Rd.first,rfl⟩));subst ed;refine (?_:Ej (pairD e) (pairD e) _);refine qu ⟨_,rfl,wF (by simp) ?_⟩
  refine ⟨_,rfl,?_⟩;refine (?_:jx _ _ _ (fN (r.map pairD)) _);refine cJ (λk ρ=>∃(vs:List FV)(o5 o6:Option D),ρ= [some (.lst ((fB rs).map aH)),some (aR w'),some (.x (.pT (((rs.take i).flatten++r.take k).map zz) vs)),some (aH (r.map (·.1))),some (.lst (r.map pairD)),o5,o6]) ⟨vs,o5,o6,by rw [xt,jh];rfl⟩ ?_ ?_
  ·rintro k _ _ hd ⟨vs,o5,o6,rfl⟩ A2 J0
   obtain ⟨x,hx,rfl⟩:=jV hd;obtain ⟨f,hf,rfl⟩:=dj hx;have Xp:=cT hf;have df:=Rd.aK g dd f Xp;have kl:k<r.length:=(bV.mp hf).1;have tk2:r.take (k+1)=r.take k++ [f]:=by rw [List.take_succ,hf];rfl
   have TV:f∉(rs.take i).flatten++r.take k:=λz=>by
    have sp:(rs.take i).flatten++r=((rs.take i).flatten++r.take k)++(f::r.drop (k+1)):=by
     rw [nI,←bV.mp hf|>.2,List.getElem_cons_drop,nH]
    rw [sp] at BZ;exact (jf.mp BZ).2.2 f z f (b7 ..) rfl
   refine ⟨rfl,rfl,?_⟩;refine ⟨_,rfl,_,rfl,_,rfl,_,rfl,_,rfl,_,lJ (gx df),rfl,gd _,_,rfl,?_⟩;refine (?_:if (if true=true then !inD (aB f.2) ((row w' f.1).map aB) else _)=true then _ else _);rw [if_pos rfl,pB,decide_eq_true (show f.2∈row w' f.1 from df)];refine dh ?_;refine ⟨_,rfl,_,rfl,zz f,_,vs,rfl,rfl,_,rfl,?_⟩;refine wF (decide_eq_false λz=>TV (tm.mp z)) ?_;have et:((k:Int)+1)%((r.map pairD).length:Int)=(((k+1)%r.length:Nat):Int):=by rw [lr,show (k:Int)+1=((k+1:Nat):Int) by omega,vf]
   have at2:e7 (r.map pairD) (((k:Int)+1)%((r.map pairD).length:Int))=some (pairD (uv w' f)):=by
    rw [et];have h1:=Ag Rd kl;rw [show r.getD k (0,0)=f by rw [fW,hf];rfl] at h1
    refine f7 ?_;have ml:(k+1)%r.length<r.length:=qo _ r0;rw [bH,cN ml];rw [fW,cN ml] at h1;exact congrArg (λz=>some (pairD z)) h1
   refine ⟨_,rfl,_,rfl,w',f,rfl,g,df,_,rfl,_,rfl,_,rfl,(by show (0:Int)<((r.map pairD).length:Int);omega),_,at2,qu ⟨_,rfl,wF (by simp) ?_⟩⟩
   refine ⟨.bl true,_,vs,rfl,rfl,_,rfl,zz f,rfl,λz=>TV (tm.mp z),by rw [aM,dE,jg];omega,J0 _ ⟨vs++ [.bl true],some (aB k),some (pairD f),?_⟩⟩
   rw [tk2,←nI,dY (l₂:= [f])];rfl
  ·rintro _ ⟨vs,o5,o6,rfl⟩
   rw [nQ,lr,List.take_length,←fm];exact hA _ ⟨vs,_,_,_,_,rfl⟩
 ·rintro _ ⟨vs,o3,o4,o5,o6,rfl⟩
  have el:((fB rs).map aH).length=rs.length:=by rw [aM,aM]
  rw [el,List.take_length];have kl:(rs.flatten.map zz).length=fI w':=by rw [aM,JX,jT]
  have dgl:=jT w'
  have U6:rs.length≤300:=by
   have h:∀dS:List (List (Nat×Nat)),(∀r∈dS,r≠ [])→dS.length≤dS.flatten.length:=λdS=>by
    induction dS with
    |nil=>intro _;exact aT _
    |cons a l ih=>
     intro h;have h1:=vp.mpr (h a (b7 ..));have h2:=ih λr hr=>h r (cm _ hr);rw [AO,dE,cx];omega
   have:=h rs R.ne
   omega
  refine ⟨_,rfl,_,vs,rfl,by omega,_,rfl,pG (ρ:= [none]) aH (λr=> .int (r.length:Int)) w' _ (λx hx Y hY=>?_) rfl (small (by omega)) λaE=>?_⟩
  ·refine ⟨_,rfl,?_⟩
   refine (?_:Y (.int ((x.map aB).length:Int)));rw [aM];exact hY
  refine ⟨w'.map λr=>(r.length:Int),by rw [dZ];rfl,zh ⟨true,congrArg D.bl (decide_eq_true (by rw [Au,kl])),eY ?_⟩⟩
  refine ⟨_,rfl,_,rfl,fB rs,rfl,by rw [aM];omega,λM pm ms=>?_⟩
  have eM:M=fB rs:=List.Perm.eq_of_pairwise (λ_ _ _ _=>uq) ms sI pm;subst eM;refine (?_:Bc (aR (fB rs)) (aR (fB rs)) _);exact zi (by rw [decide_eq_true rfl];exact q)
variable {P:Program} {w:World} {mg:Str→Option Value} {base:Heap} {Z:DC} (T:Txt Z mg)
def km(b:Nat)(dR:List D):Prop:=0<dR.length∧dR.length≤400∧∀d∈dR,∃l:List D,d= .lst l∧l.length≤b
theorem km.at_{b:Nat}{dR:List D}(h:km b dR){j:Nat}(hj:j<dR.length):∃l:List D,dR[j]? =some (.lst l)∧l.length≤b:=by
 obtain ⟨l,e,hl⟩:=h.2.2 dR[j] (jN hj);exact ⟨l,by rw [cN hj,e],hl⟩
theorem km.set{b c:Nat}{dR:List D}(h:km b dR)(bc:b≤c){j:Nat}{l:List D}(hl:l.length≤c):km c (dR.set j (.lst l)):=by
 refine ⟨by rw [fe];exact h.1,by rw [fe];exact h.2.1,λd hd=>?_⟩
 rcases CU hd with hd|rfl
 ·obtain ⟨l,e,hl⟩:=h.2.2 d hd
  exact ⟨l,e,jP hl bc⟩
 ·exact ⟨l,rfl,hl⟩
theorem Dw{n p:Nat}(h:p<n):iF n (p:Int)=some p:=by
 unfold iF;rw [if_pos (by omega),if_pos (by omega)]
 exact congrArg some (by omega)
theorem zQ{n:Nat}(h:0<n):iF n (-1)=some (n-1):=by
 unfold iF;rw [if_neg (by omega),if_pos (by omega)]
 exact congrArg some (by omega)
theorem nO{L:List (List Nat)}(h0:0<L.length)(h1:L.length≤300)(h2:∀r∈L,r.length≤300):km 300 (L.map aH):=by
 refine ⟨by rw [aM];exact h0,by rw [aM];omega,λd hd=>?_⟩
 obtain ⟨r,hr,rfl⟩:=bX.mp hd;exact ⟨_,rfl,by rw [aM];exact h2 r hr⟩
theorem BP{w:W}(h:iG w≠ []):(iG w).Pairwise kv:=by
 unfold iG at h ⊢
 split
 ·next z=>exact z.choose_spec.2
 ·next z=>rw [dif_neg z] at h;exact absurd rfl h
theorem F6{v w:W}{P:D→Prop}(h:P (.bl (!decide (v=w)))):Ej (aR v) (aR w) P:=by
 refine ⟨_,_,sX v,sX w,by have:=rq v;omega,?_⟩
 have:PyData.eqv (lY v) (lY w)=decide (v=w):=by
  by_cases e:v=w
  ·rw [decide_eq_true e];exact (mF v w).mpr e
  ·rw [decide_eq_false e]
   apply qi.mpr;exact λz=>e ((mF v w).mp z)
 rw [if_pos rfl,this];exact h
theorem An{c:dB}{t t' u:cP}{E:eo}{ρ:DN}(I:DN→Prop)(h:∀E':eo,(∀ρ,I ρ→E'.nx ρ)→C6 c t t' E' ρ)(k:∀ρ,I ρ→u E ρ):dSeq (C6 c t t') u E ρ:=h _ k
theorem Jn{E:eo}{a b c d e:Option D}{fs:List D}(A:km 300 fs)(hE:∀Bp,E.nx [a,b,c,d,e,some (.lst Bp)]):
  dSeq (Bb [0,0,2,0,0,2] false 5 (dC (.int 0)) (dC (.int 0))) (dSeq (Bf 5 (F7 (dC (.int 1)))) (xH [0,0,2,0,0,2] 5 (Dq (F4 (dC (.int 0)) rk)))) E [a,b,c,d,e,some (.lst fs)]:=by
 obtain ⟨x0,h0,l0⟩:=A.at_ A.1;refine ⟨fs,rfl,_,0,x0,rfl,Dw (p:=0) A.1,h0,trivial,ba (by omega),?_⟩
 have A1:km 301 (fs.set 0 (.lst (x0++ [.int 0]))):=A.set (by omega) (by rw [dE];show x0.length+1≤301;omega)
 refine yu [a,b,c,d,e,some (.lst (fs.set 0 (.lst (x0++ [.int 0]))))] rfl ?_;generalize fs.set 0 (.lst (x0++ [.int 0]))=f1 at A1;obtain ⟨x1,h1,l1⟩:=A1.at_ (j:=f1.length-1) (by have:=A1.1;omega)
 refine ⟨f1,rfl,_,f1.length-1,x1,rfl,zQ A1.1,h1,?_⟩;refine yu [a,b,c,d,e,some (.lst (f1.set (f1.length-1) (.lst x1.reverse)))] rfl ?_;refine ⟨_,rfl,by show 1≤sizeLine;decide,ba (by rw [fe];have:=A1.2.1;omega),?_⟩
 exact hE _
theorem Pr{E:eo}{u:cP}{a b d e f:Option D}{fs:List D}(A:km 300 fs)(hE:∀Bp,u E [a,b,some (.lst Bp),d,e,f]):
  dSeq (Bb [0,0,2,0,0,2] false 2 (dC (.int 0)) (dC (.int 0))) (dSeq (Bf 2 (F7 (dC (.int 1)))) (dSeq (xH [0,0,2,0,0,2] 2 (Dq rk)) u)) E [a,b,some (.lst fs),d,e,f]:=by
 obtain ⟨x0,h0,l0⟩:=A.at_ A.1;refine ⟨fs,rfl,_,0,x0,rfl,Dw (p:=0) A.1,h0,trivial,ba (by omega),?_⟩
 have A1:km 301 (fs.set 0 (.lst (x0++ [.int 0]))):=A.set (by omega) (by rw [dE];show x0.length+1≤301;omega)
 refine yu [a,b,some (.lst (fs.set 0 (.lst (x0++ [.int 0])))),d,e,f] rfl ?_;generalize fs.set 0 (.lst (x0++ [.int 0]))=f1 at A1;obtain ⟨x1,h1,l1⟩:=A1.at_ (j:=f1.length-1) (by have:=A1.1;omega)
 refine ⟨f1,rfl,_,f1.length-1,x1,rfl,zQ A1.1,h1,?_⟩;refine yu [a,b,some (.lst (f1.set (f1.length-1) (.lst x1.reverse))),d,e,f] rfl ?_;refine ⟨_,rfl,by show 0≤sizeLine;decide,ba (by rw [fe];have:=A1.2.1;omega),?_⟩
 exact hE _
theorem KJ:FnOk P w Z.K mg base bY 6 T.d_law.f T.d_law.fd ["_law_script"] (aZ Z D0):=by
 have nd:=DZ.nd;refine bN T.d_law.F DZ [0,0,2,0,0,2] (by decide) (λds R h=>by obtain ⟨_,rfl,_⟩:=h;rfl) (λbo A outer s H E ds R hr h=>?_)
 have hu:=hr.units
 refine ⟨_,(ax (gu false 1 nd (bJ T.d__law_web (yB T) hr (af (U 0) (af aS (af (mz (ou hu) (jk pP (bJ T.d__law_cell (vP T) hr (af (U 0) (af aS au))) aS) aS (bu _)) au)))))
   (ax (tT 2 (NC:= ["_law_turn"]) (src:= [none]) rfl nd (vA (ao yJ)) trivial (cv (U 1)) (λ_ _ _=>(cG 0 (show (["_law_turn"]:List Str).Nodup from by decide+kernel))) (λ_ _ _=>(zl rfl rfl T.B.list ju (U 0))))
   (ax (Bk 3 nd T.mkW (Ic T) (hr.mono (by decide)) rfl T.mC T.m___init__b (af (U 2) au))
   (ax (zq false 2 aS aS)
   (ax (zr 2 (C8 aS))
   (ax (qz 2 (oX au))
   (ax (Gz rfl PassesOwn.never (Bi rfl T.B.range (af aS au)) (aV 4 nd) (ax (sQ 5 nd (Er T.d_lands (B5 T) hr (af (U 3) au)))
   (ax (cD (cg (ou hu) (bw fK rfl T.B.len fg (af (U 1) au)) aS (bu _)) (aw (cD (DW.dt (tU (gv (gw (jU "list" (U 5) rfl T.B.isinstance rfl T.B.list ju))) (tU (cg (yx hu) (U 5) (sO (af (sO (af aS au)) au)) (bu _)) (sR (gv (gw (bJ T.d__law_is_int (kz T) hr (af (dQ (dQ (U 5) aS) aS) au)))))))) (aw (aX jj)) bz)) (aw (cD (gv (gw (bJ T.d__law_good (vQ T) hr (af (U 5) (af (U 1) au))))) (aw (aX jj)) bz)))
   (ax (zq false 5 aS aS)
   (ax (zr 5 (C8 aS))
   (aw (qz 5 (oX (af aS au)))))))))
   (aw (aX (mz (ou hu) (mB T.W (U 3) T.m_turns.m (vO T) (hr.mono (by decide)) T.m_turns.b) (U 1) (bu _))))))))))),?_⟩
 obtain ⟨ns,rfl,xY,q⟩:=h;refine ⟨_,rfl,_,rfl,ns,5,rfl,by omega,λv=>⟨(by show (0:Int)<2;decide),JV ?_⟩⟩
 refine ⟨ns,14,_,rfl,by omega,by omega,λw' g l1 zS=>⟨trivial,?_⟩⟩
 have lw:(w'.map aH).length=w'.length:=aM _;refine ⟨_,rfl,qF w' none [] _ (by rw [qk,ql];exact small (by omega)) ?_⟩
 rw [xr];refine ⟨_,rfl,w',rfl,g,l1,zS,?_⟩
 have wA:km 300 (w'.map aH):=nO (by omega) (by omega) λr hr=>by
  obtain ⟨p,hp,e⟩:=List.mem_iff_getElem.mp hr
  have:=eF g p
  unfold row at this;rw [fW,cN hp] at this;have this:r.length≤w'.length:=by rw [←e];exact this
  omega
 dsimp only;refine xD [some (.ij ns),some (aR w'),some (.lst (w'.map aH)),some (.fw w'),none,none] rfl ?_;refine Pr wA λh3=>?_;refine ⟨⟨by decide,by decide⟩,?_⟩
 refine (?_:jx _ _ _ (eX 0 2) _);refine Ez (λj ρ=>∃o4 o5,ρ= [some (.ij ns),some (aR w'),some (.lst h3),some (.fw w'),o4,o5]) ⟨_,_,rfl⟩ ?_ ?_
 ·rintro j _ hj ⟨o4,o5,rfl⟩ A hA
  refine ⟨_,rfl,w',rfl,g,l1,zS,λe1=>⟨_,rfl,?_⟩,λn2 rs R e=>⟨_,rfl,?_⟩⟩
  ·dsimp only
   refine xD [some (.ij ns),some (aR w'),some (.lst h3),some (.fw w'),some (aB j),some (aR [[0]])] rfl ?_;refine An (λρ=>ρ= [some (.ij ns),some (aR w'),some (.lst h3),some (.fw w'),some (aB j),some (aR [[0]])]) (λE' hE=>?_) ?_
   ·refine ⟨_,rfl,?_⟩
    dsimp only [rk,C2,aR];refine JV ⟨_,rfl,SW (decide_eq_true (by rw [lw,e1];rfl)) ?_⟩
    refine ⟨_,rfl,rfl,rfl,dh ?_⟩;refine ⟨_,rfl,by show 1≤sizeLine;decide,by show 1≤sizeLine;decide,?_⟩
    refine (?_:Ej (aR [[0]]) (aR [[0]]) _);refine F6 ⟨_,rfl,wF (by simp) ?_⟩
    exact ⟨_,rfl,_,rfl,_,rfl,0,rfl,rfl,dh (hE _ rfl)⟩
   rintro _ rfl;exact Jn (nO (L:= [[0]]) (by decide) (by decide) λr hr=>by rw [je] at hr;subst hr;decide) λBp=>hA _ ⟨_,_,rfl⟩
  ·have dl:=gb g
   have Xa:w'.length*w'.length≤14*14:=xu zS zS;have JX:=R.perm.length_eq
   have ne:iG w'≠ []:=λz=>by
    rw [z] at e
    have rs0:rs= []:=by
     cases rs with
     |nil=>rfl
     |cons a l=>cases e
    rw [rs0] at JX;have d0:(aK w').length=0:=JX.symm;have g1:=g.con 1 (by omega)
    obtain ⟨x,hx⟩:∃x,x∈aK w':=by
     cases g1 with
     |step h1 h2=>exact ⟨_,bF.mpr (show bL w' (_,1) from h2)⟩
    have:=r8 hx
    omega
   have sI:=BP ne
   have U6:rs.length≤300:=by
    have h:∀dS:List (List (Nat×Nat)),(∀r∈dS,r≠ [])→dS.length≤dS.flatten.length:=λdS=>by
     induction dS with
     |nil=>intro _;exact aT _
     |cons a l ih=>
      intro h;have h1:=vp.mpr (h a (b7 ..));have h2:=ih λr hr=>h r (cm _ hr);rw [AO,dE,cx];omega
    have:=h rs R.ne
    omega
   have fA:km 300 ((iG w').map aH):=nO (vp.mpr ne) (by rw [e,aM];exact U6) λr hr=>by
    rw [e] at hr;obtain ⟨r',gf,rfl⟩:=bX.mp hr;obtain ⟨d,Rd,dd,_⟩:=R.rnd r' gf
    have:=aN (Rd.nodup g dd) λx hx=>bF.mpr (Rd.aK g dd x hx)
    rw [aM];omega
   dsimp only;refine xD [some (.ij ns),some (aR w'),some (.lst h3),some (.fw w'),some (aB j),some (.lst ((iG w').map aH))] rfl ?_;refine An (λρ=>ρ= [some (.ij ns),some (aR w'),some (.lst h3),some (.fw w'),some (aB j),some (.lst ((iG w').map aH))]) (λE' hE=>?_) ?_
   ·refine ⟨_,rfl,?_⟩
    dsimp only [rk,C2,aR];refine JV ⟨_,rfl,wF (decide_eq_false (by rw [lw];omega)) ?_⟩
    exact ⟨_,rfl,_,rfl,w',rs,by rw [e];rfl,g,zS,R,by rw [←e];exact sI,rfl,dh (hE _ rfl)⟩
   rintro _ rfl;exact Jn fA λBp=>hA _ ⟨_,_,rfl⟩
 ·rintro _ ⟨o4,o5,rfl⟩
  exact ⟨_,rfl,w',rfl,w',rfl,zS,_,rfl,zi (by rw [decide_eq_true rfl];exact q)⟩
theorem all_mk{l:PySem.W.OpenLaw}{w:World}{K:PySem.W.Frag}{h:Heap}{mg:Str→Option Value}{fa C:Addr}{VN:Tok}(X:K.In h)(G:h.Ns mainGlobals mg)(Ya:mg "law"=some (.ref fa))
  {d0:Addr} {od0 Wg:Option Addr} {sl0:Array (Option Value)} {oc0 ZY WY pm0 Qg WJ:Value}
  {d1:Addr} {od1 Wh:Option Addr} {sl1:Array (Option Value)} {oc1 ZZ WZ IB Qh WK:Value}
  {d2:Addr} {od2 Wi:Option Addr} {oJ:Array (Option Value)} {oc2 Z0 W0 K4 Qi WL:Value}
  {d3:Addr} {od3 Wj:Option Addr} {sl3:Array (Option Value)} {oc3 Z1 W2 Cg Qj WM:Value}
  {d4:Addr} {od4 Wl:Option Addr} {sl4:Array (Option Value)} {oc4 Z2 W3 pm4 Qk WN:Value}
  {d5:Addr} {od5 Wm:Option Addr} {sl5:Array (Option Value)} {oc5 Z3 W4 pm5 Ql WO:Value}
  {d6:Addr} {od6 Wn:Option Addr} {sl6:Array (Option Value)} {oc6 Z4 W5 pm6 Qm WQ:Value}
  {d7:Addr} {od7 Wo:Option Addr} {sl7:Array (Option Value)} {oc7 Z5 W6 pm7 Qn WR:Value}
  {d8:Addr} {od8 Wq:Option Addr} {sl8:Array (Option Value)} {oc8 Z6 W7 pm8 Qo WS:Value}
  {d9:Addr} {od9 Wr:Option Addr} {sl9:Array (Option Value)} {oc9 Z7 W8 pm9 Qp WT:Value}
  {M7:Addr} {Uo PX:Option Addr} {Vf:Array (Option Value)} {T8 Tb QV UH LQ Qr:Value}
  {M8:Addr} {Up PY:Option Addr} {Vg:Array (Option Value)} {T9 Tc QW UI LR Qs:Value}
  {M9:Addr} {Uq PZ:Option Addr} {Vh:Array (Option Value)} {Ua Td QX UJ LS Qt:Value}
  {Na:Addr} {Ur P0:Option Addr} {Vi:Array (Option Value)} {Ub Te QY UK LU Qu:Value}
  {Nb:Addr} {Us P1:Option Addr} {Vj:Array (Option Value)} {Uc Tf QZ UL LV Qv:Value}
  {Nc:Addr} {Ut P2:Option Addr} {Vk:Array (Option Value)} {Ud Tg Q0 UM LW Qw:Value}
  {Nd:Addr} {Uu P4:Option Addr} {Vl:Array (Option Value)} {Ue Th Q1 UN LX Qx:Value}
  {Nf:Addr} {Uv P5:Option Addr} {Vm:Array (Option Value)} {Ug Tj Q2 UO LY Qy:Value}
  {Ng:Addr} {Uw P6:Option Addr} {Vn:Array (Option Value)} {Uh Tn Q3 UP LZ Qz:Value}
  {Nh:Addr} {Ux P7:Option Addr} {Vo:Array (Option Value)} {Ui To Q4 UQ L0 QA:Value}
  {Ni:Addr} {Uy P8:Option Addr} {Vp:Array (Option Value)} {Uj Tp Q5 UR L1 QB:Value}
  {Nj:Addr} {Uz P9:Option Addr} {Vq:Array (Option Value)} {Uk Tq Q6 US L3 QC:Value}
  {Nk:Addr} {UA Qa:Option Addr} {Vr:Array (Option Value)} {Ul Ts Q7 UT L4 QD:Value}
  {Nl:Addr} {UB Qb:Option Addr} {Vs:Array (Option Value)} {Um Tt Q8 UU L5 QE:Value}
  {i0:Addr} {Y2 Ze:Option Addr} {Zw:Array (Option Value)} {YW Y8 Zk Zq SX ZD:Value}
  {i1:Addr} {Y3 Zf:Option Addr} {Zx:Array (Option Value)} {YX Y9 Zl Zr SY ZE:Value}
  {i2:Addr} {Y4 Zg:Option Addr} {Zy:Array (Option Value)} {YY Za Zm Zs S0 ZF:Value}
  {i3:Addr} {Y5 Zh:Option Addr} {Zz:Array (Option Value)} {YZ Zb Zn Zt S8 ZG:Value}
  {i4:Addr} {Y6 Zi:Option Addr} {ZA:Array (Option Value)} {Y0 Zc Zo Zu S9 ZH:Value}
  {i5:Addr} {Y7 Zj:Option Addr} {ZC:Array (Option Value)} {Y1 Zd Zp Zv Ta ZI:Value}
  (gC:PySem.W.nsIn K mainGlobals "Web"=some (some (.ref C)))
  (a0:gK K "round_from" d0)
  (l0:eZ K "round_from" "round_from" jr d0 od0 Wg sl0 oc0 ZY WY pm0 Qg WJ)
  (c0:PySem.W.codeIn K Qg "round_from"=true)
  (k0:PySem.W.keepIn K (.ref d0)=true)
  (a1:gK K "lands" d1)
  (l1:eZ K "lands" "lands" lO d1 od1 Wh sl1 oc1 ZZ WZ IB Qh WK)
  (c1:PySem.W.codeIn K Qh "lands"=true)
  (k1:PySem.W.keepIn K (.ref d1)=true)
  (a2:gK K "is_among" d2)
  (l2:eZ K "is_among" "is_among" lN d2 od2 Wi oJ oc2 Z0 W0 K4 Qi WL)
  (c2:PySem.W.codeIn K Qi "is_among"=true)
  (k2:PySem.W.keepIn K (.ref d2)=true)
  (a3:gK K "alien_fault" d3)
  (l3:eZ K "alien_fault" "alien_fault" iK d3 od3 Wj sl3 oc3 Z1 W2 Cg Qj WM)
  (c3:PySem.W.codeIn K Qj "alien_fault"=true)
  (k3:PySem.W.keepIn K (.ref d3)=true)
  (a4:gK K "self_fault" d4)
  (l4:eZ K "self_fault" "self_fault" js d4 od4 Wl sl4 oc4 Z2 W3 pm4 Qk WN)
  (c4:PySem.W.codeIn K Qk "self_fault"=true)
  (k4:PySem.W.keepIn K (.ref d4)=true)
  (a5:gK K "twice_fault" d5)
  (l5:eZ K "twice_fault" "twice_fault" iN d5 od5 Wm sl5 oc5 Z3 W4 pm5 Ql WO)
  (c5:PySem.W.codeIn K Ql "twice_fault"=true)
  (k5:PySem.W.keepIn K (.ref d5)=true)
  (a6:gK K "lone_fault" d6)
  (l6:eZ K "lone_fault" "lone_fault" jq d6 od6 Wn sl6 oc6 Z4 W5 pm6 Qm WQ)
  (c6:PySem.W.codeIn K Qm "lone_fault"=true)
  (k6:PySem.W.keepIn K (.ref d6)=true)
  (a7:gK K "reached_from_first" d7)
  (l7:eZ K "reached_from_first" "reached_from_first" cz d7 od7 Wo sl7 oc7 Z5 W6 pm7 Qn WR)
  (c7:PySem.W.codeIn K Qn "reached_from_first"=true)
  (k7:PySem.W.keepIn K (.ref d7)=true)
  (a8:gK K "apart_fault" d8)
  (l8:eZ K "apart_fault" "apart_fault" iL d8 od8 Wq sl8 oc8 Z6 W7 pm8 Qo WS)
  (c8:PySem.W.codeIn K Qo "apart_fault"=true)
  (k8:PySem.W.keepIn K (.ref d8)=true)
  (a9:gK K "first_fault" d9)
  (l9:eZ K "first_fault" "first_fault" iM d9 od9 Wr sl9 oc9 Z7 W8 pm9 Qp WT)
  (c9:PySem.W.codeIn K Qp "first_fault"=true)
  (k9:PySem.W.keepIn K (.ref d9)=true)
  (V2:gK K "_law_cell" M7)
  (l10:eZ K "_law_cell" "_law_cell" pX M7 Uo PX Vf T8 Tb QV UH LQ Qr)
  (Ws:PySem.W.codeIn K LQ "_law_cell"=true)
  (ZK:PySem.W.keepIn K (.ref M7)=true)
  (V3:gK K "_law_mixed" M8)
  (l11:eZ K "_law_mixed" "_law_mixed" nk M8 Up PY Vg T9 Tc QW UI LR Qs)
  (Wt:PySem.W.codeIn K LR "_law_mixed"=true)
  (ZL:PySem.W.keepIn K (.ref M8)=true)
  (V4:gK K "_law_digits" M9)
  (l12:eZ K "_law_digits" "_law_digits" lM M9 Uq PZ Vh Ua Td QX UJ LS Qt)
  (Wu:PySem.W.codeIn K LS "_law_digits"=true)
  (ZM:PySem.W.keepIn K (.ref M9)=true)
  (V5:gK K "_law_take" Na)
  (l13:eZ K "_law_take" "_law_take" pY Na Ur P0 Vi Ub Te QY UK LU Qu)
  (Wv:PySem.W.codeIn K LU "_law_take"=true)
  (ZN:PySem.W.keepIn K (.ref Na)=true)
  (V6:gK K "_law_tree" Nb)
  (zS:eZ K "_law_tree" "_law_tree" pZ Nb Us P1 Vj Uc Tf QZ UL LV Qv)
  (Ww:PySem.W.codeIn K LV "_law_tree"=true)
  (ZO:PySem.W.keepIn K (.ref Nb)=true)
  (V7:gK K "_law_next" Nc)
  (l15:eZ K "_law_next" "_law_next" kc Nc Ut P2 Vk Ud Tg Q0 UM LW Qw)
  (Wx:PySem.W.codeIn K LW "_law_next"=true)
  (ZP:PySem.W.keepIn K (.ref Nc)=true)
  (V8:gK K "_law_round" Nd)
  (l16:eZ K "_law_round" "_law_round" nq Nd Uu P4 Vl Ue Th Q1 UN LX Qx)
  (Wy:PySem.W.codeIn K LX "_law_round"=true)
  (ZQ:PySem.W.keepIn K (.ref Nd)=true)
  (V9:gK K "_law_tie" Nf)
  (l17:eZ K "_law_tie" "_law_tie" rP Nf Uv P5 Vm Ug Tj Q2 UO LY Qy)
  (Wz:PySem.W.codeIn K LY "_law_tie"=true)
  (ZR:PySem.W.keepIn K (.ref Nf)=true)
  (Wa:gK K "_law_renamed" Ng)
  (l18:eZ K "_law_renamed" "_law_renamed" kA Ng Uw P6 Vn Uh Tn Q3 UP LZ Qz)
  (WA:PySem.W.codeIn K LZ "_law_renamed"=true)
  (ZS:PySem.W.keepIn K (.ref Ng)=true)
  (Wc:gK K "_law_web" Nh)
  (l19:eZ K "_law_web" "_law_web" rQ Nh Ux P7 Vo Ui To Q4 UQ L0 QA)
  (WB:PySem.W.codeIn K L0 "_law_web"=true)
  (ZT:PySem.W.keepIn K (.ref Nh)=true)
  (Wd:gK K "_law_is_int" Ni)
  (l20:eZ K "_law_is_int" "_law_is_int" iJ Ni Uy P8 Vp Uj Tp Q5 UR L1 QB)
  (WC:PySem.W.codeIn K L1 "_law_is_int"=true)
  (ZU:PySem.W.keepIn K (.ref Ni)=true)
  (We:gK K "_law_sides" Nj)
  (l21:eZ K "_law_sides" "_law_sides" fc Nj Uz P9 Vq Uk Tq Q6 US L3 QC)
  (WD:PySem.W.codeIn K L3 "_law_sides"=true)
  (ZV:PySem.W.keepIn K (.ref Nj)=true)
  (Wf:gK K "_law_good" Nk)
  (l22:eZ K "_law_good" "_law_good" ig Nk UA Qa Vr Ul Ts Q7 UT L4 QD)
  (WE:PySem.W.codeIn K L4 "_law_good"=true)
  (ZW:PySem.W.keepIn K (.ref Nk)=true)
  (PU:gK K "law" Nl)
  (l23:eZ K "law" "law" yJ Nl UB Qb Vs Um Tt Q8 UU L5 QE)
  (WG:PySem.W.codeIn K L5 "law"=true)
  (ZX:PySem.W.keepIn K (.ref Nl)=true)
  (m0:PySem.W.findIn K (.ref C) "__init__"=some (some (.ref i0)))
  (f0:PySem.W.isFn K (.ref i0)=true)
  (ml0:eZ K "__init__" "Web.__init__" dN i0 Y2 Ze Zw YW Y8 Zk Zq SX ZD)
  (mc0:PySem.W.codeIn K SX "Web.__init__"=true)
  (mk0:PySem.W.keepIn K (.ref i0)=true)
  (m1:PySem.W.findIn K (.ref C) "many"=some (some (.ref i1)))
  (f1:PySem.W.isFn K (.ref i1)=true)
  (ml1:eZ K "many" "Web.many" lK i1 Y3 Zf Zx YX Y9 Zl Zr SY ZE)
  (mc1:PySem.W.codeIn K SY "Web.many"=true)
  (mk1:PySem.W.keepIn K (.ref i1)=true)
  (m2:PySem.W.findIn K (.ref C) "turns"=some (some (.ref i2)))
  (f2:PySem.W.isFn K (.ref i2)=true)
  (ml2:eZ K "turns" "Web.turns" ie i2 Y4 Zg Zy YY Za Zm Zs S0 ZF)
  (mc2:PySem.W.codeIn K S0 "Web.turns"=true)
  (mk2:PySem.W.keepIn K (.ref i2)=true)
  (m3:PySem.W.findIn K (.ref C) "ties"=some (some (.ref i3)))
  (f3:PySem.W.isFn K (.ref i3)=true)
  (ml3:eZ K "ties" "Web.ties" ja i3 Y5 Zh Zz YZ Zb Zn Zt S8 ZG)
  (mc3:PySem.W.codeIn K S8 "Web.ties"=true)
  (mk3:PySem.W.keepIn K (.ref i3)=true)
  (m4:PySem.W.findIn K (.ref C) "tied"=some (some (.ref i4)))
  (f4:PySem.W.isFn K (.ref i4)=true)
  (ml4:eZ K "tied" "Web.tied" rO i4 Y6 Zi ZA Y0 Zc Zo Zu S9 ZH)
  (mc4:PySem.W.codeIn K S9 "Web.tied"=true)
  (mk4:PySem.W.keepIn K (.ref i4)=true)
  (m5:PySem.W.findIn K (.ref C) "behind"=some (some (.ref i5)))
  (f5:PySem.W.isFn K (.ref i5)=true)
  (ml5:eZ K "behind" "Web.behind" jo i5 Y7 Zj ZC Y1 Zd Zp Zv Ta ZI)
  (mc5:PySem.W.codeIn K Ta "Web.behind"=true)
  (mk5:PySem.W.keepIn K (.ref i5)=true)
  (pgC:PySem.W.plainGet K C Str.empty=true)
  (J3:PySem.W.hasDictIn K C=true)
  (poC:PySem.W.plainOver K C=true)
  (saC:PySem.W.findIn K (.ref C) "__setattr__"=some (some (.builtin "object.__setattr__")))
  (mkC:PySem.W.makesIn K C=true)
  (Z9:PySem.W.keepIn K (.ref C)=true)
  (nR:PySem.W.findIn K (.ref C) "rows"=some none)
  (WH:PySem.W.nsIn K mainGlobals "MOST_POINTS"=some (some (.int 14 VN)))
  (VU:PySem.W.nsIn K mainGlobals "len"=some none)
  (LH:PySem.W.nsIn K mainGlobals "range"=some none)
  (VV:PySem.W.nsIn K mainGlobals "max"=some none)
  (VW:PySem.W.nsIn K mainGlobals "min"=some none)
  (AF:PySem.W.nsIn K mainGlobals "enumerate"=some none)
  (VZ:PySem.W.nsIn K mainGlobals "zip"=some none)
  (Jt:PySem.W.nsIn K mainGlobals "sorted"=some none)
  (VS:PySem.W.nsIn K mainGlobals "all"=some none)
  (yZ:PySem.W.nsIn K mainGlobals "isinstance"=some none)
  (VT:PySem.W.nsIn K mainGlobals "int"=some none)
  (Py:PySem.W.nsIn K mainGlobals "bool"=some none)
  (Pz:PySem.W.nsIn K mainGlobals "list"=some none)
  (LI:PySem.W.nsIn K mainGlobals "tuple"=some none)
  (VY:PySem.W.nsIn K mainGlobals "sum"=some none)
  (CV:PySem.W.nsIn K mainGlobals "reversed"=some none)
  (VX:PySem.W.nsIn K mainGlobals "set"=some none)
  :∃fd:FuncData,(∀(s:Shared)(v:Value),BindsTo s fd ⟨[v],[]⟩ [("_law_script",v)])∧∀base:Heap,K.In base→base.Ns mainGlobals mg→FnOk l.prog w K mg base bY 40 fa fd ["_law_script"] (L2.qb K):=by
 have e:=Ya.symm.trans (PySem.W.mg_of X G PU);cases e;have E0:=pj (st:=dN) ml0 mc0 mk0;have e0:=E0.binds (ps:= ["self","turns"]) (λ_ _ _ _ _ _ _ hl=>by obtain ⟨_,_,rfl⟩:=L2.jB hl;rfl)
 let Z:DC:=⟨K,C⟩
 let T:Txt Z mg:=⟨⟨PySem.W.mg_none_of X G VU,PySem.W.mg_none_of X G LH,PySem.W.mg_none_of X G VV,PySem.W.mg_none_of X G VW,PySem.W.mg_none_of X G AF,PySem.W.mg_none_of X G VZ,PySem.W.mg_none_of X G Jt,PySem.W.mg_none_of X G VS,PySem.W.mg_none_of X G yZ,PySem.W.mg_none_of X G VT,PySem.W.mg_none_of X G Py,PySem.W.mg_none_of X G Pz,PySem.W.mg_none_of X G LI,PySem.W.mg_none_of X G VY,PySem.W.mg_none_of X G CV⟩,PySem.W.mg_none_of X G VX, .of X G a0 l0 c0 k0 (λ_ _ _ _ _ _ _ hl=>by obtain ⟨_,_,rfl⟩:=L2.jB hl;rfl), .of X G a1 l1 c1 k1 (λ_ _ _ _ _ _ _ hl=>by obtain ⟨_,rfl⟩:=L2.i9 hl;rfl), .of X G a2 l2 c2 k2 (λ_ _ _ _ _ _ _ hl=>by obtain ⟨_,_,rfl⟩:=L2.jB hl;rfl), .of X G a3 l3 c3 k3 (λ_ _ _ _ _ _ _ hl=>by obtain ⟨_,rfl⟩:=L2.i9 hl;rfl), .of X G a4 l4 c4 k4 (λ_ _ _ _ _ _ _ hl=>by obtain ⟨_,rfl⟩:=L2.i9 hl;rfl), .of X G a5 l5 c5 k5 (λ_ _ _ _ _ _ _ hl=>by obtain ⟨_,rfl⟩:=L2.i9 hl;rfl), .of X G a6 l6 c6 k6 (λ_ _ _ _ _ _ _ hl=>by obtain ⟨_,rfl⟩:=L2.i9 hl;rfl), .of X G a7 l7 c7 k7 (λ_ _ _ _ _ _ _ hl=>by obtain ⟨_,rfl⟩:=L2.i9 hl;rfl), .of X G a8 l8 c8 k8 (λ_ _ _ _ _ _ _ hl=>by obtain ⟨_,rfl⟩:=L2.i9 hl;rfl), .of X G a9 l9 c9 k9 (λ_ _ _ _ _ _ _ hl=>by obtain ⟨_,rfl⟩:=L2.i9 hl;rfl), .of X G V2 l10 Ws ZK (λ_ _ _ _ _ _ _ hl=>by obtain ⟨_,_,rfl⟩:=L2.jB hl;rfl), .of X G V3 l11 Wt ZL (λ_ _ _ _ _ _ _ hl=>by obtain ⟨_,_,rfl⟩:=L2.jB hl;rfl), .of X G V4 l12 Wu ZM (λ_ _ _ _ _ _ _ hl=>by obtain ⟨_,_,rfl⟩:=L2.jB hl;rfl), .of X G V5 l13 Wv ZN (λ_ _ _ _ _ _ _ hl=>by obtain ⟨_,_,rfl⟩:=L2.jB hl;rfl), .of X G V6 zS Ww ZO (λ_ _ _ _ _ _ _ hl=>by obtain ⟨_,_,rfl⟩:=L2.jB hl;rfl), .of X G V7 l15 Wx ZP (λ_ _ _ _ _ _ _ hl=>by obtain ⟨_,_,rfl⟩:=L2.jB hl;rfl), .of X G V8 l16 Wy ZQ (λ_ _ _ _ _ _ _ hl=>by obtain ⟨_,_,rfl⟩:=L2.jB hl;rfl), .of X G V9 l17 Wz ZR (λ_ _ _ _ _ _ _ hl=>by obtain ⟨_,_,_,rfl⟩:=L2.zT hl;rfl), .of X G Wa l18 WA ZS (λ_ _ _ _ _ _ _ hl=>by obtain ⟨_,_,_,rfl⟩:=L2.zT hl;rfl), .of X G Wc l19 WB ZT (λ_ _ _ _ _ _ _ hl=>by obtain ⟨_,_,_,rfl⟩:=L2.zT hl;rfl), .of X G Wd l20 WC ZU (λ_ _ _ _ _ _ _ hl=>by obtain ⟨_,rfl⟩:=L2.i9 hl;rfl), .of X G We l21 WD ZV (λ_ _ _ _ _ _ _ hl=>by obtain ⟨_,_,rfl⟩:=L2.jB hl;rfl), .of X G Wf l22 WE ZW (λ_ _ _ _ _ _ _ hl=>by obtain ⟨_,_,rfl⟩:=L2.jB hl;rfl), .of X G PU l23 WG ZX (λ_ _ _ _ _ _ _ hl=>by obtain ⟨_,rfl⟩:=L2.i9 hl;rfl),⟨⟨pgC,J3,poC,saC⟩,nR⟩,PySem.W.mg_of X G gC,i0,_,E0,⟨mkC,m0,f0,Z9⟩,e0, .of m1 f1 ml1 mc1 mk1 (λ_ _ _ _ _ _ _ hl=>by obtain ⟨_,rfl⟩:=L2.i9 hl;rfl), .of m2 f2 ml2 mc2 mk2 (λ_ _ _ _ _ _ _ hl=>by obtain ⟨_,rfl⟩:=L2.i9 hl;rfl), .of m3 f3 ml3 mc3 mk3 (λ_ _ _ _ _ _ _ hl=>by obtain ⟨_,rfl⟩:=L2.i9 hl;rfl), .of m4 f4 ml4 mc4 mk4 (λ_ _ _ _ _ _ _ hl=>by obtain ⟨_,_,_,rfl⟩:=L2.zT hl;rfl), .of m5 f5 ml5 mc5 mk5 (λ_ _ _ _ _ _ _ hl=>by obtain ⟨_,_,_,rfl⟩:=L2.zT hl;rfl),⟨VN,PySem.W.mg_of X G WH⟩⟩
 exact ⟨_,λs v=> .of_eq rfl,λbase _ _=>(((KJ (P:=l.prog) (w:=w) (base:=base) T).mono (by decide)).imp (L2.Kr (Z:=Z)))⟩
theorem walk{l:PySem.W.OpenLaw}{q:Program}{loose:List Str}{XP:(Str→Option Value)→Heap→Prop}{YP:World→Heap→Prop}{d:DefRec}{K:Params→PySem.W.Frag}(hn:l.most=some 63)(Bw:d.params.defaults= [])
  (hY:∀(w:World)(h:Heap),YP w h→(K w.params).In h)
  (F:∀(w:World)(mg:Str→Option Value)(fa:Addr)(h:Heap),(K w.params).In h→h.Ns mainGlobals mg→mg d.name=some (.ref fa)→
   ∃fd:FuncData,(∀(s:Shared)(u:Value),BindsTo s fd ⟨[u],[]⟩ [("_law_script",u)])∧∀base:Heap,(K w.params).In base→base.Ns mainGlobals mg→FnOk l.prog w (K w.params) mg base bY 40 fa fd ["_law_script"] (qb (K w.params))):
  PySem.W.WalkO q loose XP YP l.row.toRowW d [] (λf vs=>PySem.call f vs):=L2.Pw 40 (by decide) hn Bw hY F
end AU
def PySem.W.Fast.tw14081563546997993326:Nat:=0
def PySem.W.Fast.tw5554935561651106493:Nat:=0
def PySem.W.Fast.tw184613118892556798:Nat:=0
def PySem.W.Fast.tw10785919460487754246:Nat:=0
def PySem.W.Fast.tw14020898290156139706:Nat:=0
def PySem.W.Fast.tw16648529220461580635:Nat:=0
def PySem.W.Fast.tw17883421613885631541:Nat:=0
def PySem.W.Fast.tw11313082985264704534:Nat:=0
def PySem.W.Fast.tw18067196839197454941:Nat:=0
def PySem.W.Fast.tw6515625066155827528:Nat:=0
def PySem.W.Fast.tw15372138331806754901:Nat:=0
def PySem.W.Fast.tw10768415771676258569:Nat:=0
def PySem.W.Fast.tw14324931352732798028:Nat:=0
def PySem.W.Fast.tw5179476360887292080:Nat:=0
def PySem.W.Fast.tw17685998688003848136:Nat:=0
def PySem.W.Fast.tw412203742093557745:Nat:=0
def PySem.W.Fast.tw16987297018295657641:Nat:=0
def PySem.W.Fast.tw3353880775755573903:Nat:=0
def PySem.W.Fast.tw6376854132187448092:Nat:=0
def PySem.W.Fast.tw11732755205453534170:Nat:=0
def PySem.W.Fast.tw9792663908186354237:Nat:=0
def PySem.W.Fast.tw10305081527181470724:Nat:=0
def PySem.W.Fast.tw9943022706235492674:Nat:=0
def PySem.W.Fast.tw12491513300889867624:Nat:=0
def PySem.W.Fast.tw4693314607347130635:Nat:=0
def PySem.W.Fast.tw10224500547805551459:Nat:=0
def PySem.W.Fast.tw8930610184336675091:Nat:=0
def PySem.W.Fast.tw18438205429572900982:Nat:=0
def PySem.W.Fast.tw793341364182703880:Nat:=0
def PySem.W.Fast.tw10312719793716013239:Nat:=0
def PySem.W.Fast.tw14027015429637610494:Nat:=0
def PySem.W.Fast.tw963751031224085948:Nat:=0
def PySem.W.Fast.tw332536881924290853:Nat:=0
def PySem.W.Fast.tw14084109648875196911:Nat:=0
def PySem.W.Fast.tw11641325325099841565:Nat:=0
def PySem.W.Fast.tw8656870704715373051:Nat:=0
def PySem.W.Fast.tw7241966669905979910:Nat:=0
def PySem.W.Fast.tw15081930433991611045:Nat:=0
def PySem.W.Fast.tw4324809197121588585:Nat:=0
def PySem.W.Fast.tw544794123839405988:Nat:=0
def PySem.W.Fast.tw6509771519968807574:Nat:=0
def PySem.W.Fast.tw16881913735603071810:Nat:=0
def PySem.W.Fast.tw4980820769680897389:Nat:=0
def PySem.W.Fast.tw15949976113877148423:Nat:=0
def PySem.W.Fast.tw2360947188405314918:Nat:=0
def PySem.W.Fast.tw2321769949434174988:Nat:=0
def PySem.W.Fast.tw5052841931149090851:Nat:=0
def PySem.W.Fast.tw17577815080234520625:Nat:=0
def PySem.W.Fast.tw16229875134935925122:Nat:=0
def PySem.W.Fast.tw6422869659088966251:Nat:=0
def PySem.W.Fast.tw7293570295794435335:Nat:=0
def PySem.W.Fast.tw13682658867276575351:Nat:=0
def PySem.W.Fast.tw3236213368863267521:Nat:=0
def PySem.W.Fast.tw9577358942289173506:Nat:=0
def PySem.W.Fast.tw3227426183453103876:Nat:=0
def PySem.W.Fast.tw4537757404095720411:Nat:=0
def PySem.W.Fast.tw10756161993193232949:Nat:=0
def PySem.W.Fast.tw6290019514014779435:Nat:=0
def PySem.W.Fast.tw5777402952768533917:Nat:=0
def PySem.W.Fast.tw782107607300914120:Nat:=0
def PySem.W.Fast.tw7301695378269479301:Nat:=0
def PySem.W.Fast.tw568529811871220215:Nat:=0
def PySem.W.Fast.tw11543921218378324001:Nat:=0
def PySem.W.Fast.tw14897383007053862309:Nat:=0
def PySem.W.Fast.tw14188185719785746285:Nat:=0
def PySem.W.Fast.tw16713559888157932325:Nat:=0
def PySem.W.Fast.tw5434591729845697714:Nat:=0
def PySem.W.Fast.tw10482205797823517801:Nat:=0
def PySem.W.Fast.tw6304717304630139637:Nat:=0
def PySem.W.Fast.tw15623519006737955631:Nat:=0
def PySem.W.Fast.tw5053287602281240919:Nat:=0
open PySem PySem.W PyProof.Rows
set_option maxRecDepth 100000 in
set_option maxHeartbeats 0 in
theorem PySem.Challenge.cw_mapdye_k13_whole_lands_walked_holds : PySem.Challenge.rw_mapdye_k13_whole_lands_walked.Holds := by
 w_on;o_law;k_head;(case hw=>w_witness2)
 k_fill
 refine AU.walk (l:=PySem.Challenge.rw_mapdye_k13_whole_lands_walked) rfl rfl (λw h Y=>PySem.W.kIn_of Y) ?F
 case F=>
  intro w mg fa h KX G t7
  refine' AU.all_mk KX G t7 ?_ ?_ ?_ ?_ ?_ ?_ ?_ ?_ ?_ ?_ ?_ ?_ ?_ ?_ ?_ ?_ ?_ ?_ ?_ ?_ ?_ ?_ ?_ ?_ ?_ ?_ ?_ ?_ ?_ ?_ ?_ ?_ ?_ ?_ ?_ ?_ ?_ ?_ ?_ ?_ ?_ ?_ ?_ ?_ ?_ ?_ ?_ ?_ ?_ ?_ ?_ ?_ ?_ ?_ ?_ ?_ ?_ ?_ ?_ ?_ ?_ ?_ ?_ ?_ ?_ ?_ ?_ ?_ ?_ ?_ ?_ ?_ ?_ ?_ ?_ ?_ ?_ ?_ ?_ ?_ ?_ ?_ ?_ ?_ ?_ ?_ ?_ ?_ ?_ ?_ ?_ ?_ ?_ ?_ ?_ ?_ ?_ ?_ ?_ ?_ ?_ ?_ ?_ ?_ ?_ ?_ ?_ ?_ ?_ ?_ ?_ ?_ ?_ ?_ ?_ ?_ ?_ ?_ ?_ ?_ ?_ ?_ ?_ ?_ ?_ ?_ ?_ ?_ ?_ ?_ ?_ ?_ ?_ ?_ ?_ ?_ ?_ ?_ ?_ ?_ ?_ ?_ ?_ ?_ ?_ ?_ ?_ ?_ ?_ ?_ ?_
  all_goals (try (show _=_;k_is))
