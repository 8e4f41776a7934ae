import PyProof.Rows.All
import Wide.All
import OpenK.AllK
import Wide.FinOn
import Lean
import PyProof.EqAt
import PyProof.EqKinds
import PyProof.TupleCall
import KE.KSortTup
import PyProof.NeKinds
import PyProof.SetKind
import PyProof.SetRoads
import PyProof.SetNew
import PyProof.WalksS
import PyProof.CollectWalk
import PyProof.TupleKey
import PyProof.IsRules
import PyProof.InstEq
import KE.KRevIter
import PyProof.FitsBits
import PyProof.P3Eq
import PyProof.ListRange
import PyProof.MeetsSeq
import PyProof.DictRoadsH
import PyProof.DictTruth
import PyProof.MinMaxWalk
import PySem.Challenge.RW_mapdye_k14_counted
set_option Elab.async false
set_option linter.all false
set_option maxRecDepth 100000
abbrev aP:= @List.length_map
abbrev cu:= @List.getElem?_eq_some_iff
abbrev cK:= @List.getElem?_eq_getElem
abbrev cn:= @List.mem_cons_of_mem
abbrev b8:= @List.mem_cons_self
abbrev aV:= @Nat.le_refl
abbrev di:= @List.mem_of_getElem?
abbrev b9:= @List.mem_append
abbrev fW:= @List.getD_eq_getElem?_getD
abbrev dX:= @List.length_append
abbrev bN:= @List.mem_singleton
abbrev cg:= @Array.length_toList
abbrev cL:= @List.mem_append_right
abbrev bO:= @List.size_toArray
abbrev b7:= @List.nodup_append
abbrev ck:= @List.getElem?_map
abbrev bE:= @List.mem_cons
abbrev cv:= @List.length_cons
abbrev dE:= @Bool.false_ne_true
abbrev e7:= @Array.getElem?_toList
abbrev fj:= @List.mem_append_left
abbrev bS:= @List.mem_map
abbrev cm:= @Nat.ne_of_lt
abbrev fB:= @Bool.false_eq_true
abbrev dW:= @List.map_append
abbrev jr:= @List.getElem?_append_right
abbrev gz:= @List.getElem?_of_mem
abbrev fk:= @List.nodup_cons
abbrev j2:= @List.getElem?_append_left
abbrev gB:= @Nat.lt_of_lt_of_le
abbrev fC:= @List.length_set
abbrev iY:= @List.take_append_drop
abbrev cZ:= @Nat.zero_le
abbrev ik:= @Array.toList_append
abbrev js:= @List.getElem?_eq_none
abbrev mG:= @List.perm_ext_iff_of_nodup
abbrev fD:= @List.map_cons
abbrev gw:= @List.mem_range
abbrev iZ:= @List.pairwise_map
abbrev fE:= @List.map_map
abbrev mH:= @List.getElem?_set_self
abbrev nU:= @List.idxOf_lt_length_iff
abbrev ql:= @List.drop_eq_getElem_cons
abbrev jt:= @List.length_take
abbrev j3:= @List.flatten_cons
abbrev nV:= @List.take_of_length_le
abbrev rY:= @List.nodup_iff_pairwise_ne
abbrev qm:= @List.getElem?_cons_succ
abbrev qo:= @Int.eq_ofNat_of_zero_le
abbrev kT:= @Int.toNat_natCast
abbrev kU:= @List.append_assoc
abbrev mI:= @Nat.lt_of_le_of_lt
abbrev ju:= @List.nodup_nil
abbrev j4:= @List.append_nil
abbrev kW:= @Nat.le_of_not_lt
abbrev kX:= @List.mem_flatten
abbrev rZ:= @List.length_pos_of_mem
abbrev vv:= @List.pairwise_iff_getElem
abbrev r6:= @List.length_replicate
abbrev nW:= @List.getElem_mem
abbrev r8:= @List.getElem?_set_ne
abbrev j5:= @Nat.le_trans
abbrev vw:= @List.drop_of_length_le
abbrev qp:= @List.getElem?_set
abbrev xg:= @Array.getElem?_eq_getElem
abbrev r9:= @List.perm_append_comm
abbrev qq:= @List.lookup_cons
abbrev se:= @List.getElem_idxOf
abbrev mJ:= @Nat.lt_irrefl
abbrev AY:= @Array.getD_eq_getD_getElem?
abbrev vx:= @List.reverse_append
abbrev vy:= @List.flatten_append
abbrev xh:= @List.drop_eq_nil_of_le
abbrev AZ:= @Array.getElem?_eq_some_iff
abbrev sg:= @List.length_drop
abbrev sh:= @List.mem_reverse
abbrev mK:= @Nat.le_succ
abbrev A0:= @List.set_eq_of_length_le
abbrev vz:= @List.length_range
abbrev vA:= @List.ext_getElem?
abbrev A4:= @List.getElem?_replicate
abbrev qr:= @Nat.zero_add
abbrev qs:= @Nat.sub_self
abbrev xk:= @List.getElem?_drop
abbrev xl:= @Array.size_extract
abbrev Ed:= @Array.perm_iff_toList_perm
abbrev xm:= @List.flatMap_cons
abbrev xn:= @Array.toList_push
abbrev A5:= @Array.toList_reverse
abbrev xq:= @Bool.and_eq_true
abbrev xr:= @Nat.mod_eq_of_lt
abbrev Ee:= @List.getElem?_take_of_lt
abbrev JK:= @List.take_succ_eq_append_getElem
abbrev A6:= @List.getElem?_range
abbrev A7:= @List.length_pos_iff
abbrev xt:= @Bool.eq_iff_iff
abbrev xv:= @List.nil_append
abbrev xw:= @List.length_nil
abbrev A8:= @Bool.eq_false_iff
abbrev xy:= @List.take_zero
abbrev rf:= @Nat.mul_le_mul
abbrev vq:= @List.any_eq_true
abbrev zg:= @List.mem_iff_getElem
abbrev zh:= @List.pairwise_append
abbrev zi:= @List.getD_cons_succ
abbrev C3:= @List.mem_or_eq_of_mem_set
abbrev vt:= @List.mem_filter
abbrev zj:= @List.getElem?_take
namespace L2
open PySem PySem.Spec PyProof.Rows
abbrev Key:=Sum Int Str
def HS:Key→Value→Bool
 | .inl k,v=>Value.isInt k v
 | .inr x,v=>Value.isStrOf x v
def UC(w:World):Key→Int
 | .inl k=>hashInt k
 | .inr x=>hashStr w x
theorem cx:∀{k:Key}{v:Value},HS k v=true→(∃i t,k=Sum.inl i∧v=Value.int i t)∨(∃x t,k=Sum.inr x∧v=Value.str x t)
 | .inl i,v,h=>by
  obtain ⟨t,e⟩:=Value.isInt_shape (k:=i) (v:=v) h;exact .inl ⟨i,t,rfl,e⟩
 | .inr x,v,h=>by
  obtain ⟨t,e⟩:=Value.isStrOf_shape (x:=x) (v:=v) h;exact .inr ⟨x,t,rfl,e⟩
theorem KJ(a b:Int):decide ((Sum.inl a:Key)=Sum.inl b)=(a==b):=by
 by_cases e:a=b
 ·subst e;simp
 ·have h:¬(Sum.inl a:Key)=Sum.inl b:=λq=>e (Sum.inl.inj q)
  rw [decide_eq_false h];exact (beq_eq_false_iff_ne.mpr e).symm
theorem KP(a b:Str):decide ((Sum.inr a:Key)=Sum.inr b)=decide (a=b):=by
 by_cases e:a=b
 ·subst e;simp
 ·have h:¬(Sum.inr a:Key)=Sum.inr b:=λq=>e (Sum.inr.inj q)
  rw [decide_eq_false h,decide_eq_false e]
theorem KL(a:Int)(b:Str):decide ((Sum.inl a:Key)=Sum.inr b)=false:=decide_eq_false (λq=>nomatch q)
theorem KO(a:Str)(b:Int):decide ((Sum.inr a:Key)=Sum.inl b)=false:=decide_eq_false (λq=>nomatch q)
def uy(prog:Program)(w:World):PySem.KeyKind prog w Key where
 is:=HS
 hash:=UC w
 inj:=λv a b ha hb=>by
  rcases cx ha with ⟨i,t,rfl,rfl⟩ | ⟨x,t,rfl,rfl⟩
  ·rcases cx hb with ⟨j,u,rfl,e⟩ | ⟨y,u,rfl,e⟩
   ·injection e with e1 _;rw [e1]
   ·exact nomatch e
  ·rcases cx hb with ⟨j,u,rfl,e⟩ | ⟨y,u,rfl,e⟩
   ·exact nomatch e
   ·injection e with e1 _;rw [e1]
 byValue:=λk v h=>by
  rcases cx h with ⟨i,t,rfl,rfl⟩ | ⟨x,t,rfl,rfl⟩<;>rfl
 pyHash:=λhv h=>by
  rcases cx hv with ⟨i,t,rfl,rfl⟩ | ⟨x,t,rfl,rfl⟩
  ·exact wpAny_pyHash_int h
  ·exact wpAny_pyHash_str h
 eqBool:=λhu hv h=>by
  rcases cx hu with ⟨i,t,rfl,rfl⟩ | ⟨x,t,rfl,rfl⟩
  ·rcases cx hv with ⟨j,u,rfl,rfl⟩ | ⟨y,u,rfl,rfl⟩
   ·rw [KJ] at h;exact wpAny_eqBool_int h
   ·rw [KL] at h;exact SeqAt.EqAt.int_str i t y u _ _ _ _ h
  ·rcases cx hv with ⟨j,u,rfl,rfl⟩ | ⟨y,u,rfl,rfl⟩
   ·rw [KO] at h;exact SeqAt.EqAt.str_int x t j u _ _ _ _ h
   ·rw [KP] at h;exact wpAny_eqBool_str h
 «strs»:=λk x t v h=>by
  rcases cx h with ⟨i,u,rfl,e⟩ | ⟨y,u,rfl,e⟩
  ·exact nomatch e
  ·injection e with e1 _
   subst e1;cases v<;>rfl
inductive V where
 |aL|bl (b:Bool) |int (i:Int) |str (x:Str) |sj (b:Array UInt8) |Bw (b:UInt64) |ref (a:Addr) |ty (n:String)
 deriving DecidableEq
def RelV:V→Value→Prop
 | .aL,u=>u=Value.none
 | .bl b,u=>u=Value.bool b
 | .int i,u=>∃t,u=Value.int i t
 | .str x,u=>∃t,u=Value.str x t
 | .sj b,u=>∃t,u=Value.bytes b t
 | .Bw b,u=>∃t,u=Value.float b t
 | .ref a,u=>u=Value.ref a
 | .ty n,u=>u=Value.type n
abbrev Vals:List V→List Value→Prop:=Paired RelV
theorem Vals.length{xs:List V}{us:List Value}(r:Vals xs us):xs.length=us.length:=Paired.length r
theorem Vals.get:∀{xs:List V}{us:List Value}{i:Nat}{x:V},Vals xs us→xs[i]? =some x→∃u,us[i]? =some u∧RelV x u
 |_,_,_,_, .nil,e=>by simp at e
 |_,_,0,_, .cons r _,e=>by simp at e;subst e;exact ⟨_,rfl,r⟩
 |_,_,i+1,x, .cons _ t,e=>by
  obtain ⟨u,h1,h2⟩:=Vals.get (i:=i) (x:=x) t (by simpa using e)
  exact ⟨u,by simpa using h1,h2⟩
theorem Vals.set{x:V}{u:Value}(r:RelV x u):∀{xs:List V}{us:List Value}(i:Nat),Vals xs us→Vals (xs.set i x) (us.set i u)
 |_,_,_, .nil=> .nil
 |_,_,0, .cons _ t=> .cons r t
 |_,_,i+1, .cons q t=> .cons q (Vals.set r i t)
theorem Vals.append:∀{xs ys:List V}{us ws:List Value},Vals xs us→Vals ys ws→Vals (xs++ys) (us++ws)
 |_,_,_,_, .nil,s=>s
 |_,_,_,_, .cons r t,s=> .cons r (Vals.append t s)
theorem Vals.take:∀{xs:List V}{us:List Value}(n:Nat),Vals xs us→Vals (xs.take n) (us.take n)
 |_,_,0,_=> .nil
 |_,_,_+1, .nil=> .nil
 |_,_,n+1, .cons r t=> .cons r (Vals.take n t)
theorem Vals.drop:∀{xs:List V}{us:List Value}(n:Nat),Vals xs us→Vals (xs.drop n) (us.drop n)
 |_,_,0,r=>r
 |_,_,_+1, .nil=> .nil
 |_,_,n+1, .cons _ t=>Vals.drop n t
def nA:Option V→Option Value→Prop
 |some v,some u=>RelV v u
 |none,none=>True
 |_,_=>False
def KV{κ:Type}:List (κ×V)→List (κ×Value)→Prop:=Paired λ(p:κ×V)(q:κ×Value)=>p.1=q.1∧RelV p.2 q.2
def kV:Key→V
 | .inl i=> .int i
 | .inr x=> .str x
inductive HO where
 |lst (xs:List V)
 |tup (xs:List V)
 |dK (dS:List (Key×V)) |dT (dS:List (List Key×V))
 |set (S:Int→Bool) (n:Nat)
 |ins (C dx:Addr) (fs:List (Str×V))
 |own (x:Addr)
 |xd (fs:List (Str×V))
 |met (f x:Addr)
 |rng (lo hi:Int)
 |pD (o:Obj) (u:HO)
 |CN (ps:Array Value)
 |ext (φ:Heap→Prop)
abbrev Hp:=Addr→Option HO
def upd(H:Hp)(a:Addr)(o:HO):Hp:=λb=>if b=a then some o else H b
theorem aa{H:Hp}{a:Addr}{o:HO}:upd H a o a=some o:=by unfold upd;rw [if_pos rfl]
theorem ab{H:Hp}{a b:Addr}{o:HO}(h:b≠a):upd H a o b=H b:=by unfold upd;rw [if_neg h]
theorem qh{H:Hp}{a:Addr}{o u:HO}:upd (upd H a o) a u=upd H a u:=by
 funext b;unfold upd;split<;>rfl
theorem ah{H:Hp}{a b:Addr}{o:HO}(h:H a=some o)(h':H b=none):a≠b:=by
 intro e;subst e;rw [h] at h';cases h'
section
variable (P:Program) (w:World)
def cM(H:Hp)(h:Heap)(a:Addr):HO→Prop
 | .lst xs=>xs.length≤sizeLine∧∃(its:List Value)(n:Nat),Vals xs its∧h.get? a=some {cls:= .type "list",data:= .seq its.toArray n}
 | .tup xs=>xs.length≤sizeLine∧∃its:List Value,Vals xs its∧IsTup h a its.toArray
 | .dK dS=>dS.length≤sizeLine∧(a==sysModules)=false∧∃vs,KV dS vs∧h.DictOf (uy P w) a vs
 | .dT dS=>dS.length≤sizeLine∧(a==sysModules)=false∧∃xs:List (List Key×Addr×Value),
   Paired (λ(p:List Key×V)(q:List Key×Addr×Value)=>p.1=q.1∧H q.2.1=some (.tup (p.1.map kV))∧RelV p.2 q.2.2) dS xs∧
   ∃o es ep,h.get? a=some o∧o.ExactDict∧o.data= .dict es ep∧es.toList=xs.map (entryOfKey (tupleKind (uy P w)))∧(xs.map (·.1)).Nodup
 | .set S n=>h.SetOf (intKind P w) a S n
 | .ins C dx fs=>H dx=some (.own a)∧fs.length≤1000∧dx≠a∧h.get? a=some (PySem.W.instObj C dx)∧
   ∃mA,h.Ns1 dx mA∧(∀f,nA (fs.lookup f) (mA f))∧PySem.Within mA (fs.map (·.1))
 | .own _=>∃o,h.get? a=some o
 | .xd fs=>∃mA,h.Ns1 a mA∧∀f,nA (fs.lookup f) (mA f)
 | .rng lo hi=>∃t u v,h.get? a=some {cls:= .type "range",data:= .fields #[.int lo t, .int hi u, .int 1 v]}
 | .pD o u=>h.get? a=some o∧cM H h a u
 | .CN ps=>h.get? a=some {cls:= .none,data:= .fields ps}
 | .met f x=>h.get? a=some (PySem.W.methodObj (.ref f) (.ref x))
 | .ext φ=>φ h∧(∃o,h.get? a=some o)∧∀h1 h2:Heap,φ h1→(∀o,h1.get? a=some o→h2.get? a=some o)→φ h2
def iq(H:Hp)(h:Heap):Prop:=∀a o,H a=some o→cM P w H h a o
end
section
variable {P:Program} {w:World} {H H':Hp} {h h':Heap} {a:Addr} {o:HO}
theorem cM.lt(x:cM P w H h a o):a<h.objs.size:=by
 cases o with
 |lst xs=>obtain ⟨_,_,_,_,e⟩:=x;exact Heap.lt_size e
 |tup xs=>obtain ⟨_,_,_,p⟩:=x;exact p.lt
 |dK dS=>obtain ⟨_,_,_,_,o,_,_,e,_⟩:=x;exact Heap.lt_size e
 |dT dS=>obtain ⟨_,_,_,_,o,_,_,e,_⟩:=x;exact Heap.lt_size e
 |set S n=>obtain ⟨o,_,_,_,e,_⟩:=x;exact Heap.lt_size e
 |ins C dx fs=>obtain ⟨_,_,_,e,_⟩:=x;exact Heap.lt_size e
 |own y=>obtain ⟨_,e⟩:=x;exact Heap.lt_size e
 |xd fs=>obtain ⟨_,⟨_,_,_,e,_⟩,_⟩:=x;exact Heap.lt_size e
 |rng lo hi=>obtain ⟨_,_,_,e⟩:=x;exact Heap.lt_size e
 |pD ob u=>obtain ⟨e,_⟩:=x;exact Heap.lt_size e
 |CN ps=>exact Heap.lt_size (show h.get? a=some _ from x)
 |met f y=>exact Heap.lt_size (show h.get? a=some _ from x)
 |ext φ=>obtain ⟨_,⟨_,e⟩,_⟩:=x;exact Heap.lt_size e
theorem Paired.MV{α β:Type}{F G:α→β→Prop}:∀{l₁:List α}{l₂:List β},Paired F l₁ l₂→(∀a b,F a b→G a b)→Paired G l₁ l₂
 |_,_, .nil,_=> .nil
 |_,_, .cons r t,f=> .cons (f _ _ r) (Paired.MV t f)
theorem cM.rT(x:cM P w H h a o)(k:∀b u,(b=a∨H b=some (.own a))→h.get? b=some u→h'.get? b=some u)
  (ho:∀b,H b=some (.own a)→H' b=some (.own a)) (ht:∀b xs,H b=some (.tup xs)→H' b=some (.tup xs)):cM P w H' h' a o:=by
 induction o with
 |lst xs=>obtain ⟨z,its,n,r,e⟩:=x;exact ⟨z,its,n,r,k _ _ (.inl rfl) e⟩
 |tup xs=>obtain ⟨z,its,r,ob,e,c⟩:=x;exact ⟨z,its,r,ob,k _ _ (.inl rfl) e,c⟩
 |dK dS=>obtain ⟨z,y,vs,r,ob,es,ep,e,c⟩:=x;exact ⟨z,y,vs,r,ob,es,ep,k _ _ (.inl rfl) e,c⟩
 |dT dS=>
  obtain ⟨z,y,xs,r,ob,es,ep,e,c⟩:=x;exact ⟨z,y,xs,Paired.MV r λp q z=>⟨z.1,ht _ _ z.2.1,z.2.2⟩,ob,es,ep,k _ _ (.inl rfl) e,c⟩
 |set S n=>obtain ⟨ob,es,ep,t,e,c⟩:=x;exact ⟨ob,es,ep,t,k _ _ (.inl rfl) e,c⟩
 |ins C dx fs=>
  obtain ⟨d,z,ne,e,mA,⟨od,es,ep,e2,c⟩,r⟩:=x;exact ⟨ho _ d,z,ne,k _ _ (.inl rfl) e,mA,⟨od,es,ep,k _ _ (.inr d) e2,c⟩,r⟩
 |own y=>obtain ⟨ob,e⟩:=x;exact ⟨ob,k _ _ (.inl rfl) e⟩
 |xd fs=>obtain ⟨mA,⟨od,es,ep,e,c⟩,r⟩:=x;exact ⟨mA,⟨od,es,ep,k _ _ (.inl rfl) e,c⟩,r⟩
 |rng lo hi=>obtain ⟨t,u,v,e⟩:=x;exact ⟨t,u,v,k _ _ (.inl rfl) e⟩
 |pD ob u ih=>obtain ⟨e,q⟩:=x;exact ⟨k _ _ (.inl rfl) e,ih q⟩
 |CN ps=>
  have e:h.get? a=some {cls:= .none,data:= .fields ps}:=x;show h'.get? a=some {cls:= .none,data:= .fields ps};exact k a _ (.inl rfl) e
 |met f y=>
  have e:h.get? a=some (PySem.W.methodObj (.ref f) (.ref y)):=x;show h'.get? a=some (PySem.W.methodObj (.ref f) (.ref y));exact k a _ (.inl rfl) e
 |ext φ=>obtain ⟨p,⟨o,e⟩,st⟩:=x;exact ⟨st _ _ p λo q=>k _ _ (.inl rfl) q,⟨o,k _ _ (.inl rfl) e⟩,st⟩
theorem iq.lt(x:iq P w H h)(e:H a=some o):a<h.objs.size:=(x a o e).lt
theorem iq.fresh(x:iq P w H h)(e:h.objs.size≤a):H a=none:=by
 cases q:H a with
 |none=>rfl
 |some u=>exact absurd (gB (x.lt q) e) (mJ _)
theorem iq.kept(x:iq P w H h)(k:∀b u,h.get? b=some u→h'.get? b=some u):iq P w H h':=λa o e=>
 (x a o e).rT (λb u _ q=>k b u q) (λ_ q=>q) λ_ _ q=>q
theorem iq.laid(x:iq P w H h)(k:∀b u,h.get? b=some u→h'.get? b=some u)(hp:h.objs.size≤a)(new:cM P w (upd H a o) h' a o):iq P w (upd H a o) h':=λb u e=>by
 have hn:=x.fresh hp
 by_cases hb:b=a
 ·subst hb;rw [aa] at e;cases e;exact new
 ·rw [ab hb] at e
  exact (x b u e).rT (λc v _ q=>k c v q) (λc q=>by rw [ab (ah q hn)];exact q) λc xs q=>by rw [ab (ah q hn)];exact q
end
def Rd(H:Hp)(a:Addr)(u:HO):Prop:=H a=some u∨∃o,H a=some (.pD o u)
theorem Rd.ok{P:Program}{w:World}{H:Hp}{h:Heap}{a:Addr}{u:HO}(r:Rd H a u)(x:iq P w H h):cM P w H h a u:=by
 rcases r with r| ⟨o,r⟩
 ·exact x a u r
 ·obtain ⟨_,q⟩:=x a _ r
  exact q
def JR:Option HO→Prop
 |some (.lst _)=>True
 |some (.dK _)=>True
 |some (.dT _)=>True
 |some (.set _ _)=>True
 |some (.ins _ _ _)=>True
 |some (.ext _)=>True
 |_=>False
section
variable {P:Program} {w:World} {H:Hp} {h h':Heap} {x e:Addr} {o':HO}
theorem iq.write(ok:iq P w H h)(mu:JR (H x))(he:e=x∨H e=some (.own x))(k:∀b u,b≠e→h.get? b=some u→h'.get? b=some u)(EX:∃u,h'.get? e=some u)
  (new:cM P w (upd H x o') h' x o'):iq P w (upd H x o') h':=λb u q=>by
 have M8:∀c y,H c=some (.own y)→c≠x:=λc y r z=>by subst z;rw [r] at mu;exact mu
 have U6:∀c xs,H c=some (.tup xs)→c≠x:=λc xs r z=>by subst z;rw [r] at mu;exact mu
 by_cases hb:b=x
 ·subst hb;rw [aa] at q;cases q;exact new
 ·rw [ab hb] at q
  by_cases BF:b=e
  ·have q':H b=some (.own x):=by
    rcases he with z|z
    ·exact absurd (BF.trans z) hb
    ·rw [BF];exact z
   rw [q] at q';cases q';obtain ⟨v,hv⟩:=EX;exact ⟨v,by rw [BF];exact hv⟩
  ·refine (ok b u q).rT (λc v hc r=>k c v ?_ r) (λc r=>by rw [ab (M8 c b r)];exact r) λc xs r=>by rw [ab (U6 c xs r)];exact r
   rcases hc with rfl|hc
   ·exact BF
   ·rintro rfl
    rcases he with z|z
    ·exact M8 c b hc z
    ·rw [hc] at z;cases z;exact hb rfl
end
structure Un (fs ex:List Addr) (H H':Hp) (h h':Heap):Prop where
 keep:∀b o,h.get? b=some o→H b=none→b∉fs→b∉ex→h'.get? b=some o
 slot:∀b o,h.get? b=some o→H b=none→b∈fs→b∉ex→∃sl,h'.get? b=some {o with slots:=sl}
 free:∀b o,h.get? b=some o→H b=none→b∉ex→H' b=none
 there:∀b o,h.get? b=some o→b∉ex→∃o',h'.get? b=some o'
 tups:∀b xs,H b=some (.tup xs)→H' b=some (.tup xs)
 frzs:∀b o u,H b=some (.pD o u)→H' b=some (.pD o u)
 tbls:∀b ps,H b=some (.CN ps)→∃more,H' b=some (.CN (ps++more))
section
variable {fs Ov ex nv:List Addr} {H H1 H2:Hp} {h h1 h2 h':Heap} {a x e:Addr} {o:HO}
theorem Un.any(u:Un fs ex H H1 h h1){b:Addr}{ob:Obj}(q:h.get? b=some ob)(n:H b=none)(hx:b∉ex):∃sl,h1.get? b=some {ob with slots:=sl}:=by
 by_cases hb:b∈fs
 ·exact u.slot b ob q n hb hx
 ·exact ⟨ob.slots,u.keep b ob q n hb hx⟩
theorem Un.kept(k:∀b u,h.get? b=some u→h'.get? b=some u):Un fs ex H H h h':=
 ⟨λb ob q _ _ _=>k b ob q,λb ob q _ _ _=>⟨ob.slots,k b ob q⟩,λ_ _ _ n _=>n,λb ob q _=>⟨ob,k b ob q⟩,λ_ _ q=>q,λ_ _ _ q=>q,λ_ ps q=>⟨#[],by rw [q];simp⟩⟩
theorem Un.refl:Un fs ex H H h h:=Un.kept λ_ _ q=>q
theorem Un.laid(k:∀b u,h.get? b=some u→h'.get? b=some u)(hp:h.objs.size≤a)(hn:H a=none):Un fs ex H (upd H a o) h h' where
 keep:=λb u q _ _ _=>k b u q
 slot:=λb u q _ _ _=>⟨u.slots,k b u q⟩
 free:=λb u q n _=>by rw [ab (cm (gB (Heap.lt_size q) hp))];exact n
 there:=λb u q _=>⟨u,k b u q⟩
 tups:=λb xs q=>by rw [ab (ah q hn)];exact q
 frzs:=λb u xs q=>by rw [ab (ah q hn)];exact q
 tbls:=λb ps q=>⟨#[],by rw [ab (ah q hn),q];simp⟩
theorem Un.write(mu:JR (H x))(he:e=x∨H e=some (.own x))(k:∀b u,b≠e→h.get? b=some u→h'.get? b=some u)(EX:∃u,h'.get? e=some u):Un fs ex H (upd H x o) h h':=by
 have hx:∀b,H b=none→b≠x:=λb n z=>by subst z;rw [n] at mu;exact mu
 have hb:∀b,H b=none→b≠e:=λb n z=>by
  subst z
  rcases he with r|r
  ·exact hx b n r
  ·rw [n] at r;cases r
 have hm:∀b u,H b=some u→¬JR (some u)→b≠x:=λb u q nm z=>by subst z;rw [q] at mu;exact nm mu
 refine ⟨λb u q n _ _=>k b u (hb b n) q,λb u q n _ _=>⟨u.slots,k b u (hb b n) q⟩,λb u q n _=>by rw [ab (hx b n)];exact n,λb u q _=>?_,
  λb xs q=>by rw [ab (hm b _ q λz=>z)];exact q,λb u xs q=>by rw [ab (hm b _ q λz=>z)];exact q,λb ps q=>⟨#[],by rw [ab (hm b _ q λz=>z),q];simp⟩⟩
 by_cases BF:b=e
 ·subst BF;exact EX
 ·exact ⟨u,k b u BF q⟩
end
def LZ(h:Heap)(H:Hp):List Addr:=(List.range h.objs.size).filter λa=>(H a).isSome
def pI(h:Heap)(H:Hp):Heap:=PySem.W.hideAll h (LZ h H)
theorem BK(h:Heap)(H:Hp):(pI h H).objs.size=h.objs.size:=PySem.W.hideAll_size _ _
theorem EY{h:Heap}{H:Hp}{b:Addr}{o:Obj}(e:h.get? b=some o)(n:H b=none):(pI h H).get? b=some o:=
 PySem.W.hideAll_get _ e λhm=>by
  have q:(H b).isSome=true:=(vt.mp hm).2;rw [n] at q;simp at q
theorem Ir{h:Heap}{H:Hp}{b:Addr}{o:Obj}(e:(pI h H).get? b=some o):h.get? b=some o∧H b=none:=by
 have e':h.get? b=some o:=PySem.W.of_hideAll (LZ h H) e;refine ⟨e',?_⟩;cases q:H b with
 |none=>rfl
 |some x=>
  have hm:b∈LZ h H:=vt.mpr ⟨gw.mpr (Heap.lt_size e'),by simp [q]⟩
  have z:(pI h H).get? b=none:=PySem.W.hideAll_none (LZ h H) hm;rw [z] at e;cases e
structure Mod (K:PySem.W.Frag) (mg:Str→Option Value) (base:Heap):Prop where
 kin:K.In base
 glob:base.Ns mainGlobals mg
 blt:∃mb,base.Ns builtinsNs mb∧∀x:Str,x≠"__name__"→mb x=bootBuiltins x
 nolimit:base.NoLimit
structure Cx where
 prog:Program
 w:World
 K:PySem.W.Frag
 mg:Str→Option Value
 base:Heap
 A:Around
 N:List Str
 s₀:Shared
 H₀:Hp
 env:Env
 outer:List Env
 stack:List Env
 ex:List Addr
 fn:Str→Bool
 calm:Bool
 pn:List (Addr×Obj)
 xe:Value→Shared→Prop
def tY(l:List Env):List Addr:=l.filterMap (·.frame)
abbrev Cx.fs(X:Cx):List Addr:=tY X.outer
def qw(sc:Scope)(x:Str):Prop:=sc.names.lookup x=some .local∨sc.names.lookup x=some .cell∨sc.names.lookup x=some .free
def Loc(sc:Scope)(x:Str):Prop:=sc.names.lookup x=some .local∨sc.names.lookup x=some .cell
def Look(env:Env)(h:Heap)(m:Str→Option Value)(x:Str)(u:Value):Prop:=
 (env.kindOf x=some .local∧m x=some u)∨((env.kindOf x=some .cell∨env.kindOf x=some .free)∧∃c,env.cells.lookup x=some c∧h.IsCell c (some u))
structure Cx.Ok (X:Cx):Prop where
 mod:Mod X.K X.mg X.base
 kind:X.env.scope.kind= .function
 glob:X.env.globals=mainGlobals
 blt:X.env.builtins=builtinsNs
 above:X.s₀.heap.objs.size≤X.env.locals
 inj:∀x y c,X.env.cells.lookup x=some c→X.env.cells.lookup y=some c→x=y
 has:∀x,(X.env.kindOf x=some .cell∨X.env.kindOf x=some .free)→∃c,X.env.cells.lookup x=some c
 cab:∀x c,X.fn x=true→X.env.cells.lookup x=some c→X.s₀.heap.objs.size≤c
 hd:X.calm=true→X.A.handled=none
 frames:X.A.frames=some X.stack
 stk:X.stack=X.outer∨(X.stack=X.env::X.outer∧X.env.frame=some X.env.locals)
 exf:∀b∈X.ex,b≠X.env.locals∧∀x c,X.env.cells.lookup x=some c→c≠b
 bs:∀b o,X.base.get? b=some o→X.s₀.heap.get? b=some o∧X.H₀ b=none
 bsz:X.base.objs.size≤X.s₀.heap.objs.size
 noex:∀b o,X.base.get? b=some o→b∉X.ex
 exfs:∀b∈X.ex,b∉X.fs
 funs:X.s₀.heap.FunFrames X.base X.outer
 frf:∀b∈X.fs,X.H₀ b=none
structure Inv (X:Cx) (pins:List (Addr×Obj)) (σ:List (Option V)) (H:Hp) (s:Shared):Prop where
 ok:X.Ok
 os:s.os=X.s₀.os
 bare:AllBare s.gens
 base:Un X.fs X.ex X.H₀ H X.s₀.heap s.heap
 loc:∃m,s.heap.Ns X.env.locals m∧∀(i:Nat)(x:Str)(v:V),X.N[i]? =some x→σ[i]? =some (some v)→qw X.env.scope x→∃u,RelV v u∧Look X.env s.heap m x u
 cell:∀x c,X.env.cells.lookup x=some c→∃v,s.heap.IsCell c v
 free:H X.env.locals=none
 freeC:∀x c,X.env.cells.lookup x=some c→H c=none
 pin:∀p∈X.pn++pins,s.heap.get? p.1=some p.2∧H p.1=none∧p.1≠X.env.locals∧p.1∉X.fs∧∀v,p.2.data≠ .cell v
 hok:iq X.prog X.w H s.heap
 len:σ.length=X.N.length
section
variable {X:Cx} {pins:List (Addr×Obj)} {σ:List (Option V)} {H H':Hp} {s:Shared} {h':Heap}
theorem Cx.Ok.U4(ok:X.Ok){b:Addr}{o:Obj}(e:X.base.get? b=some o):b∉X.fs:=λhb=>by
 have:=(ok.funs.mem hb).1
 rw [e] at this;cases this
theorem Inv.bs(I:Inv X pins σ H s):∀b o,X.base.get? b=some o→s.heap.get? b=some o∧H b=none:=λb o e=>
 ⟨I.base.keep b o (I.ok.bs b o e).1 (I.ok.bs b o e).2 (I.ok.U4 e) (I.ok.noex b o e),I.base.free b o (I.ok.bs b o e).1 (I.ok.bs b o e).2 (I.ok.noex b o e)⟩
theorem Inv.bk(I:Inv X pins σ H s):∀b o,X.base.get? b=some o→s.heap.get? b=some o:=λb o e=>(I.bs b o e).1
theorem Inv.mod(I:Inv X pins σ H s):Mod X.K X.mg X.base:=I.ok.mod
theorem Inv.hU(I:Inv X pins σ H s):X.K.In s.heap:=I.ok.mod.kin.keeps I.bk
theorem Inv.lt(I:Inv X pins σ H s):X.env.locals<s.heap.objs.size:=let ⟨_,hn,_⟩:=I.loc;hn.lt
theorem Inv.sz(I:Inv X pins σ H s):X.s₀.heap.objs.size≤s.heap.objs.size:=j5 I.ok.above (Nat.le_of_lt I.lt)
theorem Inv.M7(I:Inv X pins σ H s){a:Addr}(h:s.heap.objs.size≤a):a∉X.fs:=λhb=>by
 obtain ⟨_,o,ho,_⟩:=I.ok.funs.mem hb;exact absurd (gB (Heap.lt_size ho) (j5 I.sz h)) (mJ _)
theorem Inv.Bm(I:Inv X pins σ H s):∀x c,X.env.cells.lookup x=some c→c≠X.env.locals:=λx c e z=>by
 obtain ⟨v,o,ho,hd⟩:=I.cell x c e;obtain ⟨m,⟨o',es,ep,jx,i8,_⟩,_⟩:=I.loc;rw [z,jx] at ho;cases ho;rw [i8] at hd;cases hd
theorem Inv.funs(I:Inv X pins σ H s):s.heap.FunFrames X.base X.outer:=by
 have all:∀(l:List Env),(∀b∈tY l,b∈X.fs)→X.s₀.heap.FunFrames X.base l→s.heap.FunFrames X.base l:=by
  intro l
  induction l with
  |nil=>intro _ _;trivial
  |cons env r ih=>
   intro hs hl;obtain ⟨hk,⟨L,o,hf,hn,ho,hd⟩,hr⟩:=hl;have hL:L∈X.fs:=hs L (by unfold tY;rw [List.filterMap_cons,hf];exact b8)
   obtain ⟨sl,e⟩:=I.base.slot L o ho (I.ok.frf L hL) hL λz=>I.ok.exfs L z hL;exact ⟨hk,⟨L,_,hf,hn,e,hd⟩,ih (λb hb=>hs b (by unfold tY;rw [List.filterMap_cons,hf];exact cn _ hb)) hr⟩
 exact all X.outer (λ_ hb=>hb) I.ok.funs
theorem Inv.stack(I:Inv X pins σ H s):s.heap.FunFrames X.base X.stack:=by
 rcases I.ok.stk with e| ⟨e,hf⟩
 ·rw [e];exact I.funs
 ·rw [e]
  obtain ⟨m,hn,_⟩:=I.loc;refine .cons (by rw [I.ok.kind];decide) hf hn ?_ I.funs
  exact Heap.get?_none_of_le (j5 I.ok.bsz I.ok.above)
theorem Inv.yZ(I:Inv X pins σ H s):∀b∈tY X.stack,b∈X.env.locals::X.fs:=λb hb=>by
 rcases I.ok.stk with e| ⟨e,hf⟩
 ·rw [e] at hb;exact cn _ hb
 ·rw [e] at hb
  unfold tY at hb;rw [List.filterMap_cons,hf] at hb;exact hb
theorem Inv.AJ(I:Inv X pins σ H s):∀b∈tY X.stack,H b=none:=λb hb=>by
 rcases bE.mp (I.yZ b hb) with e|hb
 ·rw [e];exact I.free
 ·obtain ⟨_,o,ho,_⟩:=I.ok.funs.mem hb
  exact I.base.free b o ho (I.ok.frf b hb) λz=>I.ok.exfs b z hb
theorem Inv.step{g':Array GenState}{t':Nat}{d':Drawn}{ch:List Addr}(I:Inv X pins σ H s)
  (vJ:∀b∈ch,(b∈X.ex∨X.s₀.heap.objs.size≤b)∧b≠X.env.locals∧(∀x c,X.env.cells.lookup x=some c→c≠b)∧∀p∈X.pn++pins,p.1≠b)
  (keep:∀b o,b≠X.env.locals→b∉X.fs→b∉ch→s.heap.get? b=some o→H b=none→h'.get? b=some o)
  (slot:∀b o,b≠X.env.locals→b∈X.fs→b∉ch→s.heap.get? b=some o→H b=none→∃sl,h'.get? b=some {o with slots:=sl}) (free:∀b o,b∉ch→s.heap.get? b=some o→H b=none→H' b=none)
  (there:∀b o,b∉ch→s.heap.get? b=some o→∃o',h'.get? b=some o')
  (tups:∀b xs,H b=some (.tup xs)→H' b=some (.tup xs)) (frzs:∀b o u,H b=some (.pD o u)→H' b=some (.pD o u)) (tbls:∀b ps,H b=some (.CN ps)→∃more,H' b=some (.CN (ps++more)))
  (ns:∀m,s.heap.Ns X.env.locals m→h'.Ns X.env.locals m) (hok:iq X.prog X.w H' h') (hg:AllBare g'):
  Inv X pins σ H' {s with heap:=h',gens:=g',drawn:=d',toks:=t'}:=by
 have UY:∀b o,X.s₀.heap.get? b=some o→b≠X.env.locals:=λb o e=>cm (gB (Heap.lt_size e) I.ok.above)
 have K5:∀b o,X.s₀.heap.get? b=some o→b∉X.ex→b∉ch:=λb o e hx hb=>by
  rcases (vJ b hb).1 with z|z
  ·exact hx z
  ·exact absurd (gB (Heap.lt_size e) z) (mJ _)
 have cellK:∀x c,X.env.cells.lookup x=some c→∀v,s.heap.IsCell c v→h'.IsCell c v:=λx c e v ⟨o,ho,hd⟩=>by
  have Ih:c∉ch:=λz=>(vJ c z).2.2.1 x c e rfl
  by_cases hc:c∈X.fs
  ·obtain ⟨sl,q⟩:=slot c o (I.Bm x c e) hc Ih ho (I.freeC x c e)
   exact ⟨_,q,hd⟩
  ·exact ⟨o,keep c o (I.Bm x c e) hc Ih ho (I.freeC x c e),hd⟩
 refine ⟨I.ok,I.os,hg,⟨λb o e n hb hx=>?_,λb o e n hb hx=>?_,λb o e n hx=>?_,λb o e hx=>?_,λb xs e=>tups b xs (I.base.tups b xs e),λb o xs e=>frzs b o xs (I.base.frzs b o xs e),λb ps e=>?_⟩,?_,λx c e=>?_,?_,λx c e=>?_,λp hp=>?_,hok,I.len⟩
 ·exact keep b o (UY b o e) hb (K5 b o e hx) (I.base.keep b o e n hb hx) (I.base.free b o e n hx)
 ·obtain ⟨sl,e1⟩:=I.base.slot b o e n hb hx
  obtain ⟨sl',e2⟩:=slot b _ (UY b o e) hb (K5 b o e hx) e1 (I.base.free b o e n hx);exact ⟨sl',e2⟩
 ·obtain ⟨o',e1⟩:=I.base.there b o e hx
  exact free b o' (K5 b o e hx) e1 (I.base.free b o e n hx)
 ·obtain ⟨o',e1⟩:=I.base.there b o e hx
  exact there b o' (K5 b o e hx) e1
 ·obtain ⟨m1,e1⟩:=I.base.tbls b ps e
  obtain ⟨m2,e2⟩:=tbls b _ e1;exact ⟨m1++m2,by rw [e2,Array.append_assoc]⟩
 ·obtain ⟨m,hn,hl⟩:=I.loc
  refine ⟨m,ns m hn,λi x v e1 e2 e3=>?_⟩;obtain ⟨u,r,l⟩:=hl i x v e1 e2 e3;refine ⟨u,r,?_⟩
  rcases l with l| ⟨k,c,e,z⟩
  ·exact .inl l
  ·exact .inr ⟨k,c,e,cellK x c e _ z⟩
 ·obtain ⟨v,z⟩:=I.cell x c e
  exact ⟨v,cellK x c e v z⟩
 ·obtain ⟨m,⟨o,_,_,ho,_⟩,_⟩:=I.loc
  exact free _ o (λz=>(vJ _ z).2.1 rfl) ho I.free
 ·obtain ⟨v,o,ho,hd⟩:=I.cell x c e
  exact free c o (λz=>(vJ c z).2.2.1 x c e rfl) ho (I.freeC x c e)
 ·obtain ⟨e,n,ne,nf,d⟩:=I.pin p hp
  have Ih:p.1∉ch:=λz=>(vJ p.1 z).2.2.2 p hp rfl;exact ⟨keep p.1 p.2 ne nf Ih e n,free p.1 p.2 Ih e n,ne,nf,d⟩
theorem Inv.un{t':Nat}(I:Inv X pins σ H s)(u:Un X.fs [] H H' s.heap h')(hok:iq X.prog X.w H' h'):Inv X pins σ H' {s with heap:=h',toks:=t'}:=by
 obtain ⟨m,⟨o,es,ep,ho,r⟩,_⟩:=id I.loc;obtain ⟨sl,hL⟩:=u.any ho I.free (by simp)
 exact I.step (g':=s.gens) (d':=s.drawn) (ch:= []) (λ_ z=>nomatch z) (λb o _ hb _ e n=>u.keep b o e n hb (by simp)) (λb o _ hb _ e n=>u.slot b o e n hb (by simp)) (λb o _ e n=>u.free b o e n (by simp)) (λb o _ e=>u.there b o e (by simp)) u.tups u.frzs u.tbls (λm' hm=>by
  obtain ⟨o',ke,xQ,jx,r'⟩:=hm;rw [ho] at jx;cases jx;exact ⟨_,ke,xQ,hL,r'⟩) hok I.bare
theorem Inv.call{g':Array GenState}{t':Nat}{d':Drawn}{ch:List Addr}(I:Inv X pins σ H s)(u:Un (tY X.stack) ch H H' s.heap h')(hok:iq X.prog X.w H' h')(hg:AllBare g')
  (vJ:∀b∈ch,(b∈X.ex∨X.s₀.heap.objs.size≤b)∧b≠X.env.locals∧(∀x c,X.env.cells.lookup x=some c→c≠b)∧∀p∈X.pn++pins,p.1≠b):
  Inv X pins σ H' {s with heap:=h',gens:=g',drawn:=d',toks:=t'}:=by
 obtain ⟨m,⟨o,es,ep,ho,r⟩,_⟩:=id I.loc;obtain ⟨sl,hL⟩:=u.any ho I.free λz=>(vJ _ z).2.1 rfl
 exact I.step (ch:=ch) vJ (λb o hL hb hc e n=>u.keep b o e n (λz=>(bE.mp (I.yZ b z)).elim hL hb) hc) (λb o _ _ hc e n=>u.any e n hc) (λb o hc e n=>u.free b o e n hc) (λb o hc e=>u.there b o e hc) u.tups u.frzs u.tbls (λm' hm=>by
  obtain ⟨o',ke,xQ,jx,r'⟩:=hm;rw [ho] at jx;cases jx;exact ⟨_,ke,xQ,hL,r'⟩) hok hg
theorem Inv.turned{t':Nat}{it:Addr}(I:Inv X pins σ H s)(k:∀b o,b≠it→s.heap.get? b=some o→h'.get? b=some o)(hn:H it=none)(hL:it≠X.env.locals)
  (h1:it∈X.ex∨X.s₀.heap.objs.size≤it) (h2:∀x c,X.env.cells.lookup x=some c→c≠it) (h3:∀p∈X.pn++pins,p.1≠it):Inv X pins σ H {s with heap:=h',toks:=t'}:=by
 have UZ:∀b u,H b=some u→b≠it:=λb u e z=>by rw [z,hn] at e;cases e
 refine I.step (g':=s.gens) (d':=s.drawn) (ch:= [it]) (λb hb=>?_) (λb o _ _ hc e _=>k b o (λz=>hc (by simp [z])) e) (λb o _ _ hc e _=>⟨o.slots,k b o (λz=>hc (by simp [z])) e⟩) (λ_ _ _ _ n=>n)
  (λb o hc e=>⟨o,k b o (λz=>hc (by simp [z])) e⟩) (λ_ _ e=>e) (λ_ _ _ e=>e) (λb ps e=>⟨#[],by rw [e];simp⟩) (λm hm=>?_) (λb u e=>?_) I.bare
 ·have e:b=it:=by simpa using hb
  subst e;exact ⟨h1,hL,h2,h3⟩
 ·obtain ⟨o,es,ep,ho,r⟩:=hm
  exact ⟨o,es,ep,k _ o (Ne.symm hL) ho,r⟩
 ·refine (I.hok b u e).rT (λc v hc q=>k c v ?_ q) (λ_ q=>q) λ_ _ q=>q
  rcases hc with z|z
  ·rw [z];exact UZ b u e
  ·exact UZ c _ z
theorem Inv.tok(I:Inv X pins σ H s)(t:Nat):Inv X pins σ H {s with toks:=t}:=I.un (h':=s.heap) (t':=t) Un.refl I.hok
theorem Inv.kept{t':Nat}(I:Inv X pins σ H s)(k:∀b u,s.heap.get? b=some u→h'.get? b=some u):Inv X pins σ H {s with heap:=h',toks:=t'}:=I.un (Un.kept k) (I.hok.kept k)
theorem Inv.laid{a:Addr}{o:HO}{t':Nat}(I:Inv X pins σ H s)(k:∀b u,s.heap.get? b=some u→h'.get? b=some u)(hp:s.heap.objs.size≤a)(new:cM X.prog X.w (upd H a o) h' a o):
  Inv X pins σ (upd H a o) {s with heap:=h',toks:=t'}:=I.un (Un.laid k hp (I.hok.fresh hp)) (I.hok.laid k hp new)
theorem Inv.write{x e:Addr}{o:HO}{t':Nat}(I:Inv X pins σ H s)(mu:JR (H x))(he:e=x∨H e=some (.own x))(k:∀b u,b≠e→s.heap.get? b=some u→h'.get? b=some u)(EX:∃u,h'.get? e=some u)
  (new:cM X.prog X.w (upd H x o) h' x o):Inv X pins σ (upd H x o) {s with heap:=h',toks:=t'}:=I.un (Un.write mu he k EX) (I.hok.write mu he k EX new)
theorem Inv.pW{yP:List (Addr×Obj)}(I:Inv X pins σ H s)(h:∀p∈yP,s.heap.get? p.1=some p.2∧H p.1=none∧p.1≠X.env.locals∧p.1∉X.fs∧∀v,p.2.data≠ .cell v):Inv X yP σ H s:=
 ⟨I.ok,I.os,I.bare,I.base,I.loc,I.cell,I.free,I.freeC,λp hp=>(b9.mp hp).elim (λz=>I.pin p (fj _ z)) (h p),I.hok,I.len⟩
theorem wQ{N:List Str}(hN:N.Nodup){i j:Nat}{x:Str}(a:N[i]? =some x)(b:N[j]? =some x):i=j:=by
 obtain ⟨h1,e1⟩:=cu.mp a;obtain ⟨h2,e2⟩:=cu.mp b;exact (List.getElem_inj hN).mp (e1.trans e2.symm)
theorem store_ok2{M:Model}{A:Around}{E:Value→Shared→Prop}{i:Nat}{x:Str}{v:V}{u:Value}{Q:Unit→Shared→Prop}(I:Inv X pins σ H s)(hN:X.N.Nodup)(hi:X.N[i]? =some x)(hx:Loc X.env.scope x)(r:RelV v u)
  (h:∀s',Inv X pins (σ.set i (some v)) H s'→(∃a,Heap.SameBut a s.heap s'.heap∧(a=X.env.locals∨X.env.cells.lookup x=some a))→Q () s') (hf:X.fn x=true∨X.env.scope.names.lookup x=some .local:=by first|exact .inl rfl|exact .inr rfl|assumption):wpAny M A (storeName X.env x u) Q E s:=by
 obtain ⟨m,hn,hl⟩:=id I.loc;have S8:(X.env.scope.kind== .class|| (X.env.scope.kind== .module&&X.env.locals !=X.env.globals))=false:=by rw [I.ok.kind];rfl
 have MM:i<σ.length:=by rw [I.len];exact (cu.mp hi).1
 have Bm:=I.Bm
 have tracked:∀{a:Addr}{h':Heap},(∃o,s.heap.get? a=some o∧H a=none)→Heap.SameBut a s.heap h'→iq X.prog X.w H h':=λ {a h'} ha hs b ob e=>by
  obtain ⟨_,_,xW⟩:=ha;refine (I.hok b ob e).rT (λc w' hc q=>(hs.2 c ?_).trans q) (λ_ q=>q) λ_ _ q=>q;rintro rfl
  rcases hc with rfl|hc
  ·rw [xW] at e;cases e
  ·rw [xW] at hc;cases hc
 rcases hx with hk|hk
 ·refine wpAny_storeName_local hk hn (λh' Zn hs=>?_) S8
  obtain ⟨oL,_,_,Ku,_⟩:=id hn;refine h _ ⟨I.ok,I.os,I.bare,⟨λb o e n hb hx=>?_,λb o e n hb hx=>?_,I.base.free,λb o e hx=>?_,I.base.tups,I.base.frzs,I.base.tbls⟩,⟨_,Zn,λj y v' e1 e2 e3=>?_⟩,λy c e=>?_,I.free,I.freeC,λp hp=>?_,tracked ⟨oL,Ku,I.free⟩ hs,by simpa using I.len⟩ ⟨_,hs, .inl rfl⟩
  ·exact (hs.2 b (cm (gB (Heap.lt_size e) I.ok.above))).trans (I.base.keep b o e n hb hx)
  ·obtain ⟨sl,e1⟩:=I.base.slot b o e n hb hx
   exact ⟨sl,(hs.2 b (cm (gB (Heap.lt_size e) I.ok.above))).trans e1⟩
  ·obtain ⟨o',e1⟩:=I.base.there b o e hx
   exact ⟨o',(hs.2 b (cm (gB (Heap.lt_size e) I.ok.above))).trans e1⟩
  ·by_cases hj:j=i
   ·subst hj
    rw [hi] at e1;cases e1;rw [mH MM] at e2;cases e2;exact ⟨u,r, .inl ⟨hk,by simp⟩⟩
   ·rw [r8 (Ne.symm hj)] at e2
    obtain ⟨u',r',q⟩:=hl j y v' e1 e2 e3;refine ⟨u',r',?_⟩
    rcases q with ⟨k,e⟩ | ⟨k,c,e,z⟩
    ·refine .inl ⟨k,?_⟩
     have:y≠x:=λe=>hj (wQ hN e1 (e▸hi))
     simp [this,e]
    ·exact .inr ⟨k,c,e,z.sameBut hs (Bm y c e)⟩
  ·obtain ⟨w',z⟩:=I.cell y c e
   exact ⟨w',z.sameBut hs (Bm y c e)⟩
  ·obtain ⟨e,n,ne,nf,d⟩:=I.pin p hp
   exact ⟨(hs.2 p.1 ne).trans e,n,ne,nf,d⟩
 ·have OO:X.fn x=true:=by
   rcases hf with z|z
   ·exact z
   ·rw [z] at hk;cases hk
  obtain ⟨c,hc⟩:=I.ok.has x (.inl hk);obtain ⟨w',z⟩:=I.cell x c hc;refine wpAny_storeName_cell I.ok.kind hk hc z (λh' pG hs=>?_);obtain ⟨oc,TK,TL⟩:=id z;refine h {s with heap:=h'} ⟨I.ok,I.os,I.bare,⟨λb o e n hb hx=>?_,λb o e n hb hx=>?_,I.base.free,λb o e hx=>?_,I.base.tups,I.base.frzs,I.base.tbls⟩,⟨m,hn.sameBut hs (Ne.symm (Bm x c hc)),λj y v' e1 e2 e3=>?_⟩,λy c' e=>?_,I.free,I.freeC,λp hp=>?_,tracked ⟨oc,TK,I.freeC x c hc⟩ hs,by simpa using I.len⟩ ⟨c,hs, .inr hc⟩
  ·exact (hs.2 b (cm (gB (Heap.lt_size e) (I.ok.cab x c OO hc)))).trans (I.base.keep b o e n hb hx)
  ·obtain ⟨sl,e1⟩:=I.base.slot b o e n hb hx
   exact ⟨sl,(hs.2 b (cm (gB (Heap.lt_size e) (I.ok.cab x c OO hc)))).trans e1⟩
  ·obtain ⟨o',e1⟩:=I.base.there b o e hx
   exact ⟨o',(hs.2 b (cm (gB (Heap.lt_size e) (I.ok.cab x c OO hc)))).trans e1⟩
  ·by_cases hj:j=i
   ·subst hj
    rw [hi] at e1;cases e1;rw [mH MM] at e2;cases e2;exact ⟨u,r, .inr ⟨.inl hk,c,hc,pG⟩⟩
   ·rw [r8 (Ne.symm hj)] at e2
    obtain ⟨u',r',q⟩:=hl j y v' e1 e2 e3;refine ⟨u',r',?_⟩
    rcases q with q| ⟨k,c',e,z'⟩
    ·exact .inl q
    ·refine .inr ⟨k,c',e,z'.sameBut hs ?_⟩
     rintro rfl;exact hj (wQ hN e1 (I.ok.inj _ _ _ e hc▸hi))
  ·by_cases S0:c'=c
   ·subst S0;exact ⟨_,pG⟩
   ·obtain ⟨w2,z2⟩:=I.cell y c' e
    exact ⟨w2,z2.sameBut hs S0⟩
  ·obtain ⟨e,n,ne,nf,d⟩:=I.pin p hp
   refine ⟨(hs.2 p.1 ?_).trans e,n,ne,nf,d⟩;intro q;rw [q,TK] at e;have q':oc=p.2:=Option.some.inj e;exact d w' (by rw [←q'];exact TL)
theorem jZ{M:Model}{A:Around}{E:Value→Shared→Prop}{i:Nat}{x:Str}{v:V}{u:Value}{Q:Unit→Shared→Prop}(I:Inv X pins σ H s)(hN:X.N.Nodup)(hi:X.N[i]? =some x)(hx:Loc X.env.scope x)(r:RelV v u)
  (h:∀s',Inv X pins (σ.set i (some v)) H s'→Q () s') (hf:X.fn x=true∨X.env.scope.names.lookup x=some .local:=by first|exact .inl rfl|exact .inr rfl|assumption):wpAny M A (storeName X.env x u) Q E s:=
 store_ok2 I hN hi hx r (λs' I' _=>h s' I') hf
theorem Inv.NI{s':Shared}{ch:List Addr}(I:Inv X pins σ H s)(ho:s'.os=s.os)(u:Un (tY X.stack) ch H H' s.heap s'.heap)(hok:iq X.prog X.w H' s'.heap)(hg:AllBare s'.gens)
  (vJ:∀b∈ch,(b∈X.ex∨X.s₀.heap.objs.size≤b)∧b≠X.env.locals∧(∀x c,X.env.cells.lookup x=some c→c≠b)∧∀p∈X.pn++pins,p.1≠b):Inv X pins σ H' s':=by
 obtain ⟨h',g',d',t',o'⟩:=s';have e:o'=s.os:=ho;subst e;exact I.call (g':=g') (t':=t') (d':=d') u hok hg vJ
end
abbrev XK:=Value→Option Addr→Hp→Prop
abbrev St:=List (Option V)
abbrev VK:=V→Hp→Prop
abbrev TE:=St→Hp→VK→Prop
abbrev TT:=St→Hp→(Bool→Hp→Prop)→Prop
abbrev TA:=St→Hp→(List V→Hp→Prop)→Prop
structure Ends where
 nx:St→Hp→Prop
 rt:VK
 bk:St→Hp→Prop:=λ_ _=>False
 ct:St→Hp→Prop:=λ_ _=>False
abbrev TS:=Ends→St→Hp→Prop
def EP(X:Cx)(pins:List (Addr×Obj))(σ:St)(Q:VK)(u:Value)(s':Shared):Prop:=∃v H',Inv X pins σ H' s'∧RelV v u∧Q v H'
def TP(X:Cx)(pins:List (Addr×Obj))(σ:St)(Q:Bool→Hp→Prop)(b:Bool)(s':Shared):Prop:=∃H',Inv X pins σ H' s'∧Q b H'
def AP(X:Cx)(pins:List (Addr×Obj))(σ:St)(Q:List V→Hp→Prop)(us:List Value)(s':Shared):Prop:=∃vs H',Inv X pins σ H' s'∧Vals vs us∧Q vs H'
def SP(X:Cx)(pins:List (Addr×Obj))(D:Ends)(f:Flow)(s':Shared):Prop:=
 match f with
 | .next=>∃av H',Inv X pins av H' s'∧D.nx av H'
 | .brk=>∃av H',Inv X pins av H' s'∧D.bk av H'
 | .cont=>∃av H',Inv X pins av H' s'∧D.ct av H'
 | .ret u=>∃v av H',Inv X pins av H' s'∧RelV v u∧D.rt v H'
def PE(X:Cx)(e:Expr)(t:TE):Prop:=
 ∀(pins:List (Addr×Obj))(s:Shared)(σ:St)(H:Hp)(Q:VK),Inv X pins σ H s→t σ H Q→wpAny (model X.prog X.w) X.A (eval e X.env) (EP X pins σ Q) X.xe s
def PT(X:Cx)(e:Expr)(t:TT):Prop:=
 ∀(pins:List (Addr×Obj))(s:Shared)(σ:St)(H:Hp)(Q:Bool→Hp→Prop),Inv X pins σ H s→t σ H Q→wpAny (model X.prog X.w) X.A (isTrue e X.env (eval e X.env)) (TP X pins σ Q) X.xe s
def PW(X:Cx)(e:Expr)(t:TT):Prop:=
 ∀(whole:Sem Value)(pins:List (Addr×Obj))(s:Shared)(σ:St)(H:Hp)(Q:Bool→Hp→Prop),Inv X pins σ H s→t σ H Q→wpAny (model X.prog X.w) X.A (isTrue e X.env whole) (TP X pins σ Q) X.xe s
theorem PW.pt{X:Cx}{e:Expr}{t:TT}(h:PW X e t):PT X e t:=h _
def PA(X:Cx)(es:List Expr)(t:TA):Prop:=
 ∀(pos:Pos)(pins:List (Addr×Obj))(s:Shared)(σ:St)(H:Hp)(Q:List V→Hp→Prop),Inv X pins σ H s→t σ H Q→wpAny (model X.prog X.w) X.A (spliced (backTo pos (starEach es X.env))) (AP X pins σ Q) X.xe s
def PS(X:Cx)(st:Stmt)(t:TS):Prop:=
 ∀(pins:List (Addr×Obj))(s:Shared)(σ:St)(H:Hp)(D:Ends),Inv X pins σ H s→t D σ H→wpAny (model X.prog X.w) X.A (exec st X.env) (SP X pins D) X.xe s
def kY(X:Cx)(st:List Stmt)(t:TS):Prop:=
 ∀(pins:List (Addr×Obj))(s:Shared)(σ:St)(H:Hp)(D:Ends),Inv X pins σ H s→t D σ H→wpAny (model X.prog X.w) X.A (execs st X.env) (SP X pins D) X.xe s
theorem thn{α:Type}{t:Sem α}{Q Q':α→Shared→Prop}{M:Model}{A:Around}{E:Value→Shared→Prop}{s:Shared}(h:wpAny M A t Q E s)(hQ:∀a s,Q a s→Q' a s):wpAny M A t Q' E s:=wpAny_mono h hQ λ_ _ x=>x
section
variable {X:Cx}
def rV(i:Nat):TE:=λσ H Q=>∃v,σ[i]? =some (some v)∧Q v H
def tC(v:V):TE:=λ_ H Q=>Q v H
theorem DQ{i:Nat}{x:Str}{pos:Pos}(hN:X.N[i]? =some x)(hv:qw X.env.scope x)(hd:(x==("__debug__":Str))=false:=by decide)(fH:(x==("__classdict__":Str))=false:=by decide):PE X (.Name x pos) (rV i):=by
 intro pins s σ H Q I h;obtain ⟨v,e,h⟩:=h;obtain ⟨m,hn,hl⟩:=I.loc;obtain ⟨u,r,l⟩:=hl i x v hN e hv;have fin:EP X pins σ Q u s:=⟨v,H,I,r,h⟩
 rcases l with ⟨hk,hm⟩ | ⟨hk,c,hc,Ho⟩
 ·exact wpAny_Name (wpAny_loadName_local I.ok.kind hk hn hm fin) hd
 ·rcases hk with hk|hk
  ·exact wpAny_Name (wpAny_loadName_cell I.ok.kind hk hc Ho fin) hd
  ·exact wpAny_Name (wpAny_loadName_free I.ok.kind hk hc Ho fin fH) hd
theorem aM{i j pos}:PE X (.Constant (.int i) j pos) (tC (.int i)):=λ_ _ _ H _ I h=>wpAny_Constant_int ⟨.int i,H,I.tok _,⟨_,rfl⟩,h⟩
theorem PX{b j pos}:PE X (.Constant (.bool b) j pos) (tC (.bl b)):=λ_ _ _ H _ I h=>Constant_bool ⟨.bl b,H,I,rfl,h⟩
theorem Ln{j pos}:PE X (.Constant .none j pos) (tC .aL):=λ_ _ _ H _ I h=>Constant_none ⟨.aL,H,I,rfl,h⟩
theorem Lq{x j pos}:PE X (.Constant (.str x) j pos) (tC (.str x)):=λ_ _ _ H _ I h=>Calls.Constant_str ⟨.str x,H,I.tok _,⟨_,rfl⟩,h⟩
def Gl(X:Cx)(x:Str):Prop:=X.env.kindOf x=some .globalImplicit
theorem um{E:Value→Shared→Prop}{pins:List (Addr×Obj)}{s:Shared}{σ:St}{H:Hp}{x:Str}{u:Value}{pos:Pos}{Q:Value→Shared→Prop}(I:Inv X pins σ H s)(hg:Gl X x)(hm:X.mg x=some u)(h:Q u s)
  (hd:(x==("__debug__":Str))=false:=by decide):wpAny (model X.prog X.w) X.A (eval (.Name x pos) X.env) Q E s:=
 Calls.Name_function_global I.ok.kind hg (Calls.loadGlobal_global (by rw [I.ok.glob];exact I.mod.glob.keeps I.bk) hm h) hd
theorem kn{E:Value→Shared→Prop}{pins:List (Addr×Obj)}{s:Shared}{σ:St}{H:Hp}{x:Str}{u:Value}{pos:Pos}{Q:Value→Shared→Prop}(I:Inv X pins σ H s)(hg:Gl X x)(hm:X.mg x=none)(hv:bootBuiltins x=some u)(h:Q u s)
  (hn:x≠"__name__":=by decide) (hd:(x==("__debug__":Str))=false:=by decide):wpAny (model X.prog X.w) X.A (eval (.Name x pos) X.env) Q E s:=by
 obtain ⟨mb,h1,h2⟩:=I.mod.blt;exact Calls.Name_function_global I.ok.kind hg (Calls.loadGlobal_builtin (by rw [I.ok.glob];exact I.mod.glob.keeps I.bk) hm (by rw [I.ok.blt];exact h1.keeps I.bk) ((h2 x hn).trans hv) h) hd
theorem IK{x:Str}{v:V}{u:Value}{pos:Pos}(hg:Gl X x)(hm:X.mg x=some u)(r:RelV v u)(hd:(x==("__debug__":Str))=false:=by decide):PE X (.Name x pos) (tC v):=
 λ_ _ _ H _ I h=>um I hg hm ⟨v,H,I,r,h⟩ hd
theorem II{x:Str}{v:V}{u:Value}{pos:Pos}(hg:Gl X x)(hm:X.mg x=none)(hv:bootBuiltins x=some u)(r:RelV v u)(hn:x≠"__name__":=by decide)(hd:(x==("__debug__":Str))=false:=by decide):PE X (.Name x pos) (tC v):=
 λ_ _ _ H _ I h=>kn I hg hm hv ⟨v,H,I,r,h⟩ hn hd
variable {a b:Expr} {ta tb:TE} {pos:Pos}
def tB(t:TE):TT:=λσ H Q=>t σ H λx H1=>∃c,x= .bl c∧Q c H1
theorem Lz{e:Expr}{t:TE}(h:PE X e t)(he:∀whole,isTrue e X.env whole=(do let v ←whole;standAt e.pos;holding [v] (truthy v)):=by intro _;rfl):PT X e (tB t):=by
 intro pins s σ H Q I hw;refine isTrue_plain (thn (h pins s σ H _ I hw) λv s1 ⟨x,H1,I1,r1,q1⟩=>?_) (he _);obtain ⟨d,rfl,q⟩:=q1;cases r1;exact wpAny_truthy_bool ⟨H1,I1,q⟩
variable {tA y0:TT} {rest:List Expr}
def Wz(t u:TT):TT:=λσ H Q=>t σ H λc H1=>if c=true then u σ H1 Q else Q false H1
def tOr(t u:TT):TT:=λσ H Q=>t σ H λc H1=>if c=true then Q true H1 else u σ H1 Q
def WI(t:TT):TT:=λσ H Q=>t σ H λc H1=>Q (!c) H1
theorem uP(ha:PT X a tA):PW X (.BoolOp .And [a] pos) tA:=by
 intro wh pins s σ H Q I h;refine isTrue_and (thn (ha pins s σ H Q I h) λc s1 e=>?_);cases c with
 |true=>exact isTrue_and_nil e
 |false=>exact e
theorem LA(ha:PT X a tA):PW X (.BoolOp .Or [a] pos) tA:=by
 intro wh pins s σ H Q I h;refine isTrue_or (thn (ha pins s σ H Q I h) λc s1 e=>?_);cases c with
 |false=>exact isTrue_or_nil e
 |true=>exact e
theorem yQ(ha:PT X a tA)(hb:PW X (.BoolOp .And (b::rest) pos) y0):PW X (.BoolOp .And (a::b::rest) pos) (Wz tA y0):=by
 intro wh pins s σ H Q I h;refine isTrue_and (thn (ha pins s σ H _ I h) λc s1 ⟨H1,I1,q1⟩=>?_);cases c with
 |true=>exact hb wh pins s1 σ H1 Q I1 q1
 |false=>exact ⟨H1,I1,q1⟩
theorem P0(ha:PT X a tA)(hb:PW X (.BoolOp .Or (b::rest) pos) y0):PW X (.BoolOp .Or (a::b::rest) pos) (tOr tA y0):=by
 intro wh pins s σ H Q I h;refine isTrue_or (thn (ha pins s σ H _ I h) λc s1 ⟨H1,I1,q1⟩=>?_);cases c with
 |true=>exact ⟨H1,I1,q1⟩
 |false=>exact hb wh pins s1 σ H1 Q I1 q1
theorem DR(ha:PT X a tA):PT X (.UnaryOp .Not a pos) (WI tA):=by
 intro pins s σ H Q I h;exact isTrue_not (ha pins s σ H (λc H1=>Q (!c) H1) I h)
def Qf(ta tb:TE):TE:=λσ H Q=>ta σ H λx H1=>∃c,x= .bl c∧if c=true then tb σ H1 Q else Q (.bl false) H1
def Ql(ta:TE):TE:=λσ H Q=>ta σ H λx H1=>∃c,x= .bl c∧Q (.bl (!c)) H1
theorem Lp{op}{t:TE}(h:PE X a t):PE X (.BoolOp op [a] pos) t:=λpins s σ H Q I hw=>BoolOp_one (h pins s σ H Q I hw)
theorem Lj(ha:PE X a ta)(hb:PE X (.BoolOp .And (b::rest) pos) tb):PE X (.BoolOp .And (a::b::rest) pos) (Qf ta tb):=by
 intro pins s σ H Q I h;refine BoolOp_and (thn (ha pins s σ H _ I h) λv s1 ⟨x,H1,I1,r1,q1⟩=>?_);obtain ⟨c,rfl,q1⟩:=q1;cases r1;refine wpAny_truthy_bool ?_;cases c with
 |true=>exact hb pins s1 σ H1 Q I1 q1
 |false=>exact ⟨.bl false,H1,I1,rfl,q1⟩
theorem Lo(ha:PE X a ta):PE X (.UnaryOp .Not a pos) (Ql ta):=by
 intro pins s σ H Q I h;refine UnaryOp_ (thn (ha pins s σ H _ I h) λv s1 ⟨x,H1,I1,r1,q1⟩=>?_);obtain ⟨c,rfl,q1⟩:=q1;cases r1;exact not_of (wpAny_truthy_bool ⟨.bl (!c),H1,I1,rfl,q1⟩)
end
def aG(K:PySem.W.Frag)(H:Hp)(a:Addr)(xs:List V):Prop:=
 Rd H a (.lst xs)∨
  ∃(o:Obj)(its:Array Value)(n:Nat),K.lookup a=some o∧o.cls= .type "list"∧o.dict=none∧o.data= .seq its n∧its.size≤sizeLine∧Vals xs its.toList
def cJ(K:PySem.W.Frag)(H:Hp)(a:Addr)(xs:List V):Prop:=
 Rd H a (.tup xs)∨
  ∃(o:Obj)(its:Array Value)(n:Nat),K.lookup a=some o∧o.cls= .type "tuple"∧o.data= .seq its n∧its.size≤sizeLine∧Vals xs its.toList
def QI:Value→Option V
 | .none=>some .aL
 | .bool b=>some (.bl b)
 | .int i _=>some (.int i)
 | .str x _=>some (.str x)
 | .bytes b _=>some (.sj b)
 | .float b _=>some (.Bw b)
 | .ref a=>some (.ref a)
 | .type n=>some (.ty n)
 |_=>none
theorem RelV.abs{x:V}{u:Value}(r:RelV x u):QI u=some x:=by
 cases x with
 |aL=>cases r;rfl
 |bl _=>cases r;rfl
 |int _=>obtain ⟨t,rfl⟩:=r;rfl
 |str _=>obtain ⟨t,rfl⟩:=r;rfl
 |sj _=>obtain ⟨t,rfl⟩:=r;rfl
 |Bw _=>obtain ⟨t,rfl⟩:=r;rfl
 |ref _=>cases r;rfl
 |ty _=>cases r;rfl
theorem RelV.inj{x y:V}{u:Value}(r:RelV x u)(q:RelV y u):x=y:=Option.some.inj (r.abs.symm.trans q.abs)
theorem Vals.inj:∀{xs ys:List V}{us:List Value},Vals xs us→Vals ys us→xs=ys
 |_,_,_, .nil, .nil=>rfl
 |_,_,_, .cons r t, .cons r' t'=>by rw [r.inj r',Vals.inj t t']
section
variable {X:Cx} {pins:List (Addr×Obj)} {σ:St} {H:Hp} {s:Shared} {a:Addr} {xs ys:List V}
theorem aG.of{K:PySem.W.Frag}(h:H a=some (.lst xs)):aG K H a xs:= .inl (.inl h)
theorem cJ.of{K:PySem.W.Frag}(h:H a=some (.tup xs)):cJ K H a xs:= .inl (.inl h)
theorem Inv.list(I:Inv X pins σ H s)(h:aG X.K H a xs):∃its:List Value,Vals xs its∧PlainL s.heap a its.toArray∧xs.length≤sizeLine:=by
 rcases h with h| ⟨o,its,n,hk,hc,hd,hs,hz,r⟩
 ·obtain ⟨z,its,n,r,e⟩:=h.ok I.hok
  exact ⟨its,r,⟨_,n,e,rfl,rfl,rfl⟩,z⟩
 ·refine ⟨its.toList,r,⟨o,n,I.hU a o hk,hc,hd,by simpa using hs⟩,?_⟩
  have e:=r.length;simp only [cg] at e;omega
theorem Inv.tuple(I:Inv X pins σ H s)(h:cJ X.K H a xs):∃its:List Value,Vals xs its∧IsTup s.heap a its.toArray∧xs.length≤sizeLine:=by
 rcases h with h| ⟨o,its,n,hk,hc,hs,hz,r⟩
 ·obtain ⟨z,its,r,p⟩:=h.ok I.hok
  exact ⟨its,r,p,z⟩
 ·refine ⟨its.toList,r,⟨o,I.hU a o hk,hc,n,by simpa using hs⟩,?_⟩
  have e:=r.length;simp only [cg] at e;omega
theorem Inv.wN(I:Inv X pins σ H s)(h:aG X.K H a xs)(h':aG X.K H a ys):xs=ys:=by
 obtain ⟨its,r,⟨o,n,e,_,_,d⟩,_⟩:=I.list h;obtain ⟨its',r',⟨o',n',e',_,_,d'⟩,_⟩:=I.list h';rw [e] at e';cases e';rw [d] at d'
 injection d' with d1 _
 have:its=its':=by simpa using congrArg Array.toList d1
 subst this;exact r.inj r'
theorem Inv.CP(I:Inv X pins σ H s)(h:cJ X.K H a xs)(h':cJ X.K H a ys):xs=ys:=by
 obtain ⟨its,r,⟨o,e,_,n,d⟩,_⟩:=I.tuple h;obtain ⟨its',r',⟨o',e',_,n',d'⟩,_⟩:=I.tuple h';rw [e] at e';cases e';rw [d] at d'
 injection d' with d1 _
 have:its=its':=by simpa using congrArg Array.toList d1
 subst this;exact r.inj r'
end
abbrev Cx.nQ(X:Cx)(E:Value→Shared→Prop):Cx:={X with xe:=E}
abbrev Cx.ja(X:Cx):Cx:=X.nQ λ_ _=>False
theorem Cx.Ok.nQ{X:Cx}(ok:X.Ok)(E:Value→Shared→Prop):(X.nQ E).Ok:=
 ⟨ok.mod,ok.kind,ok.glob,ok.blt,ok.above,ok.inj,ok.has,ok.cab,ok.hd,ok.frames,ok.stk,ok.exf,ok.bs,ok.bsz,ok.noex,ok.exfs,ok.funs,ok.frf⟩
theorem Cx.Ok.jo{X:Cx}{E:Value→Shared→Prop}(ok:(X.nQ E).Ok):X.Ok:=
 ⟨ok.mod,ok.kind,ok.glob,ok.blt,ok.above,ok.inj,ok.has,ok.cab,ok.hd,ok.frames,ok.stk,ok.exf,ok.bs,ok.bsz,ok.noex,ok.exfs,ok.funs,ok.frf⟩
section
variable {X:Cx} {pins:List (Addr×Obj)} {σ:St} {H:Hp} {s:Shared} {E:Value→Shared→Prop}
theorem Inv.nQ(I:Inv X pins σ H s)(E:Value→Shared→Prop):Inv (X.nQ E) pins σ H s:=⟨I.ok.nQ E,I.os,I.bare,I.base,I.loc,I.cell,I.free,I.freeC,I.pin,I.hok,I.len⟩
theorem Inv.jo(I:Inv (X.nQ E) pins σ H s):Inv X pins σ H s:=⟨I.ok.jo,I.os,I.bare,I.base,I.loc,I.cell,I.free,I.freeC,I.pin,I.hok,I.len⟩
theorem SP.jo{D:Ends}{f:Flow}{s':Shared}(h:SP (X.nQ E) pins D f s'):SP X pins D f s':=by
 cases f with
 |next=>obtain ⟨av,H',I,q⟩:=h;exact ⟨av,H',I.jo,q⟩
 |brk=>obtain ⟨av,H',I,q⟩:=h;exact ⟨av,H',I.jo,q⟩
 |cont=>obtain ⟨av,H',I,q⟩:=h;exact ⟨av,H',I.jo,q⟩
 |ret u=>obtain ⟨v,av,H',I,r,q⟩:=h;exact ⟨v,av,H',I.jo,r,q⟩
theorem kY.ja{st:List Stmt}{t:TS}(h:kY X.ja st t):kY X st t:=λpins s σ H D I hw=>
 wpAny_mono (h pins s σ H D (I.nQ _) hw) (λ_ _ q=>q.jo) λ_ _ z=>False.elim z
end
section
variable {X:Cx} {st:Stmt} {rest:List Stmt} {t u:TS} {e:Expr} {te:TE} {pos:Pos}
def Qk:TS:=λD σ H=>D.nx σ H
def JD(t u:TS):TS:=λD σ H=>t {D with nx:=u D} σ H
theorem lV:kY X [] Qk:=λ_ _ σ H _ I h=>wpAny_execs_nil ⟨σ,H,I,h⟩
theorem aD(h1:PS X st t)(h2:kY X rest u):kY X (st::rest) (JD t u):=by
 intro pins s σ H D I h;refine wpAny_execs_cons (thn (h1 pins s σ H {D with nx:=u D} I h) λf s1 q=>?_)
 cases f with
 |next=>
  obtain ⟨av,H',I',q⟩:=q;exact h2 pins s1 av H' D I' q
 |ret v=>exact q
 |brk=>exact q
 |cont=>exact q
theorem bg(h1:PS X st t):kY X [st] t:=by
 intro pins s σ H D I h;refine wpAny_execs_cons (thn (h1 pins s σ H D I h) λf s1 q=>?_);cases f with
 |next=>exact wpAny_execs_nil q
 |ret v=>exact q
 |brk=>exact q
 |cont=>exact q
theorem Inv.quiet{pins:List (Addr×Obj)}{σ:St}{H:Hp}{s:Shared}(I:Inv X pins σ H s):interactive X.env=false:=by simp [interactive,I.ok.kind]
def Qi(te:TE):TS:=λD σ H=>te σ H λ_ H1=>D.nx σ H1
theorem cR(he:PE X e te)(hs:swapsWith e none pos.line X.env=pure false:=by rfl):PS X (.Expr e pos) (Qi te):=by
 intro pins s σ H D I h;exact wpAny_Expr_any (thn (he pins s σ H _ I h) λv s1 ⟨x,H1,I1,r1,q1⟩=>⟨σ,H1,I1,q1⟩) I.quiet hs
def Nq(te:TE):TS:=λD σ H=>te σ H D.rt
theorem fh(he:PE X e te):PS X (.Return (some e) pos) (Nq te):=by
 intro pins s σ H D I h;exact wpAny_Return_some (thn (he pins s σ H _ I h) λv s1 ⟨x,H1,I1,r1,q1⟩=>⟨x,σ,H1,I1,r1,q1⟩)
def WG(c:TT)(t u:TS):TS:=λD σ H=>c σ H λb H1=>if b=true then t D σ H1 else u D σ H1
theorem uM{c:Expr}{a b:List Stmt}{tc:TT}(hc:PT X c tc)(ha:kY X a t)(hb:kY X b u):PS X (.If c a b pos) (WG tc t u):=by
 intro pins s σ H D I h;refine wpAny_If (thn (hc pins s σ H _ I h) λd s1 ⟨H1,I1,q1⟩=>?_);cases d with
 |true=>exact ha pins s1 σ H1 D I1 q1
 |false=>exact hb pins s1 σ H1 D I1 q1
def LY:TS:=λ_ _ _=>False
theorem Fw:PS X st LY:=λ_ _ _ _ _ _ h=>h.elim
end
abbrev TG:=V→St→Hp→(St→Hp→Prop)→Prop
abbrev vE:=List V→St→Hp→(St→Hp→Prop)→Prop
def PG(X:Cx)(target:Expr)(t:TG):Prop:=
 ∀(pins:List (Addr×Obj))(s:Shared)(σ:St)(H:Hp)(v:V)(u:Value)(Q:St→Hp→Prop),Inv X pins σ H s→RelV v u→t v σ H Q→
  wpAny (model X.prog X.w) X.A (assign target X.env u) (λ_ s'=>∃av H',Inv X pins av H' s'∧Q av H') X.xe s
def xD(X:Cx)(ts:List Expr)(t:vE):Prop:=
 ∀(pins:List (Addr×Obj))(s:Shared)(σ:St)(H:Hp)(vs:List V)(us:List Value)(Q:St→Hp→Prop),Inv X pins σ H s→Vals vs us→t vs σ H Q→
  wpAny (model X.prog X.w) X.A (assignInOrder ((assignEach ts X.env).map (·.2)) us) (λ_ s'=>∃av H',Inv X pins av H' s'∧Q av H') X.xe s
abbrev F3:=V→V→V→Hp→(Hp→Prop)→Prop
def Ma(X:Cx)(t:F3):Prop:=
 ∀(pins:List (Addr×Obj))(s:Shared)(σ:St)(H:Hp)(o i v:V)(ov iv u:Value)(Q:Hp→Prop),Inv X pins σ H s→RelV o ov→RelV i iv→RelV v u→t o i v H Q→
  wpAny (model X.prog X.w) X.A (setItem ov iv u) (λ_ s'=>∃H',Inv X pins σ H' s'∧Q H') X.xe s
section
variable {X:Cx} {pos:Pos}
def tZ(i:Nat):TG:=λv σ H Q=>Q (σ.set i (some v)) H
theorem bI{i:Nat}{x:Str}(hN:X.N.Nodup)(hi:X.N[i]? =some x)(hx:Loc X.env.scope x)(hf:X.fn x=true∨X.env.scope.names.lookup x=some .local:=by first|exact .inl rfl|exact .inr rfl|assumption):PG X (.Name x pos) (tZ i):=by
 intro pins s σ H v u Q I r h;exact wpAny_assign_Name (jZ I hN hi hx r (λs' I'=>⟨_,H,I',h⟩) hf)
def SF:vE:=λvs σ H Q=>vs= []∧Q σ H
def Ow(t:TG)(u:vE):vE:=λvs σ H Q=>∃v r,vs=v::r∧t v σ H λav H'=>u r av H' Q
theorem jU:xD X [] SF:=by
 intro pins s σ H vs us Q I r h;obtain ⟨e,h⟩:=h;subst e;cases r;exact assignInOrder_nil ⟨σ,H,I,h⟩
theorem dZ{e:Expr}{es:List Expr}{t:TG}{u:vE}(h1:PG X e t)(h2:xD X es u)
  (hs:(assignEach (e::es) X.env).map (·.2)=assign e X.env::(assignEach es X.env).map (·.2):=by rfl):xD X (e::es) (Ow t u):=by
 intro pins s σ H vs us Q I r h;obtain ⟨v,vr,e1,h⟩:=h;subst e1;cases r with
 |cons r rr=>
  rw [hs];refine assignInOrder_cons (thn (h1 pins s σ H _ _ _ I r h) λ_ s1 ⟨C5,H1,I1,q1⟩=>?_);exact h2 pins s1 C5 H1 _ _ Q I1 rr q1
def SG(K:PySem.W.Frag)(n:Nat)(t:vE):TG:=λv σ H Q=>∃a xs,v= .ref a∧cJ K H a xs∧xs.length=n∧t xs σ H Q
theorem mY{es:List Expr}{k:Nat}{t:vE}{n:Nat}(hc:X.calm=true)(h:xD X es t)
  (hn:(assignEach es X.env).length=n:=by rfl) (yh:(assignEach es X.env).findIdx? (·.1)=none:=by rfl):PG X (.Tuple es k pos) (SG X.K n t):=by
 intro pins s σ H v u Q I r hw;obtain ⟨a,xs,e1,hq,hl,hw⟩:=hw;subst e1;cases r;obtain ⟨its,rv,ht,hz⟩:=I.tuple hq;refine assign_Tuple_tuple (I.ok.hd hc) ht (by simp [hn,←hl,rv.length]) yh λh' hx=>?_
 have I1:Inv X pins σ H {s with heap:=h'}:=I.kept (t':=s.toks) λb o e=>hx b o (cm (Heap.lt_size e)) e
 exact h pins _ σ H xs _ Q I1 (by simpa using rv) hw
def MH(to ti:TE)(t:F3):TG:=λv σ H Q=>to σ H λo H1=>ti σ H1 λi H2=>t o i v H2 λH3=>Q σ H3
theorem yO{o i:Expr}{to ti:TE}{t:F3}(ho:PE X o to)(hi:PE X i ti)(hs:Ma X t)
  (ha:∀v,assign (.Subscript o i pos) X.env v=(do
   let ov ←holding [v] (eval o X.env)
   let iv ←holding [v,ov] (eval i X.env)
   standAt pos
   holding [v,ov,iv] (setItem ov iv v)
   release [v,ov,iv] []):=by intro _;rfl):PG X (.Subscript o i pos) (MH to ti t):=by
 intro pins s σ H v u Q I r h;rw [ha];refine wpAny_bind (wpAny_holding (thn (ho pins s σ H _ I h) λov s1 ⟨x,H1,I1,r1,q1⟩=>?_));refine wpAny_bind (wpAny_holding (thn (hi pins s1 σ H1 _ I1 q1) λiv s2 ⟨y,H2,I2,r2,q2⟩=>?_));refine wpAny_bind (wpAny_standAt (wpAny_bind (wpAny_holding (thn (hs pins s2 σ H2 x y v ov iv u _ I2 r1 r2 r q2) λ_ s3 ⟨H3,I3,q3⟩=>?_))));exact wpAny_release ⟨σ,H3,I3,q3⟩
def D8(te:TE)(g:TG):TS:=λD σ H=>te σ H λx H1=>g x σ H1 D.nx
theorem mZ{tg e:Expr}{te:TE}{g:TG}(he:PE X e te)(hg:PG X tg g)(hs:swapsWithSole [tg] e pos.line X.env=pure false:=by rfl)(hw:swappedStores [tg] e X.env=pure none:=by rfl)
  (h1:(assignEach [tg] X.env).map (·.2)= [assign tg X.env]:=by rfl):PS X (.Assign [tg] e pos) (D8 te g):=by
 intro pins s σ H D I h;refine wpAny_Assign_stores (thn (he pins s σ H _ I h) λv s1 ⟨x,H1,I1,r1,q1⟩=>?_) hs hw;rw [h1];exact thn (hg pins s1 σ H1 x v _ I1 r1 q1) λ_ s2 q=>q
theorem bC{i:Nat}{x:Str}{e:Expr}{te:TE}{pos':Pos}(hN:X.N.Nodup)(hi:X.N[i]? =some x)(hx:Loc X.env.scope x)(he:PE X e te)(hs:swapsWith e (some (.Name x pos')) pos.line X.env=pure false:=by rfl)(hf:X.fn x=true∨X.env.scope.names.lookup x=some .local:=by first|exact .inl rfl|exact .inr rfl|assumption):
  PS X (.Assign [.Name x pos'] e pos) (D8 te (tZ i)):=by
 intro pins s σ H D I h;refine wpAny_Assign_Name (thn (he pins s σ H _ I h) λv s1 ⟨y,H1,I1,r1,q1⟩=>?_) hs;exact jZ I1 hN hi hx r1 (λs2 I2=>⟨_,H1,I2,q1⟩) hf
def WK(i j:Nat)(ta:TA):TS:=λD σ H=>ta σ H λvs H1=>∃v w,vs= [v,w]∧D.nx ((σ.set i (some v)).set j (some w)) H1
theorem Ly{i j:Nat}{x y:Str}{a b:Expr}{ta:TA}{px py pt:Pos}{kt k2 Cv}(hc:X.calm=true)(hN:X.N.Nodup)(hi:X.N[i]? =some x)(hj:X.N[j]? =some y)(cV:i≠j)
  (hx:X.env.scope.names.lookup x=some .local) (hy:X.env.scope.names.lookup y=some .local) (ha:PA X [a,b] ta)
  (hw:swappedStores [.Tuple [.Name x px, .Name y py] kt pt] (.Tuple [a,b] k2 Cv) X.env=pure (some [x,y]))
  (hs:swapsWithSole [.Tuple [.Name x px, .Name y py] kt pt] (.Tuple [a,b] k2 Cv) pos.line X.env=pure false:=by rfl):
  PS X (.Assign [.Tuple [.Name x px, .Name y py] kt pt] (.Tuple [a,b] k2 Cv) pos) (WK i j ta):=by
 intro pins s σ H D I h;rw [exec_Assign_arm];refine wpAny_bind (wpAny_standAt ?_);rw [hs];refine wpAny_bind (wpAny_pure ?_);rw [if_neg (by decide)]
 refine wpAny_bind (Tuple_ (thn (ha _ pins s σ H _ I h) λus s1 ⟨vs,H1,I1,r1,q1⟩=>?_));obtain ⟨v,w,e1,q1⟩:=q1;subst e1
 obtain ⟨u1,u2,rfl,rv,oQ⟩:∃u1 u2,us= [u1,u2]∧RelV v u1∧RelV w u2:=by
  cases r1 with
  |cons p q=>
   cases q with
   |cons p' q'=>
    cases q';exact ⟨_,_,rfl,p,p'⟩
 refine wpAny_newObj_type ?_ (by show 2≤sizeLine;decide)
 have I2:Inv X pins σ H1 {s1 with heap:=s1.heap.push {cls:= .type "tuple",data:= .seq [u1,u2].toArray}}:=I1.kept (t':=s1.toks) λb o e=>Heap.get?_push_of_some _ e
 rw [hw];refine wpAny_bind (wpAny_pure ?_);show wpAny (model X.prog X.w) X.A (do rule "assign.swapped-stores";let items ←unpackItems (.ref s1.heap.objs.size) 2 none;assignInOrder [λv=>bindName X.env y v,λv=>bindName X.env x v] items.reverse;pure Flow.next) _ _ _
 refine wpAny_bind (wpAny_rule (wpAny_bind (unpackItems_tuple (items:= #[u1,u2]) (I.ok.hd hc) (IsTup.new s1.heap _) λh' vQ=>?_)));have I3:=I2.kept (h':=h') (t':=s1.toks) λb o e=>vQ b o (cm (Heap.lt_size e)) e;show wpAny _ _ (assignInOrder [λv=>bindName X.env y v,λv=>bindName X.env x v] [u2,u1]>>=λ_=>pure Flow.next) _ _ _;refine wpAny_bind (assignInOrder_cons (wpAny_bindName (jZ I3 hN hj (.inl hy) oQ (λs2 I4=>?_) (.inr hy))));refine assignInOrder_cons (wpAny_bindName (jZ I4 hN hi (.inl hx) rv (λs3 I5=>assignInOrder_nil (wpAny_pure ?_)) (.inr hx)));rw [List.set_comm _ _ (Ne.symm cV)] at I5;exact ⟨_,H1,I5,q1⟩
end
section
variable {X:Cx} {pos:Pos}
def D9(c:TT)(tb:TS):TS:=λD σ H=>∃W:Nat→St→Hp→Prop,(∃m,W m σ H)∧∀m σ H,W m σ H→
 c σ H λb H1=>if b=true then ∃N:St→Hp→Prop,(∀av H',N av H'→∃m',m'<m∧W m' av H')∧tb {D with nx:=N,ct:=N,bk:=D.nx} σ H1 else D.nx σ H1
theorem wW{c:Expr}{body:List Stmt}{tc:TT}{tb:TS}(hp:PassesOwn (model X.prog X.w) X.A X.env X.xe)(hc:PT X c tc)(hb:kY X body tb):PS X (.While c body [] pos) (D9 tc tb):=by
 intro pins s σ H D I h;obtain ⟨W,⟨m0,w0⟩,turn⟩:=h;refine wpAny_While (codeAny_whileLoop (λn s'=>∃av H',Inv X pins av H' s'∧W n av H') ?_ m0 ⟨σ,H,I,w0⟩);rintro n s1 ⟨C5,H1,I1,w1⟩;refine wpAny_passesOwn hp (thn (hc pins s1 C5 H1 _ I1 (turn n C5 H1 w1)) λb s2 ⟨H2,I2,q2⟩=>?_);cases b with
 |true=>
  obtain ⟨N,hN,q2⟩:=q2;rw [if_pos rfl];refine wpAny_passesOwn hp (thn (hb pins s2 C5 H2 _ I2 q2) λf s3 q3=>?_);cases f with
  |next=>
   obtain ⟨sQ,H3,I3,n3⟩:=q3;obtain ⟨m',hm,w3⟩:=hN sQ H3 n3;exact ⟨m',hm,sQ,H3,I3,w3⟩
  |cont=>
   obtain ⟨sQ,H3,I3,n3⟩:=q3;obtain ⟨m',hm,w3⟩:=hN sQ H3 n3;exact ⟨m',hm,sQ,H3,I3,w3⟩
  |brk=>exact q3
  |ret v=>exact q3
 |false=>
  rw [if_neg dE];exact wpAny_execs_nil ⟨C5,H2,I2,q2⟩
end
structure It where
 go:Nat→Hp→Prop
 yld:Nat→Hp→V→Hp→Prop
 stop:Nat→Hp→Prop
def fO(X:Cx)(pins:List (Addr×Obj))(H:Hp)(b:Addr):Prop:=
 H b=none∧b≠X.env.locals∧b∉X.fs∧(b∈X.ex∨X.s₀.heap.objs.size≤b)∧(∀x c,X.env.cells.lookup x=some c→c≠b)∧∀p∈X.pn++pins,p.1≠b
theorem Inv.Dy{X:Cx}{pins:List (Addr×Obj)}{σ:St}{H H':Hp}{s:Shared}{b:Addr}(I:Inv X pins σ H s)(hb:s.heap.objs.size≤b)(hn:H' b=none):fO X pins H' b:=by
 refine ⟨hn,Nat.ne_of_gt (gB I.lt hb),I.M7 hb, .inr (j5 I.sz hb),λx c e z=>?_,λp hp z=>?_⟩
 ·obtain ⟨v,q⟩:=I.cell x c e
  exact absurd (gB q.lt (by rw [z];exact hb)) (mJ _)
 ·exact absurd (gB (Heap.lt_size (I.pin p hp).1) (by rw [z];exact hb)) (mJ _)
structure Turn (P:Program) (w:World) (K:PySem.W.Frag) (tg:Expr) (J:It) (fp:List Addr) (it:Addr) (tn:Nat→Heap→Prop):Prop where
 mem:it∈fp
 obj:∀i h,tn i h→∀b∈fp,∃o,h.get? b=some o∧∀v,o.data≠ .cell v
 keep:∀i h h',tn i h→(∀b∈fp,∀o,h.get? b=some o→h'.get? b=some o)→tn i h'
 item:∀(X:Cx),X.prog=P→X.w=w→X.K=K→X.calm=true→∀(i:Nat)(pins:List (Addr×Obj))(s:Shared)(σ:St)(H:Hp)(E:Value→Shared→Prop),Inv X pins σ H s→(∀b∈fp,fO X pins H b)→tn i s.heap→J.go i H→
  wpAny (model P w) X.A (pyNext (.ref it)) (λr s1=>∃u,r=some u∧
   wpAny (model P w) X.A (letOwnedTupleGo tg (.ref it) u) (λ_ s2=>∃x H',Inv X pins σ H' s2∧RelV x u∧J.yld i H x H'∧tn (i+1) s2.heap∧∀b∈fp,H' b=none) E s1) E s
 done:∀(X:Cx),X.prog=P→X.w=w→X.K=K→X.calm=true→∀(i:Nat)(pins:List (Addr×Obj))(s:Shared)(σ:St)(H:Hp)(E:Value→Shared→Prop),Inv X pins σ H s→(∀b∈fp,fO X pins H b)→tn i s.heap→J.stop i H→
  wpAny (model P w) X.A (pyNext (.ref it)) (λr s1=>r=none∧Inv X pins σ H s1) E s
 self:∀(A:Around)(i:Nat)(s:Shared)(Q:Value→Shared→Prop)(E:Value→Shared→Prop),tn i s.heap→Q (.ref it) s→wpAny (model P w) A (pyIter (.ref it)) Q E s
abbrev TI:=St→Hp→(It→Hp→Prop)→Prop
def QF(X:Cx)(pins:List (Addr×Obj))(σ:St)(tg:Expr)(R:It→Hp→Prop)(z8:Value)(s2:Shared):Prop:=
 ∃(it:Addr)(fp:List Addr)(tn:Nat→Heap→Prop)(J:It)(H':Hp),z8= .ref it∧Inv X pins σ H' s2∧Turn X.prog X.w X.K tg J fp it tn∧tn 0 s2.heap∧(∀b∈fp,fO X pins H' b)∧R J H'
def PI(X:Cx)(tg iter:Expr)(wi:TI):Prop:=
 ∀(pins:List (Addr×Obj))(s:Shared)(σ:St)(H:Hp)(R:It→Hp→Prop),Inv X pins σ H s→wi σ H R→
  wpAny (model X.prog X.w) X.A (eval iter X.env) (λv s1=>wpAny (model X.prog X.w) X.A (pyIter v) (QF X pins σ tg R) X.xe s1) X.xe s
theorem Bz{M:Model}{A:Around}{E:Value→Shared→Prop}{s:Shared}{tg:Expr}{it:Addr}{u:Value}{o:Obj}{n:String}{vs:Array Value}{Q:Unit→Shared→Prop}(ho:s.heap.get? it=some o)(hc:o.cls= .type n)(hd:o.data= .fields vs)
  (hn: ["enumerate","zip","dict_itemiterator","dict_reverseitemiterator","odict_iterator","itertools.zip_longest","itertools.pairwise"].contains n=false) (hQ:Q () s):wpAny M A (letOwnedTupleGo tg (.ref it) u) Q E s:=by
 unfold letOwnedTupleGo
 cases tg<;>first
  |exact wpAny_pure hQ
  | (cases u<;>first
    |exact wpAny_pure hQ
    | (refine wpAny_bind (wpAny_load ho ?_)
       rw [hc,hd];show wpAny M A (if (["enumerate","zip","dict_itemiterator","dict_reverseitemiterator","odict_iterator","itertools.zip_longest","itertools.pairwise"].contains n&&vs[0]? ==some (rawInt _))=true then _ else _) Q E s;rw [if_neg (by intro h;rw [hn,Bool.false_and] at h;cases h)]
       exact wpAny_pure hQ))
def Ek(K:PySem.W.Frag)(a:Addr):It:=
 ⟨λi H=>∃xs x,aG K H a xs∧xs[i]? =some x,λi H x H'=>H'=H∧∀xs,aG K H a xs→xs[i]? =some x,λi H=>∃xs,aG K H a xs∧xs.length≤i⟩
def Nv(K:PySem.W.Frag)(a:Addr):It:=
 ⟨λi H=>∃xs x,cJ K H a xs∧xs[i]? =some x,λi H x H'=>H'=H∧∀xs,cJ K H a xs→xs[i]? =some x,λi H=>∃xs,cJ K H a xs∧xs.length≤i⟩
def zl(lo:Int)(n:Nat):It:=⟨λi _=>i<n,λi H x H'=>H'=H∧x= .int (lo+i),λi _=>n≤i⟩
theorem CT{P:Program}{w:World}{K:PySem.W.Frag}{tg:Expr}(a it:Addr):Turn P w K tg (Ek K a) [it] it (λi h=>h.IsListIter it a i) where
 mem:=by simp
 obj:=λi h st b hb=>by
  have e:b=it:=by simpa using hb
  subst e;obtain ⟨o,e,c,d⟩:=st;exact ⟨o,e,λv z=>by rw [d] at z;cases z⟩
 keep:=λi h h' st k=>st.at λo e=>k it (by simp) o e
 item:=by
  intro X hP hw hK hc i pins s σ H E I hf st hg;subst hP hw hK;obtain ⟨xs,x,hq,hx⟩:=hg;obtain ⟨its,rv,p,hz⟩:=I.list hq;obtain ⟨u,hu,ru⟩:=rv.get hx;obtain ⟨f0,f1,f2,f3,f4,f5⟩:=hf it (by simp)
  refine wpAny_pyNext_list_item st p.isList (x:=u) (by simpa using hu) λh' ag sb=>?_
  have I1:Inv X pins σ H {s with heap:=h'}:=I.turned (t':=s.toks) (λb o hb e=>(sb.2 b hb).trans e) f0 f1 f3 f4 f5
  obtain ⟨o,e,c,d⟩:=id ag;exact ⟨u,rfl,Bz (s:={s with heap:=h'}) e c d (by decide) ⟨x,H,I1,ru,⟨rfl,λys hy=>by rw [I.wN hy hq];exact hx⟩,ag,λb hb=>(hf b hb).1⟩⟩
 done:=by
  intro X hP hw hK hc i pins s σ H E I hf st hg;subst hP hw hK;obtain ⟨xs,hq,hx⟩:=hg;obtain ⟨its,rv,p,hz⟩:=I.list hq;obtain ⟨f0,f1,f2,f3,f4,f5⟩:=hf it (by simp)
  have hl:=rv.length;exact wpAny_pyNext_list_end (I.ok.hd hc) st p.isList (by simp;omega) λh' eb=>⟨rfl,I.turned (t':=s.toks) (λb o hb e=>eb b o hb e) f0 f1 f3 f4 f5⟩
 self:=λ_ _ _ _ _ st h=>wpAny_pyIter_listiter st h
theorem AR{P:Program}{w:World}{K:PySem.W.Frag}{tg:Expr}(a it:Addr):Turn P w K tg (Nv K a) [it] it (λi h=>h.IsTupleIter it a i) where
 mem:=by simp
 obj:=λi h st b hb=>by
  have e:b=it:=by simpa using hb
  subst e;obtain ⟨o,e,c,d⟩:=st;exact ⟨o,e,λv z=>by rw [d] at z;cases z⟩
 keep:=λi h h' st k=>st.at λo e=>k it (by simp) o e
 item:=by
  intro X hP hw hK hc i pins s σ H E I hf st hg;subst hP hw hK;obtain ⟨xs,x,hq,hx⟩:=hg;obtain ⟨its,rv,p,hz⟩:=I.tuple hq;obtain ⟨u,hu,ru⟩:=rv.get hx;obtain ⟨f0,f1,f2,f3,f4,f5⟩:=hf it (by simp)
  refine wpAny_pyNext_tuple_item st (show s.heap.IsTuple a its.toArray from p) (x:=u) (by simpa using hu) λh' ag sb=>?_
  have I1:Inv X pins σ H {s with heap:=h'}:=I.turned (t':=s.toks) (λb o hb e=>(sb.2 b hb).trans e) f0 f1 f3 f4 f5
  obtain ⟨o,e,c,d⟩:=id ag;exact ⟨u,rfl,Bz (s:={s with heap:=h'}) e c d (by decide) ⟨x,H,I1,ru,⟨rfl,λys hy=>by rw [I.CP hy hq];exact hx⟩,ag,λb hb=>(hf b hb).1⟩⟩
 done:=by
  intro X hP hw hK hc i pins s σ H E I hf st hg;subst hP hw hK;obtain ⟨xs,hq,hx⟩:=hg;obtain ⟨its,rv,p,hz⟩:=I.tuple hq;obtain ⟨f0,f1,f2,f3,f4,f5⟩:=hf it (by simp)
  have hl:=rv.length;exact wpAny_pyNext_tuple_end (I.ok.hd hc) st (show s.heap.IsTuple a its.toArray from p) (by simp;omega) λh' eb=>⟨rfl,I.turned (t':=s.toks) (λb o hb e=>eb b o hb e) f0 f1 f3 f4 f5⟩
 self:=λ_ _ _ _ _ st h=>wpAny_pyIter_tupleiter st h
theorem AQ{P:Program}{w:World}{K:PySem.W.Frag}{tg:Expr}(it:Addr)(lo:Int)(n:Nat):Turn P w K tg (zl lo n) [it] it (λi h=>IsRangeIter h it (lo+(i:Nat)*1) ((n:Int)-(i:Nat)) 1) where
 mem:=by simp
 obj:=λi h st b hb=>by
  have e:b=it:=by simpa using hb
  subst e
  exact ⟨_,st,λv z=>by
   have z':Data.fields _=Data.cell v:=z;cases z'⟩
 keep:=λi h h' st k=>k it (by simp) _ st
 item:=by
  intro X hP hw hK hc i pins s σ H E I hf st hg;subst hP hw hK;obtain ⟨f0,f1,f2,f3,f4,f5⟩:=hf it (by simp)
  have W:=Walks.range (prog:=X.prog) (w:=X.w) (I.ok.hd hc) it lo 1 n;refine W.item i s _ _ hg st λv h' tk hv ag kk=>?_;obtain ⟨t,rfl⟩:=hv;have I1:Inv X pins σ H {s with heap:=h',toks:=tk}:=I.turned (λb o hb e=>kk b o (by simpa using hb) e) f0 f1 f3 f4 f5
  refine ⟨_,rfl,Bz (s:={s with heap:=h',toks:=tk}) (n:="range_iterator") ag rfl rfl (by decide) ⟨.int (lo+i),H,I1,⟨t,?_⟩,⟨rfl,rfl⟩,ag,λb hb=>(hf b hb).1⟩⟩
  rw [Int.mul_one]
 done:=by
  intro X hP hw hK hc i pins s σ H E I hf st hg;subst hP hw hK;obtain ⟨f0,f1,f2,f3,f4,f5⟩:=hf it (by simp)
  exact wpAny_pyNext_range_end (I.ok.hd hc) st (by have:n≤i:=hg;omega) λh' eb=>⟨rfl,I.turned (t':=s.toks) (λb o hb e=>eb b o hb e) f0 f1 f3 f4 f5⟩
 self:=λ_ _ _ _ _ st h=>wpAny_pyIter_rangeiter st h
section
variable {X:Cx} {tg:Expr}
def Ph(K:PySem.W.Frag)(tl:TE):TI:=λσ H R=>tl σ H λx H1=>∃a,x= .ref a∧(∃xs,aG K H1 a xs)∧R (Ek K a) H1
def Ua(K:PySem.W.Frag)(tl:TE):TI:=λσ H R=>tl σ H λx H1=>∃a,x= .ref a∧(∃xs,cJ K H1 a xs)∧R (Nv K a) H1
theorem jV{l:Expr}{tl:TE}(hl:PE X l tl):PI X tg l (Ph X.K tl):=by
 intro pins s σ H R I h;refine thn (hl pins s σ H _ I h) λv s1 ⟨x,H1,I1,r1,q1⟩=>?_;obtain ⟨a,e,⟨xs,hq⟩,q⟩:=q1;subst e;cases r1;obtain ⟨its,rv,p,hz⟩:=I1.list hq;refine wpAny_pyIter_list p.isList ?_;refine ⟨s1.heap.objs.size,[s1.heap.objs.size],_,_,H1,rfl,I1.kept (t':=s1.toks) λb o e=>Heap.get?_push_of_some _ e,CT a _,⟨_,Heap.get?_push_size _ rfl,rfl,rfl⟩,λb hb=>?_,q⟩;have e:b=s1.heap.objs.size:=by simpa using hb
 subst e;exact I1.Dy (aV _) (I1.hok.fresh (aV _))
theorem Lr{l:Expr}{tl:TE}(hl:PE X l tl):PI X tg l (Ua X.K tl):=by
 intro pins s σ H R I h;refine thn (hl pins s σ H _ I h) λv s1 ⟨x,H1,I1,r1,q1⟩=>?_;obtain ⟨a,e,⟨xs,hq⟩,q⟩:=q1;subst e;cases r1;obtain ⟨its,rv,p,hz⟩:=I1.tuple hq;refine wpAny_pyIter_tuple (show s1.heap.IsTuple a its.toArray from p) ?_;refine ⟨s1.heap.objs.size,[s1.heap.objs.size],_,_,H1,rfl,I1.kept (t':=s1.toks) λb o e=>Heap.get?_push_of_some _ e,AR a _,⟨_,Heap.get?_push_size _ rfl,rfl,rfl⟩,λb hb=>?_,q⟩;have e:b=s1.heap.objs.size:=by simpa using hb
 subst e;exact I1.Dy (aV _) (I1.hok.fresh (aV _))
theorem wX{pins:List (Addr×Obj)}{σ:St}{H:Hp}{s:Shared}{R:It→Hp→Prop}{E:Value→Shared→Prop}{lo hi:Int}{t u v:Tok}{tk:Nat}(I:Inv X pins σ H s)(h1: -(2^62)≤lo)(h2:lo<2^62)(h3: -(2^62)≤hi)(h4:hi<2^62)
  (q:R (zl lo (hi-lo).toNat) H):wpAny (model X.prog X.w) X.A (pyIter (.ref s.heap.objs.size)) (QF X pins σ tg R) E {s with heap:=s.heap.push {cls:= .type "range",data:= .fields #[.int lo t, .int hi u, .int 1 v]},toks:=tk}:=by
 refine wpAny_pyIter_range (IsRange.new ..) (small_one h1 h2 h3 h4) ?_;have I1:Inv X pins σ H {s with heap:=s.heap.push {cls:= .type "range",data:= .fields #[.int lo t, .int hi u, .int 1 v]},toks:=tk}:=I.kept λb o e=>Heap.get?_push_of_some _ e
 refine ⟨(s.heap.push {cls:= .type "range",data:= .fields #[.int lo t, .int hi u, .int 1 v]}).objs.size,[(s.heap.push {cls:= .type "range",data:= .fields #[.int lo t, .int hi u, .int 1 v]}).objs.size],_,_,H,rfl,
  I1.kept (t':=tk) λb o e=>Heap.get?_push_of_some _ e,AQ _ lo (hi-lo).toNat,?_,λb hb=>?_,q⟩
 ·have e1:lo+((0:Nat):Int)*1=lo:=by simp
  have e2:(((hi-lo).toNat:Nat):Int)-((0:Nat):Int)=Builtin.Range.rangeSize lo hi 1:=by rw [rangeSize_one];split<;>omega
  show IsRangeIter _ _ (lo+((0:Nat):Int)*1) ((((hi-lo).toNat:Nat):Int)-((0:Nat):Int)) 1;rw [e1,e2];exact Heap.get?_push_size _ rfl
 ·have e:b=(s.heap.push {cls:= .type "range",data:= .fields #[.int lo t, .int hi u, .int 1 v]}).objs.size:=by simpa using hb
  subst e;exact I1.Dy (aV _) (I1.hok.fresh (aV _))
def Pj(ta:TA):TI:=λσ H R=>ta σ H λvs H1=>∃j:Int,vs= [.int j]∧-(2^62)≤j∧j<2^62∧R (zl 0 j.toNat) H1
def Pk(ta:TA):TI:=λσ H R=>ta σ H λvs H1=>∃i j:Int,vs= [.int i, .int j]∧(-(2^62)≤i∧i<2^62∧-(2^62)≤j∧j<2^62)∧R (zl i (j-i).toNat) H1
theorem kD{a:Expr}{ta:TA}{p pos:Pos}(hg:Gl X "range")(hm:X.mg "range"=none)(ha:PA X [a] ta)(hs:starEach [a] X.env= [(false,eval a X.env)]:=by rfl):PI X tg (.Call (.Name "range" p) [a] [] pos) (Pj ta):=by
 intro pins s σ H R I h;refine Call_ (kn I hg hm boot_range (PyProof.Rows.callWith_type1 (thn (ha pos pins s σ H _ I h) λus s1 ⟨vs,H1,I1,r1,q1⟩=>?_) hs rfl));obtain ⟨j,e,q1,q2,q⟩:=q1;subst e;cases r1 with
 |cons r rr=>
  cases rr;obtain ⟨t,rfl⟩:=r;exact call_range_1 (wX I1 (by omega) (by omega) q1 q2 (by simpa using q))
theorem Cp{a b:Expr}{ta:TA}{p pos:Pos}(hg:Gl X "range")(hm:X.mg "range"=none)(ha:PA X [a,b] ta)(hs:starEach [a,b] X.env= [(false,eval a X.env),(false,eval b X.env)]:=by rfl)(qD:starEach [b] X.env= [(false,eval b X.env)]:=by rfl):
  PI X tg (.Call (.Name "range" p) [a,b] [] pos) (Pk ta):=by
 intro pins s σ H R I h;refine Call_ (kn I hg hm boot_range (PyProof.Rows.callWith_type1 (thn (ha pos pins s σ H _ I h) λus s1 ⟨vs,H1,I1,r1,q1⟩=>?_) (by rw [hs,qD]) (by rw [qD];rfl)))
 obtain ⟨i,j,e,⟨q1,q2,q3,q4⟩,q⟩:=q1;subst e;cases r1 with
 |cons r rr=>
  cases rr with
  |cons r' rr=>
   cases rr;obtain ⟨t,rfl⟩:=r;obtain ⟨t',rfl⟩:=r';exact call_range_2 (wX I1 q1 q2 q3 q4 q)
def WE(wi:TI)(g:TG)(tb:TS):TS:=λD σ H=>wi σ H λJ H1=>∃W:Nat→Nat→St→Hp→Prop,(∃m,W 0 m σ H1)∧∀i m σ H,W i m σ H→
 (J.stop i H∧D.nx σ H)∨(J.go i H∧∃N:St→Hp→Prop,(∀av H',N av H'→∃m',m'<m∧W (i+1) m' av H')∧∀x H',J.yld i H x H'→g x σ H' λcy H2=>tb {D with nx:=N,ct:=N,bk:=D.nx} cy H2)
def kE(fp:List Addr)(h:Heap):List (Addr×Obj):=fp.filterMap λb=>(h.get? b).map λo=>(b,o)
theorem dH{fp:List Addr}{h:Heap}{b:Addr}{o:Obj}(hb:b∈fp)(e:h.get? b=some o):(b,o)∈kE fp h:=List.mem_filterMap.mpr ⟨b,hb,by rw [e];rfl⟩
theorem Cd{fp:List Addr}{h:Heap}{p:Addr×Obj}(hp:p∈kE fp h):p.1∈fp∧h.get? p.1=some p.2:=by
 obtain ⟨b,hb,e⟩:=List.mem_filterMap.mp hp;cases q:h.get? b with
 |none=>rw [q] at e;cases e
 |some o=>
  rw [q] at e;have e':(b,o)=p:=Option.some.inj e;subst e';exact ⟨hb,q⟩
theorem Inv.pinned{pins:List (Addr×Obj)}{σ:St}{H:Hp}{s:Shared}{fp:List Addr}(I:Inv X pins σ H s)(hf:∀b∈fp,fO X pins H b)(ho:∀b∈fp,∃o,s.heap.get? b=some o∧∀v,o.data≠ .cell v):Inv X (pins++kE fp s.heap) σ H s:=
 I.pW λp hp=>(b9.mp hp).elim (λz=>I.pin p (cL _ z)) λz=>by
  obtain ⟨hb,e⟩:=Cd z;obtain ⟨f0,f1,f2,_⟩:=hf p.1 hb;obtain ⟨o,e',d⟩:=ho p.1 hb;rw [e] at e';cases e';exact ⟨e,f0,f1,f2,d⟩
theorem Inv.iJ{pins pl:List (Addr×Obj)}{σ:St}{H:Hp}{s:Shared}(I:Inv X (pins++pl) σ H s):Inv X pins σ H s:=I.pW λp hp=>I.pin p (cL _ (fj _ hp))
theorem iB{iter:Expr}{body:List Stmt}{wi:TI}{g:TG}{tb:TS}{pos:Pos}(hp:PassesOwn (model X.prog X.w) X.A X.env X.xe)(hc:X.calm=true)(hi:PI X tg iter wi)(hg:PG X tg g)(hb:kY X body tb)
  (hs:∀x,foldedSetIterable iter X.env x=pure x:=by intro _;rfl):PS X (.For tg iter body [] pos) (WE wi g tb):=by
 intro pins s σ H D I h;refine wpAny_For (thn (hi pins s σ H _ I h) λv s1 h1=>thn h1 λz8 s2 h2=>?_) hs;obtain ⟨it,fp,tn,J,H2,e,I2,T,kI,f2,W,⟨m0,w0⟩,turn⟩:=h2;subst e;have stat:∀{H':Hp},(∀b∈fp,H' b=none)→∀b∈fp,fO X pins H' b:=λhn b hb=>⟨hn b hb,(f2 b hb).2⟩;refine codeAny_forLoop_any (λn s'=>∃i av H',Inv X pins av H' s'∧tn i s'.heap∧(∀b∈fp,H' b=none)∧W i n av H') ?_ m0 ⟨0,σ,H2,I2,kI,λb hb=>(f2 b hb).1,w0⟩;rintro n s3 ⟨i,sQ,H3,I3,sN,SA,w3⟩
 rcases turn i n sQ H3 w3 with ⟨stop,qn⟩ | ⟨go,N,hN,step⟩
 ·refine wpAny_passesOwn hp (thn (T.done X rfl rfl rfl hc i pins s3 sQ H3 X.xe I3 (stat SA) sN stop) λr s4 ⟨hr,I4⟩=>?_)
  subst hr;exact wpAny_execs_nil ⟨sQ,H3,I4,qn⟩
 ·refine wpAny_passesOwn hp (thn (T.item X rfl rfl rfl hc i pins s3 sQ H3 X.xe I3 (stat SA) sN go) λr s4 ⟨u,hr,h4⟩=>?_)
  subst hr;refine wpAny_passesOwn hp (thn h4 λ_ s5 ⟨x,H5,I5,r5,y5,sO,oh⟩=>?_);have Nu:=I5.pinned (stat oh) (T.obj _ _ sO);refine wpAny_passesOwn hp (thn (hg _ s5 sQ H5 x u _ Nu r5 (step x H5 y5)) λ_ s6 ⟨σ6,H6,I6,q6⟩=>?_);refine wpAny_passesOwn hp (thn (hb _ s6 σ6 H6 _ I6 q6) λf s7 q7=>?_)
  have again:∀{qt:St}{H7:Hp},Inv X (pins++kE fp s5.heap) qt H7 s7→N qt H7→∃m,m<n∧∃i av H',Inv X pins av H' s7∧tn i s7.heap∧(∀b∈fp,H' b=none)∧W i m av H':=λ {qt H7} I7 n7=>by
   obtain ⟨m',hm,w7⟩:=hN qt H7 n7;refine ⟨m',hm,i+1,qt,H7,I7.iJ,T.keep _ _ _ sO λb hb o e=>(I7.pin (b,o) (cL _ (cL _ (dH hb e)))).1,λb hb=>?_,w7⟩;obtain ⟨o,e,d⟩:=T.obj _ _ sO b hb;exact (I7.pin (b,o) (cL _ (cL _ (dH hb e)))).2.1
  cases f with
  |next=>obtain ⟨qt,H7,I7,n7⟩:=q7;exact again I7 n7
  |cont=>obtain ⟨qt,H7,I7,n7⟩:=q7;exact again I7 n7
  |brk=>obtain ⟨qt,H7,I7,q7⟩:=q7;exact ⟨qt,H7,I7.iJ,q7⟩
  |ret v=>obtain ⟨x7,qt,H7,I7,r7,q7⟩:=q7;exact ⟨x7,qt,H7,I7.iJ,r7,q7⟩
end
theorem EH{K:PySem.W.Frag}{a:Addr}{xs:List V}{g:TG}{tb:TS}{D:Ends}{σ:St}{H:Hp}(Pv:Nat→St→Hp→Prop)(h0:Pv 0 σ H)(hl:∀i σ H,i≤xs.length→Pv i σ H→aG K H a xs)
  (hs:∀i x σ H,xs[i]? =some x→Pv i σ H→g x σ H λcy H2=>tb {D with nx:=Pv (i+1),ct:=Pv (i+1),bk:=D.nx} cy H2) (hd:∀σ H,Pv xs.length σ H→D.nx σ H):
  ∃W:Nat→Nat→St→Hp→Prop,(∃m,W 0 m σ H)∧∀i m σ H,W i m σ H→
   ((Ek K a).stop i H∧D.nx σ H)∨((Ek K a).go i H∧∃N:St→Hp→Prop,(∀av H',N av H'→∃m',m'<m∧W (i+1) m' av H')∧∀x H',(Ek K a).yld i H x H'→g x σ H' λcy H2=>tb {D with nx:=N,ct:=N,bk:=D.nx} cy H2):=by
 refine ⟨λi m σ H=>m=xs.length-i∧i≤xs.length∧Pv i σ H,⟨xs.length,by simp,cZ _,h0⟩,?_⟩
 rintro i m σ H ⟨rfl,hi,p⟩;have q:=hl i σ H hi p
 by_cases bx:i<xs.length
 ·refine .inr ⟨⟨xs,xs[i],q,by simp [bx]⟩,Pv (i+1),λav H' p'=>⟨xs.length-(i+1),by omega,rfl,bx,p'⟩,λx H' y=>?_⟩
  obtain ⟨e,y⟩:=y;subst e;exact hs i x σ _ (y xs q) p
 ·have e:i=xs.length:=by omega
  subst e;exact .inl ⟨⟨xs,q,aV _⟩,hd σ H p⟩
theorem kg{lo:Int}{n:Nat}{g:TG}{tb:TS}{D:Ends}{σ:St}{H:Hp}(Pv:Nat→St→Hp→Prop)(h0:Pv 0 σ H)
  (hs:∀i σ H,i<n→Pv i σ H→g (.int (lo+i)) σ H λcy H2=>tb {D with nx:=Pv (i+1),ct:=Pv (i+1),bk:=D.nx} cy H2) (hd:∀σ H,Pv n σ H→D.nx σ H):
  ∃W:Nat→Nat→St→Hp→Prop,(∃m,W 0 m σ H)∧∀i m σ H,W i m σ H→
   ((zl lo n).stop i H∧D.nx σ H)∨((zl lo n).go i H∧∃N:St→Hp→Prop,(∀av H',N av H'→∃m',m'<m∧W (i+1) m' av H')∧∀x H',(zl lo n).yld i H x H'→g x σ H' λcy H2=>tb {D with nx:=N,ct:=N,bk:=D.nx} cy H2):=by
 refine ⟨λi m σ H=>m=n-i∧i≤n∧Pv i σ H,⟨n,by simp,cZ _,h0⟩,?_⟩
 rintro i m σ H ⟨rfl,hi,p⟩
 by_cases bx:i<n
 ·refine .inr ⟨bx,Pv (i+1),λav H' p'=>⟨n-(i+1),by omega,rfl,bx,p'⟩,λx H' y=>?_⟩
  obtain ⟨e,y⟩:=y;subst e y;exact hs i σ _ bx p
 ·have e:i=n:=by omega
  subst e;exact .inl ⟨aV _,hd σ H p⟩
theorem FP{c:TT}{tb:TS}{D:Ends}{σ:St}{H:Hp}(Pv:St→Hp→Prop)(μ:St→Hp→Nat)(h0:Pv σ H)
  (hs:∀σ H,Pv σ H→c σ H λb H1=>if b=true then tb {D with nx:=λav H'=>Pv av H'∧μ av H'<μ σ H,ct:=λav H'=>Pv av H'∧μ av H'<μ σ H,bk:=D.nx} σ H1 else D.nx σ H1)
  (mono:∀σ H Q Q',(∀b H1,Q b H1→Q' b H1)→c σ H Q→c σ H Q'):D9 c tb D σ H:=by
 refine ⟨λm σ H=>m=μ σ H∧Pv σ H,⟨_,rfl,h0⟩,?_⟩;rintro m σ H ⟨rfl,p⟩;refine mono σ H _ _ (λb H1 q=>?_) (hs σ H p);cases b with
 |true=>exact ⟨_,λav H' ⟨p',l⟩=>⟨_,l,rfl,p'⟩,q⟩
 |false=>exact q
abbrev R2:=V→V→Hp→VK→Prop
def OpR(X:Cx)(f:Value→Value→Sem Value)(r:R2):Prop:=
 ∀(pins:List (Addr×Obj))(s:Shared)(σ:St)(H:Hp)(x y:V)(v u:Value)(Q:VK),Inv X pins σ H s→RelV x v→RelV y u→r x y H Q→
  wpAny (model X.prog X.w) X.A (f v u) (EP X pins σ Q) X.xe s
def UnR(X:Cx)(f:Value→Sem Value)(r:V→Hp→VK→Prop):Prop:=
 ∀(pins:List (Addr×Obj))(s:Shared)(σ:St)(H:Hp)(x:V)(v:Value)(Q:VK),Inv X pins σ H s→RelV x v→r x H Q→
  wpAny (model X.prog X.w) X.A (f v) (EP X pins σ Q) X.xe s
def cT(X:Cx)(f:Value)(r:List V→Hp→VK→Prop):Prop:=
 ∀(pins:List (Addr×Obj))(s:Shared)(σ:St)(H:Hp)(xs:List V)(us:List Value)(Q:VK),Inv X pins σ H s→Vals xs us→r xs H Q→
  wpAny (model X.prog X.w) X.A (call f us) (EP X pins σ Q) X.xe s
def QG(X:Cx)(r:V→Hp→(Bool→Hp→Prop)→Prop):Prop:=
 ∀(pins:List (Addr×Obj))(s:Shared)(σ:St)(H:Hp)(x:V)(v:Value)(Q:Bool→Hp→Prop),Inv X pins σ H s→RelV x v→r x H Q→
  wpAny (model X.prog X.w) X.A (truthy v) (TP X pins σ Q) X.xe s
def y2(r:R2)(ta tb:TE):TE:=λσ H Q=>ta σ H λx H1=>tb σ H1 λy H2=>r x y H2 Q
def tUn(r:V→Hp→VK→Prop)(ta:TE):TE:=λσ H Q=>ta σ H λx H1=>r x H1 Q
def rI(C:Int→Int→Prop)(g:Int→Int→V):R2:=λx y H Q=>∃i j,x= .int i∧y= .int j∧C i j∧Q (g i j) H
def Cy(g:Int→Int→V):R2:=λx y H Q=>∃i j,x= .int i∧y= .int j∧Q (g i j) H
def rU(g:Int→V):V→Hp→VK→Prop:=λx H Q=>∃i,x= .int i∧Q (g i) H
section
variable {X:Cx} {a b c:Expr} {ta tb tc:TE} {pos:Pos}
theorem F8(ha:PE X a ta)(hb:PE X b tb){pins:List (Addr×Obj)}{s:Shared}{σ:St}{H:Hp}{R:V→V→Hp→Prop}(I:Inv X pins σ H s)
  (h:ta σ H λx H1=>tb σ H1 λy H2=>R x y H2) {Q:Value→Shared→Prop} {f:Value→Value→Sem Value}
  (hf:∀v u s2 x y H2,Inv X pins σ H2 s2→RelV x v→RelV y u→R x y H2→wpAny (model X.prog X.w) X.A (f v u) Q X.xe s2):
  wpAny (model X.prog X.w) X.A (eval a X.env) (λv s₁=>wpAny (model X.prog X.w) X.A (eval b X.env) (λu D7=>wpAny (model X.prog X.w) X.A (f v u) Q X.xe D7) X.xe s₁) X.xe s:=by
 refine thn (ha pins s σ H _ I h) λv s1 ⟨x,H1,I1,r1,q1⟩=>?_;refine thn (hb pins s1 σ H1 _ I1 q1) λu s2 ⟨y,H2,I2,r2,q2⟩=>?_;exact hf v u s2 x y H2 I2 r1 r2 q2
theorem bZ{op:Operator}{r:R2}(ho:OpR X (binaryOp op) r)(ha:PE X a ta)(hb:PE X b tb):PE X (.BinOp a op b pos) (y2 r ta tb):=by
 intro pins s σ H Q I h;exact wpAny_BinOp (F8 ha hb I h λv u s2 x y H2 I2 rx ry q=>ho pins s2 σ H2 x y v u Q I2 rx ry q)
theorem PY{op:UnaryOp}{r:V→Hp→VK→Prop}(ho:UnR X (unaryOp op) r)(ha:PE X a ta):PE X (.UnaryOp op a pos) (tUn r ta):=by
 intro pins s σ H Q I h;exact UnaryOp_ (thn (ha pins s σ H _ I h) λv s1 ⟨x,H1,I1,r1,q1⟩=>ho pins s1 σ H1 x v Q I1 r1 q1)
theorem Lf{f:Value→Value→Sem Value}{C:Int→Int→Prop}{g:Int→Int→Int}
  (rule:∀(i j:Int)(t u:Tok)(s:Shared)(Q:Value→Shared→Prop)(E:Value→Shared→Prop),C i j→Q (.int (g i j) s.toks) {s with toks:=s.toks+1}→wpAny (model X.prog X.w) X.A (f (.int i t) (.int j u)) Q E s):
  OpR X f (rI C λi j=> .int (g i j)):=by
 intro pins s σ H x y v u Q I rx ry h;obtain ⟨i,j,rfl,rfl,hc,q⟩:=h;obtain ⟨t,rfl⟩:=rx;obtain ⟨t',rfl⟩:=ry;exact rule i j t t' s _ _ hc ⟨.int (g i j),H,I.tok _,⟨_,rfl⟩,q⟩
theorem VC{f:Value→Value→Sem Value}{g:Int→Int→Int}
  (rule:∀(i j:Int)(t u:Tok)(s:Shared)(Q:Value→Shared→Prop)(E:Value→Shared→Prop),Q (.int (g i j) s.toks) {s with toks:=s.toks+1}→wpAny (model X.prog X.w) X.A (f (.int i t) (.int j u)) Q E s):
  OpR X f (Cy λi j=> .int (g i j)):=by
 intro pins s σ H x y v u Q I rx ry h;obtain ⟨i,j,rfl,rfl,q⟩:=h;obtain ⟨t,rfl⟩:=rx;obtain ⟨t',rfl⟩:=ry;exact rule i j t t' s _ _ ⟨.int (g i j),H,I.tok _,⟨_,rfl⟩,q⟩
theorem IC{f:Value→Value→Sem Value}{g:Int→Int→Bool}
  (rule:∀(i j:Int)(t u:Tok)(s:Shared)(Q:Value→Shared→Prop)(E:Value→Shared→Prop),Q (.bool (g i j)) s→wpAny (model X.prog X.w) X.A (f (.int i t) (.int j u)) Q E s):
  OpR X f (Cy λi j=> .bl (g i j)):=by
 intro pins s σ H x y v u Q I rx ry h;obtain ⟨i,j,rfl,rfl,q⟩:=h;obtain ⟨t,rfl⟩:=rx;obtain ⟨t',rfl⟩:=ry;exact rule i j t t' s _ _ ⟨.bl (g i j),H,I,rfl,q⟩
def FT(i j:Int):Prop:=0<j∧j<1073741824
def Qx(i j:Int):Prop:=0≤j∧j≤1000000∧i.natAbs<2^64
def FU(i j:Int):Prop:=(-(2^64)<i∧i<2^64)∨(-(2^64)<j∧j<2^64)
theorem FU.ok{i j:Int}(h:FU i j):IntMulOk i j:=by
 rcases h with ⟨h1,h2⟩ | ⟨h1,h2⟩
 ·exact .of_left (intBits_le_64 h1 h2)
 ·exact .of_right (intBits_le_64 h1 h2)
theorem gh:OpR X (binaryOp .Add) (Cy λi j=> .int (i+j)):=VC λ_ _ _ _ _ _ _ q=>add_int q
theorem mW:OpR X (binaryOp .Mult) (rI FU λi j=> .int (i*j)):=Lf λ_ _ _ _ _ _ _ hc q=>mul_int q hc.ok
theorem Ao:OpR X (binaryOp .FloorDiv) (rI FT λi j=> .int (i / j)):=Lf λi j _ _ _ _ _ hc q=>by
 have h1:(0:Int)<j:=hc.1;have h2:j<1073741824:=hc.2;exact floordiv_int (by omega) (by rw [Int.fdiv_eq_ediv_of_nonneg i (by omega)];exact q) (.inl (PyProof.noPylong_small (by omega)))
theorem mV:OpR X (binaryOp .Mod) (rI (λ_ j=>0<j) λi j=> .int (i%j)):=Lf λi j _ _ _ _ _ hc q=>by
 have h1:(0:Int)<j:=hc;exact mod_int' (by omega) (by rw [Int.fmod_eq_emod_of_nonneg i (by omega)];exact q)
theorem Li:OpR X (binaryOp .Pow) (rI Qx λi j=> .int (i^j.toNat)):=Lf λ_ _ _ _ _ _ _ hc q=>pow_int_small hc.1 hc.2.1 hc.2.2 q
theorem unI{f:Value→Sem Value}{g:Int→Int}
  (rule:∀(i:Int)(t:Tok)(s:Shared)(Q:Value→Shared→Prop)(E:Value→Shared→Prop),Q (.int (g i) s.toks) {s with toks:=s.toks+1}→wpAny (model X.prog X.w) X.A (f (.int i t)) Q E s):
  UnR X f (rU λi=> .int (g i)):=by
 intro pins s σ H x v Q I rx h;obtain ⟨i,rfl,q⟩:=h;obtain ⟨t,rfl⟩:=rx;exact rule i t s _ _ ⟨.int (g i),H,I.tok _,⟨_,rfl⟩,q⟩
theorem L3:UnR X (unaryOp .USub) (rU λi=> .int (-i)):=unI λ_ _ _ _ _ q=>neg_int q
end
def V8:V→V→Bool
 | .aL, .aL=>true| .aL, .int _=>true| .int _, .aL=>true| .aL, .bl _=>true| .bl _, .aL=>true| .aL, .str _=>true| .str _, .aL=>true
 | .int _, .int _=>true| .bl _, .bl _=>true| .str _, .str _=>true| .sj _, .sj _=>true
 | .int _, .str _=>true| .str _, .int _=>true| .bl _, .str _=>true| .str _, .bl _=>true
 |_,_=>false
def rNe:R2:=λx y H Q=>V8 x y=true∧Q (.bl (!decide (x=y))) H
theorem Gv{i j:Int}:decide (V.int i=V.int j)=(i==j):=by
 rw [xt];simp
theorem Kb{i j:Bool}:decide (V.bl i=V.bl j)=(i==j):=by
 rw [xt];simp
theorem Gw{i j:Str}:decide (V.str i=V.str j)=(i==j):=by
 rw [xt];simp
theorem Gu{i j:Array UInt8}:decide (V.sj i=V.sj j)=(i.toList==j.toList):=by
 rw [xt];cases i;cases j;simp
section
variable {X:Cx} {a b c:Expr} {ta tb tc:TE} {pos:Pos}
theorem cQ{pins:List (Addr×Obj)}{σ:St}{H:Hp}{s:Shared}{Q:VK}{k k':Bool}(I:Inv X pins σ H s)(q:Q (.bl k) H)(e:k=k'):EP X pins σ Q (.bool k') s:=by
 subst e;exact ⟨.bl k,H,I,rfl,q⟩
theorem PR:OpR X (compareOp .NotEq) rNe:=by
 intro pins s σ H x y v u Q I rx ry h;obtain ⟨hs,q⟩:=h;cases x with
 |aL=>
  cases rx;cases y with
  |aL=>cases ry;exact PySem.EqNone.ne_none_none (cQ I q (by simp))
  |bl j=>cases ry;exact PySem.EqNone.ne_none_bool (cQ I q (by simp))
  |int j=>obtain ⟨t',rfl⟩:=ry;exact PySem.EqNone.ne_none_int (cQ I q (by simp))
  |str j=>obtain ⟨t',rfl⟩:=ry;exact PySem.EqNone.ne_none_str (cQ I q (by simp))
  |_=>exact absurd (show false=true from hs) dE
 |bl i=>
  cases rx;cases y with
  |aL=>cases ry;exact PySem.EqNone.ne_bool_none (cQ I q (by simp))
  |bl j=>cases ry;exact ne_bool (cQ I q (congrArg not Kb))
  |str j=>obtain ⟨t',rfl⟩:=ry;exact PySem.EqMixed.ne_bool_str (cQ I q (by simp))
  |_=>exact absurd (show false=true from hs) dE
 |int i=>
  obtain ⟨t,rfl⟩:=rx;cases y with
  |aL=>cases ry;exact PySem.EqNone.ne_int_none (cQ I q (by simp))
  |int j=>obtain ⟨t',rfl⟩:=ry;exact ne_int (cQ I q (congrArg not Gv))
  |str j=>obtain ⟨t',rfl⟩:=ry;exact PySem.EqMixed.ne_int_str (cQ I q (by simp))
  |_=>exact absurd (show false=true from hs) dE
 |str i=>
  obtain ⟨t,rfl⟩:=rx;cases y with
  |aL=>cases ry;exact PySem.EqNone.ne_str_none (cQ I q (by simp))
  |bl j=>cases ry;exact PySem.EqMixed.ne_str_bool (cQ I q (by simp))
  |int j=>obtain ⟨t',rfl⟩:=ry;exact PySem.EqMixed.ne_str_int (cQ I q (by simp))
  |str j=>obtain ⟨t',rfl⟩:=ry;exact ne_str (cQ I q (congrArg not Gw))
  |_=>exact absurd (show false=true from hs) dE
 |sj i=>
  obtain ⟨t,rfl⟩:=rx;cases y with
  |sj j=>obtain ⟨t',rfl⟩:=ry;exact PySem.W.ne_bytes (cQ I q (congrArg not Gu))
  |_=>exact absurd (show false=true from hs) dE
 |_=>cases y<;>exact absurd (show false=true from hs) dE
theorem Cj:OpR X (compareOp .Lt) (Cy λi j=> .bl (decide (i<j))):=IC λ_ _ _ _ _ _ _ q=>lt_int q
theorem PQ:OpR X (compareOp .LtE) (Cy λi j=> .bl (decide (i≤j))):=IC λ_ _ _ _ _ _ _ q=>le_int q
theorem IE:OpR X (compareOp .Gt) (Cy λi j=> .bl (decide (j<i))):=IC λ_ _ _ _ _ _ _ q=>gt_int q
theorem Lh:OpR X (compareOp .Is) (λx y H Q=>y= .aL∧Q (.bl (decide (x= .aL))) H):=by
 intro pins s σ H x y v u Q I rx ry h;obtain ⟨rfl,q⟩:=h;cases ry;refine is_none_gen (cQ I q ?_)
 cases x<;>first
  | (cases rx;rfl)
  | (obtain ⟨t,rfl⟩:=rx;rfl)
theorem IF:OpR X (compareOp .IsNot) (λx y H Q=>y= .aL∧Q (.bl (!decide (x= .aL))) H):=by
 intro pins s σ H x y v u Q I rx ry h;obtain ⟨rfl,q⟩:=h;cases ry;refine isnot_none_gen (cQ I q ?_)
 cases x<;>first
  | (cases rx;rfl)
  | (obtain ⟨t,rfl⟩:=rx;rfl)
theorem OpR.or{f:Value→Value→Sem Value}{r r':R2}(h:OpR X f r)(h':OpR X f r'):OpR X f (λx y H Q=>r x y H Q∨r' x y H Q):=by
 intro pins s σ H x y v u Q I rx ry q
 rcases q with q|q
 ·exact h pins s σ H x y v u Q I rx ry q
 ·exact h' pins s σ H x y v u Q I rx ry q
theorem bK(b:Expr){op:CmpOp}(h:op≠ .In:=by decide)(h2:op≠ .NotIn:=by decide):behindInMarks op b=false:=by
 have e1:(op==CmpOp.In)=false:=by cases op<;>first|rfl|exact absurd rfl h
 have e2:(op==CmpOp.NotIn)=false:=by cases op<;>first|rfl|exact absurd rfl h2
 cases b<;>simp [behindInMarks,e1,e2]
theorem As{op:CmpOp}{r:R2}(ho:OpR X (compareOp op) r)(ha:PE X a ta)(hb:PE X b tb)(hm:behindInMarks op b=false):PE X (.Compare a [op] [b] pos) (y2 r ta tb):=by
 intro pins s σ H Q I h;exact wpAny_Compare1 (F8 ha hb I h λv u s2 x y H2 I2 rx ry q=>ho pins s2 σ H2 x y v u Q I2 rx ry q) hm
def CM(t:TE):TT:=λσ H Q=>t σ H λx H'=>∃k,x= .bl k∧Q k H'
theorem gU{op:CmpOp}{r:R2}(ho:OpR X (compareOp op) r)(ha:PE X a ta)(hb:PE X b tb)(hm:behindInMarks op b=false):PT X (.Compare a [op] [b] pos) (CM (y2 r ta tb)):=by
 intro pins s σ H Q I h
 refine wpAny_isTrue_Compare1 (thn (ha pins s σ H _ I h) λv s1 ⟨x,H1,I1,r1,q1⟩=>thn (hb pins s1 σ H1 _ I1 q1) λu s2 ⟨y,H2,I2,r2,q2⟩=>
  thn (ho pins s2 σ H2 x y v u _ I2 r1 r2 q2) λc s3 ⟨z,H3,I3,r3,k,e,q3⟩=>?_) hm
 subst e;cases r3;exact wpAny_truthy_bool ⟨H3,I3,q3⟩
def y1(r r':R2)(ta tb tc:TE):TE:=λσ H Q=>ta σ H λx H1=>tb σ H1 λy H2=>r x y H2 λz H3=>∃k,z= .bl k∧
 (if k=true then tc σ H3 λw' H4=>r' y w' H4 Q else Q (.bl false) H3)
theorem Fq{op oK:CmpOp}{r r':R2}(ho:OpR X (compareOp op) r)(jx:OpR X (compareOp oK) r')(ha:PE X a ta)(hb:PE X b tb)(hc:PE X c tc)
  (hm:lastMarks [op,oK] [b,c]=false:=by with_unfolding_all rfl):PE X (.Compare a [op,oK] [b,c] pos) (y1 r r' ta tb tc):=by
 intro pins s σ H Q I h
 refine Compare_chain (thn (ha pins s σ H _ I h) λv s1 ⟨x,H1,I1,r1,q1⟩=>chain_link (thn (hb pins s1 σ H1 _ I1 q1) λu s2 ⟨y,H2,I2,r2,q2⟩=>
  thn (ho pins s2 σ H2 x y v u _ I2 r1 r2 q2) λd s3 ⟨z,H3,I3,r3,k,e,q3⟩=>?_)) hm
 subst e;cases r3;refine wpAny_truthy_bool ?_;cases k with
 |false=>exact ite_ff ⟨.bl false,H3,I3,rfl,q3⟩
 |true=>exact ite_tt (chain_last (thn (hc pins s3 σ H3 _ I3 q3) λw' s4 ⟨z',H4,I4,r4,q4⟩=>jx pins s4 σ H4 y z' u w' Q I4 r2 r4 q4))
theorem Fx{op oK:CmpOp}{r r':R2}(ho:OpR X (compareOp op) r)(jx:OpR X (compareOp oK) r')(ha:PE X a ta)(hb:PE X b tb)(hc:PE X c tc)
  (hm:lastMarks [op,oK] [b,c]=false:=by with_unfolding_all rfl):PT X (.Compare a [op,oK] [b,c] pos) (CM (y1 r r' ta tb tc)):=by
 intro pins s σ H Q I h
 refine isTrue_chain (thn (ha pins s σ H _ I h) λv s1 ⟨x,H1,I1,r1,q1⟩=>test_link (thn (hb pins s1 σ H1 _ I1 q1) λu s2 ⟨y,H2,I2,r2,q2⟩=>
  thn (ho pins s2 σ H2 x y v u _ I2 r1 r2 q2) λd s3 ⟨z,H3,I3,r3,k,e,q3⟩=>?_)) hm
 subst e;cases r3;refine wpAny_truthy_bool ?_;cases k with
 |false=>
  obtain ⟨k',e',q'⟩:=q3;cases e';exact ite_ff ⟨H3,I3,q'⟩
 |true=>
  refine ite_tt (test_last (thn (hc pins s3 σ H3 _ I3 q3) λw' s4 ⟨z',H4,I4,r4,q4⟩=>thn (jx pins s4 σ H4 y z' u w' _ I4 r2 r4 q4) λd' s5 ⟨z2,H5,I5,r5,k2,e2,q5⟩=>?_));subst e2;cases r5;exact wpAny_truthy_bool ⟨H5,I5,q5⟩
def Mc(K:PySem.W.Frag)(x:V)(H:Hp)(k:Bool):Prop:=
 match x with
 | .aL=>k=false
 | .bl b=>k=b
 | .int i=>k=(i !=0)
 | .str y=>y.length≤sizeLine∧k=((y.length:Int) !=0)
 | .sj y=>y.size≤sizeLine∧k=((y.size:Int) !=0)
 | .ref p=>(∃xs,aG K H p xs∧k= !xs.isEmpty)∨(∃xs,cJ K H p xs∧k= !xs.isEmpty)∨∃dS,H p=some (.dK dS)∧k= !dS.isEmpty
 |_=>False
theorem z6{κ:Type}{dS:List (κ×V)}{vs:List (κ×Value)}(r:KV dS vs):(!vs.isEmpty)= !dS.isEmpty:=by
 cases r<;>rfl
theorem rG{xs:List V}{its:List Value}(r:Vals xs its):(!its.toArray.isEmpty)= !xs.isEmpty:=by
 cases r<;>simp
theorem kq:(sizeLine:Nat)<2^63:=by rw [sizeLine_eq];decide
theorem L0:QG X (λx H Q=>∃k,Mc X.K x H k∧Q k H):=by
 intro pins s σ H x v Q I rx h;obtain ⟨k,e,q⟩:=h;have hl:=kq;have hs:sizeLine=16777216:=sizeLine_eq;cases x with
 |aL=>
  cases rx;have e':k=false:=e;subst e';exact truthy_none ⟨H,I,q⟩
 |bl b=>
  cases rx;have e':k=b:=e;subst e';exact wpAny_truthy_bool ⟨H,I,q⟩
 |int i=>
  obtain ⟨t,rfl⟩:=rx;have e':k=(i !=0):=e;subst e';exact PySem.P.truthy_int ⟨H,I,q⟩
 |str y=>
  obtain ⟨t,rfl⟩:=rx;obtain ⟨hy,e'⟩:y.length≤sizeLine∧k=((y.length:Int) !=0):=e;subst e';exact PySem.P.truthy_str (by omega) ⟨H,I.tok _,q⟩
 |sj y=>
  obtain ⟨t,rfl⟩:=rx;obtain ⟨hy,e'⟩:y.size≤sizeLine∧k=((y.size:Int) !=0):=e;subst e';exact PySem.W.truthy_bytes (by omega) ⟨H,I.tok _,q⟩
 |ref p=>
  cases rx;have e':(∃xs,aG X.K H p xs∧k= !xs.isEmpty)∨(∃xs,cJ X.K H p xs∧k= !xs.isEmpty)∨∃dS,H p=some (.dK dS)∧k= !dS.isEmpty:=e
  rcases e' with ⟨xs,hx,e'⟩ | ⟨xs,hx,e'⟩ | ⟨dS,hx,e'⟩
  ·subst e'
   obtain ⟨its,r,pl,hz⟩:=I.list hx;have hlen:=r.length;exact wpAny_truthy_list pl.isList (by simp only [bO];omega) ⟨H,I.tok _,by rw [rG r];exact q⟩
  ·subst e'
   obtain ⟨its,r,pl,hz⟩:=I.tuple hx;have hlen:=r.length;exact truthy_tuple pl (by simp only [bO];omega) ⟨H,I.tok _,by rw [rG r];exact q⟩
  ·subst e'
   obtain ⟨hz,hS,vs,r,m⟩:dS.length≤sizeLine∧(p==sysModules)=false∧∃vs,KV dS vs∧s.heap.DictOf (uy X.prog X.w) p vs:=I.hok p _ hx;have hlen:dS.length=vs.length:=Paired.length r;exact wpAny_truthy_dict hS m (by omega) ⟨H,I.tok _,by rw [z6 r];exact q⟩
 |_=>exact (show False from e).elim
theorem Fy(ha:PE X a ta)(he:∀whole,isTrue a X.env whole=(do let v ←whole;standAt a.pos;holding [v] (truthy v))):
  PT X a (λσ H Q=>ta σ H λx H'=>∃k,Mc X.K x H' k∧Q k H'):=by
 intro pins s σ H Q I h;exact isTrue_plain (thn (ha pins s σ H _ I h) λv s1 ⟨x,H1,I1,r1,q1⟩=>L0 pins s1 σ H1 x v Q I1 r1 q1) (he _)
theorem vals1{x:V}{us:List Value}(r:Vals [x] us):∃u,us= [u]∧RelV x u:=by
 cases r with
 |cons r1 r2=>cases r2;exact ⟨_,rfl,r1⟩
theorem vals2{x y:V}{us:List Value}(r:Vals [x,y] us):∃u w',us= [u,w']∧RelV x u∧RelV y w':=by
 cases r with
 |cons r1 r2=>
  cases r2 with
  |cons r3 r4=>cases r4;exact ⟨_,_,rfl,r1,r3⟩
theorem tN(hc:X.calm=true):cT X (.builtin "max") (λxs H Q=>∃i j,xs= [.int i, .int j]∧Q (.int (if j>i then j else i)) H):=by
 intro pins s σ H xs us Q I r h;obtain ⟨i,j,rfl,q⟩:=h;obtain ⟨u,w',rfl,⟨t,rfl⟩,⟨t',rfl⟩⟩:=vals2 r;refine max_two_ints (I.ok.hd hc) λh' tk k=>⟨_,H,I.kept k,?_,q⟩
 by_cases hj:j>i
 ·rw [if_pos hj,if_pos hj];exact ⟨_,rfl⟩
 ·rw [if_neg hj,if_neg hj];exact ⟨_,rfl⟩
theorem Bk(hc:X.calm=true):cT X (.builtin "min") (λxs H Q=>∃i j,xs= [.int i, .int j]∧Q (.int (if j<i then j else i)) H):=by
 intro pins s σ H xs us Q I r h;obtain ⟨i,j,rfl,q⟩:=h;obtain ⟨u,w',rfl,⟨t,rfl⟩,⟨t',rfl⟩⟩:=vals2 r;refine min_two_ints (I.ok.hd hc) λh' tk k=>⟨_,H,I.kept k,?_,q⟩
 by_cases hj:j<i
 ·rw [if_pos hj,if_pos hj];exact ⟨_,rfl⟩
 ·rw [if_neg hj,if_neg hj];exact ⟨_,rfl⟩
theorem Bj:cT X (.type "int") (λxs H Q=>(∃i,xs= [.int i]∧Q (.int i) H)∨∃k,xs= [.bl k]∧Q (.int (if k then 1 else 0)) H):=by
 intro pins s σ H xs us Q I r h
 rcases h with ⟨i,rfl,q⟩ | ⟨k,rfl,q⟩
 ·obtain ⟨u,rfl,t,rfl⟩:=vals1 r
  exact call_int_int ⟨.int i,H,I,⟨_,rfl⟩,q⟩
 ·obtain ⟨u,rfl,r1⟩:=vals1 r
  cases r1;exact call_int_bool ⟨.int (if k then 1 else 0),H,I.tok _,⟨_,rfl⟩,q⟩
end
structure tw (h:Heap) (x dx C:Addr) (mA:Str→Option Value):Prop where
 obj:h.get? x=some (PySem.W.instObj C dx)
 ns:h.Ns1 dx mA
 ne:dx≠x
theorem B7{h:Heap}{dx:Addr}{mA:Str→Option Value}(n:h.Ns1 dx mA):∃od,h.get? dx=some od∧∀name,PySem.W.lookIn name od=some (mA name):=by
 obtain ⟨o,es,ep,ho,hd,hk,_,hm⟩:=n;refine ⟨o,ho,λname=>?_⟩;have e:=hm name;unfold nsFind findBy at e;rw [←Array.find?_toList] at e;unfold PySem.W.lookIn;rw [hd];dsimp only
 split
 ·rename_i y q
  rw [q] at e;exact congrArg some e
 ·rename_i q
  rw [q] at e
  have a:es.toList.any (·.refKey)=false:=by
   rw [List.any_eq_false];intro y hy;obtain ⟨z,t,Tt⟩:=hk y (Array.mem_toList_iff.mp hy);simp [DictEntry.refKey,Tt]
  have a':¬es.toList.any (·.refKey)=true:=by rw [a];exact dE
  rw [if_neg a'];exact congrArg some e
theorem tw.look{h:Heap}{x dx C:Addr}{mA:Str→Option Value}(I:tw h x dx C mA):∃od,PySem.W.InstAt h x (PySem.W.instObj C dx) C (some od)∧∀name,PySem.W.lookIn name od=some (mA name):=
 let ⟨od,ho,hl⟩:=B7 I.ns
 ⟨od,⟨I.obj,rfl,rfl,ho⟩,hl⟩
section
variable {prog:Program} {w:World} {A:Around} {E:Value→Shared→Prop} {s:Shared} {K:PySem.W.Frag} {x dx C f:Addr} {mA:Str→Option Value} {name:Str} {v:Value}
theorem get_map{expr:Bool}{Q:Value→Shared→Prop}(X:K.In s.heap)(I:tw s.heap x dx C mA)(hg:PySem.W.plainGet K C name=true)(hh:PySem.W.hasDictIn K C=true)
  (ha:PySem.W.findIn K (.ref C) name=some none) (hv:mA name=some v) (ud:PySem.W.handedIn v=true) (h:Q v {s with toks:=s.toks+1}):
  wpAny (model prog w) A (getAttr (.ref x) name expr) Q E s:=by
 obtain ⟨od,J,hl⟩:=I.look;exact PySem.W.get_value X J (PySem.W.plainGet_of hg).1 (PySem.W.findObj_own hh ha rfl (by rw [hl,hv])) ud h
theorem EJ{pl:Sem Bool}{Q:Value×List Value→Shared→Prop}(X:K.In s.heap)(I:tw s.heap x dx C mA)(hg:PySem.W.plainGet K C name=true)
  (hf:PySem.W.findIn K (.ref C) name=some (some (.ref f))) (ht:PySem.W.isFn K (.ref f)=true) (hv:mA name=none) (h:Q (.ref f,[.ref x]) s):
  wpAny (model prog w) A (getMethod (.ref x) name pl) Q E s:=by
 obtain ⟨od,J,hl⟩:=I.look;exact PySem.W.method_fn X J (PySem.W.plainGet_of hg).1 (PySem.W.plainGet_of hg).2 hf (beq_iff_eq.mp ht) (by show (PySem.W.lookIn name od).map (·.isSome)=some false;rw [hl,hv];rfl) h
theorem Jp{ns:List Str}{Q:Unit→Shared→Prop}(X:K.In s.heap)(I:tw s.heap x dx C mA)
  (hs:PySem.W.findIn K (.ref C) "__setattr__"=some (some (.builtin "object.__setattr__"))) (hp:PySem.W.plainOver K C=true) (ht:PySem.W.takerIn K C name=some none) (hh:PySem.W.hasDictIn K C=true)
  (hw:PySem.Within mA ns) (fI:ns.length≤sizeLine)
  (h:∀h',tw h' x dx C (λy=>if y=name then some v else mA y)→Heap.SameBut dx s.heap h'→Q () {s with heap:=h',toks:=s.toks+2}):
  wpAny (model prog w) A (setAttr (.ref x) name v) Q E s:=by
 obtain ⟨od,J,hl⟩:=I.look;refine PySem.W.set_plain X J hs (PySem.W.osa_open (s:={s with toks:=s.toks+1}) (r:=none) X J hp ht λb=>?_)
 obtain ⟨cd,hc,i8⟩:=PySem.W.any_some hh;have hx:s.heap.get? x=some ⟨.ref C,some dx, .plain, #[]⟩:=I.obj;refine wpAny_bind (wpAny_pure (wpAny_bind (wpAny_bind (wpAny_loadPart hx (wpAny_bind (PySem.W.Looks.here (s:={s with toks:=s.toks+1}) (PySem.W.looks_clsIn X hc) ?_))))))
 rw [i8];refine wpAny_pure (a:=some dx) (wpAny_bind (wpAny_pure (wpAny_bind ?_)));refine wpAny_nsSet1 (s:={s with toks:=s.toks+1}) I.ns λh' vM qD=>?_
 obtain ⟨oD,esD,epD,Zp,Y1,YX⟩:=vM.count (PySem.Within.cons name v hw);refine wpAny_bind (wpAny_lookBehind Zp (by rw [Y1];exact pastItsLine_dict (j5 YX (by rw [cv];omega))) ?_)
 exact wpAny_pure (h _ ⟨(qD.2 _ (Ne.symm I.ne)).trans I.obj,vM,I.ne⟩ qD)
theorem Fg{R:Result→Shared→Prop}{vs:List Value}{kw:List (Str×Value)}(X:K.In s.heap)(hm:PySem.W.makesIn K C=true)
  (hi:PySem.W.findIn K (.ref C) "__init__"=some (some (.ref f))) (hf:PySem.W.typeIn K (.ref f)=some (.type "function"))
  (h:codeAny (model prog w) (A.under (.builtin "type.__call__" ⟨.ref C::vs,kw⟩)) (.call (.ref f) ⟨.ref (s.heap.objs.size+1)::vs,kw⟩) (PySem.W.InitBack (s.heap.objs.size+1) R)
   {s with heap:=(s.heap.push PySem.W.emptyDict).push (PySem.W.instObj C s.heap.objs.size)}):
  codeAny (model prog w) A (.call (.ref C) ⟨vs,kw⟩) R s:=by
 obtain ⟨hh,g,d,t,os⟩:=s;exact PySem.W.make_core (PySem.W.makes_of X hm) (PySem.W.looks_findIn X hi) (λself=>PySem.W.bind_fn X self hf) (.inl rfl) h
end
def ij(f:Str)(v:V):List (Str×V)→List (Str×V)
 | []=> [(f,v)]
 | (g,x)::r=>if g=f then (g,v)::r else (g,x)::ij f v r
theorem pQ(f g:Str)(v:V):∀fs:List (Str×V),(ij f v fs).lookup g=if g=f then some v else fs.lookup g
 | []=>by
  show List.lookup g [(f,v)]=_
  by_cases h:g=f
  ·have hb:(g==f)=true:=beq_iff_eq.mpr h
   simp only [List.lookup,hb,if_pos h]
  ·have hb:(g==f)=false:=beq_eq_false_iff_ne.mpr h
   simp only [List.lookup,hb,if_neg h]
 | (k,x)::r=>by
  have ih:=pQ f g v r;rw [show ij f v ((k,x)::r)=(if k=f then (k,v)::r else (k,x)::ij f v r) from rfl]
  by_cases hk:k=f
  ·rw [if_pos hk]
   by_cases h:g=k
   ·have hb:(g==k)=true:=beq_iff_eq.mpr h
    simp only [List.lookup,hb,if_pos (h.trans hk)]
   ·have hb:(g==k)=false:=beq_eq_false_iff_ne.mpr h
    simp only [List.lookup,hb,if_neg (λe:g=f=>h (e.trans hk.symm))]
  ·rw [if_neg hk]
   by_cases h:g=k
   ·have hb:(g==k)=true:=beq_iff_eq.mpr h
    simp only [List.lookup,hb,if_neg (λe:g=f=>hk (h.symm.trans e))]
   ·have hb:(g==k)=false:=beq_eq_false_iff_ne.mpr h
    simp only [List.lookup,hb];exact ih
theorem oz(f:Str)(v:V):∀fs:List (Str×V),f∈(ij f v fs).map (·.1)∧∀g,g∈fs.map (·.1)→g∈(ij f v fs).map (·.1)
 | []=>⟨by simp [ij],λg h=>by simp at h⟩
 | (k,x)::r=>by
  obtain ⟨i1,i2⟩:=oz f v r;rw [show ij f v ((k,x)::r)=(if k=f then (k,v)::r else (k,x)::ij f v r) from rfl]
  by_cases hk:k=f
  ·rw [if_pos hk]
   subst hk;exact ⟨by simp,λg h=>by simpa using h⟩
  ·rw [if_neg hk]
   refine ⟨?_,λg h=>?_⟩
   ·rw [fD]
    exact cn _ i1
   ·rw [fD] at h ⊢
    rcases bE.mp h with e|e
    ·exact bE.mpr (.inl e)
    ·exact cn _ (i2 g e)
theorem pN(f:Str)(v:V):∀fs:List (Str×V),(ij f v fs).length≤fs.length+1
 | []=>by simp [ij]
 | (k,x)::r=>by
  have ih:=pN f v r;rw [show ij f v ((k,x)::r)=(if k=f then (k,v)::r else (k,x)::ij f v r) from rfl]
  by_cases hk:k=f
  ·rw [if_pos hk,cv,cv];omega
  ·rw [if_neg hk,cv,cv];omega
theorem nA.some_of{v:V}{o:Option Value}(r:nA (some v) o):∃u,o=some u∧RelV v u:=by
 cases o with
 |none=>exact (show False from r).elim
 |some u=>exact ⟨u,rfl,r⟩
theorem nA.none_of{o:Option Value}(r:nA none o):o=none:=by
 cases o with
 |none=>rfl
 |some u=>exact (show False from r).elim
theorem BD{v:V}{u:Value}(r:RelV v u):PySem.W.handedIn u=true:=by
 cases v with
 |aL=>cases (show u=Value.none from r);rfl
 |bl b=>cases (show u=Value.bool b from r);rfl
 |int i=>obtain ⟨t,e⟩:=(show ∃t,u=Value.int i t from r);cases e;rfl
 |str x=>obtain ⟨t,e⟩:=(show ∃t,u=Value.str x t from r);cases e;rfl
 |sj b=>obtain ⟨t,e⟩:=(show ∃t,u=Value.bytes b t from r);cases e;rfl
 |Bw b=>obtain ⟨t,e⟩:=(show ∃t,u=Value.float b t from r);cases e;rfl
 |ref a=>cases (show u=Value.ref a from r);rfl
 |ty n=>cases (show u=Value.type n from r);rfl
section
variable {P:Program} {w:World} {H H':Hp} {h h':Heap} {a C dx:Addr} {fs Ov:List (Str×V)}
theorem pK(hok:iq P w H h)(e:H a=some (.ins C dx fs)):∃mA,tw h a dx C mA∧(∀f,nA (fs.lookup f) (mA f))∧PySem.Within mA (fs.map (·.1))∧fs.length≤1000∧H dx=some (.own a):=by
 obtain ⟨d,z,ne,ob,mA,n,r,q⟩:=(show cM P w H h a (.ins C dx fs) from hok a _ e);exact ⟨mA,⟨ob,n,ne⟩,r,q,z,d⟩
end
structure tj (K:PySem.W.Frag) (C:Addr):Prop where
 pg:PySem.W.plainGet K C Str.empty=true
 hd:PySem.W.hasDictIn K C=true
 po:PySem.W.plainOver K C=true
 sa:PySem.W.findIn K (.ref C) "__setattr__"=some (some (.builtin "object.__setattr__"))
theorem tj.get{K:PySem.W.Frag}{C:Addr}(c:tj K C)(f:Str):PySem.W.plainGet K C f=true:=c.pg
def j6(K:PySem.W.Frag)(C:Addr)(f:Str):Prop:=PySem.W.findIn K (.ref C) f=some none
theorem j6.Qo{K:PySem.W.Frag}{C:Addr}{f:Str}(n:j6 K C f):PySem.W.takerIn K C f=some none:=by
 unfold PySem.W.takerIn;rw [show PySem.W.findIn K (.ref C) f=some none from n];rfl
structure Meth (K:PySem.W.Frag) (C:Addr) (m:Str) (f:Addr):Prop where
 at_:PySem.W.findIn K (.ref C) m=some (some (.ref f))
 fn:PySem.W.isFn K (.ref f)=true
 kp:PySem.W.keepIn K (.ref f)=true
section
variable {X:Cx} {pins:List (Addr×Obj)} {σ:St} {H:Hp} {s:Shared} {a C dx:Addr} {fs:List (Str×V)} {f:Str} {v:V} {A:Around} {E:Value→Shared→Prop}
theorem zS{b:Bool}{Q:Value→Shared→Prop}(I:Inv X pins σ H s)(e:H a=some (.ins C dx fs))(c:tj X.K C)(n:j6 X.K C f)(l:fs.lookup f=some v)
  (h:∀u s',Inv X pins σ H s'→RelV v u→Q u s'):wpAny (model X.prog X.w) A (getAttr (.ref a) f b) Q E s:=by
 obtain ⟨mA,O,r,_,_,_⟩:=pK I.hok e;obtain ⟨u,hu,ru⟩:=nA.some_of (v:=v) (o:=mA f) (by rw [←l];exact r f)
 exact get_map I.hU O (c.get f) c.hd n hu (BD ru) (h u _ (I.tok _) ru)
theorem rB{m:Str}{g:Addr}{pl:Sem Bool}{Q:Value×List Value→Shared→Prop}(I:Inv X pins σ H s)(e:H a=some (.ins C dx fs))(c:tj X.K C)(k:Meth X.K C m g)(l:fs.lookup m=none)
  (h:Q (.ref g,[.ref a]) s):wpAny (model X.prog X.w) A (getMethod (.ref a) m pl) Q E s:=by
 obtain ⟨mA,O,r,_,_,_⟩:=pK I.hok e;have hn:mA m=none:=nA.none_of (by rw [←l];exact r m)
 exact EJ I.hU O (c.get m) k.at_ k.fn hn h
theorem AF{y:V}{u:Value}{Q:Unit→Shared→Prop}(I:Inv X pins σ H s)(e:H a=some (.ins C dx fs))(c:tj X.K C)(n:j6 X.K C f)(hl:fs.length<1000)(ry:RelV y u)
  (h:∀s',Inv X pins σ (upd H a (.ins C dx (ij f y fs))) s'→Q () s'):wpAny (model X.prog X.w) A (setAttr (.ref a) f u) Q E s:=by
 obtain ⟨mA,O,r,wi,_,ho⟩:=pK I.hok e;have hz:(fs.map (·.1)).length≤sizeLine:=by rw [aP,sizeLine_eq];omega
 refine Jp I.hU O c.sa c.po n.Qo c.hd wi hz λh' O' sb=>h _ ?_;have hd:∃o,h'.get? dx=some o:=let ⟨o,_,_,e',_⟩:=O'.ns;⟨o,e'⟩;refine I.write (x:=a) (e:=dx) (by rw [e];exact True.intro) (.inr ho) (λb q hb z=>(sb.2 b hb).trans z) hd ?_
 refine ⟨by rw [ab O.ne];exact ho,?_,O.ne,O'.obj,_,O'.ns,λg=>?_,λg hg=>?_⟩
 ·have:=pN f y fs;omega
 ·show nA ((ij f y fs).lookup g) (if g=f then some u else mA g)
  rw [pQ]
  by_cases q:g=f
  ·rw [if_pos q,if_pos q];exact ry
  ·rw [if_neg q,if_neg q];exact r g
 ·by_cases q:g=f
  ·rw [q];exact (oz f y fs).1
  ·refine (oz f y fs).2 g (wi g λz=>hg ?_)
   show (if g=f then some u else mA g)=none;rw [if_neg q];exact z
theorem Inv.made(I:Inv X pins σ H s):Inv X pins σ (upd (upd H s.heap.objs.size (.own (s.heap.objs.size+1))) (s.heap.objs.size+1) (.ins C s.heap.objs.size []))
  {s with heap:=(s.heap.push PySem.W.emptyDict).push (PySem.W.instObj C s.heap.objs.size)}:=by
 have e1:(s.heap.push PySem.W.emptyDict).get? s.heap.objs.size=some PySem.W.emptyDict:=Heap.get?_push_size s.heap rfl
 have e2:((s.heap.push PySem.W.emptyDict).push (PySem.W.instObj C s.heap.objs.size)).get? (s.heap.objs.size+1)=some (PySem.W.instObj C s.heap.objs.size):=by
  have:=Heap.get?_push_size (s.heap.push PySem.W.emptyDict) (o:=PySem.W.instObj C s.heap.objs.size) rfl
  rwa [Heap.size_push] at this
 have e3:(s.heap.push PySem.W.emptyDict).Ns s.heap.objs.size (λ_=>none):=⟨PySem.W.emptyDict, #[],_,e1,rfl,(λe he=>absurd he (by simp)),λ_=>rfl⟩
 have I1:=I.laid (a:=s.heap.objs.size) (o:= .own (s.heap.objs.size+1)) (h':=s.heap.push PySem.W.emptyDict) (t':=s.toks) (λb u q=>Heap.get?_push_of_some _ q) (aV _) ⟨_,e1⟩;refine I1.laid (a:=s.heap.objs.size+1) (o:= .ins C s.heap.objs.size []) (t':=s.toks) (λb u q=>Heap.get?_push_of_some _ q) (Nat.le_of_eq (Heap.size_push _ _)) ?_;have ne:s.heap.objs.size≠s.heap.objs.size+1:=cm (Nat.lt_succ_self _);refine ⟨by rw [ab ne,aa],cZ _,ne,e2,λ_=>none,(Heap.Ns1.of_empty e3).at λo q=>Heap.get?_push_of_some _ q,λ_=>True.intro,λy hy=>absurd rfl hy⟩
theorem F6{prog:Program}{w:World}{env:Env}{e:Expr}{f:Str}{pos:Pos}{s:Shared}{Q:Value→Shared→Prop}(hb:attributeBase e f env (eval e env)=eval e env)
  (h:wpAny (model prog w) A (eval e env) (λo s₁=>wpAny (model prog w) A (getAttr o f true) Q E s₁) E s):wpAny (model prog w) A (eval (.Attribute e f pos) env) Q E s:=
 Attribute_any_ h (by rw [arm_eval_Attribute,hb])
end
def WD(K:PySem.W.Frag)(ta:TE)(f:Str):TE:=λσ H Q=>ta σ H λx H1=>∃a C dx fs v,x= .ref a∧H1 a=some (.ins C dx fs)∧tj K C∧j6 K C f∧fs.lookup f=some v∧Q v H1
def V6(K:PySem.W.Frag)(ta tv:TE)(f:Str):TS:=λD σ H=>tv σ H λy H1=>ta σ H1 λx H2=>∃a C dx fs,x= .ref a∧H2 a=some (.ins C dx fs)∧tj K C∧j6 K C f∧fs.length<1000∧
 D.nx σ (upd H2 a (.ins C dx (ij f y fs)))
section
variable {X:Cx} {o e value:Expr} {f:Str} {pos pos' aam:Pos} {ta tv:TE}
theorem Ll(he:PE X e ta)(hb:attributeBase e f X.env (eval e X.env)=eval e X.env):PE X (.Attribute e f pos) (WD X.K ta f):=by
 intro pins s σ H Q I h;refine F6 hb (thn (he pins s σ H _ I h) λu s1 ⟨x,H1,I1,rx,a,C,dx,fs,v,ex,ea,c,n,l,q⟩=>?_);subst ex;obtain rfl:u=Value.ref a:=rx;exact zS I1 ea c n l λu' s2 I2 ru=>⟨v,H1,I2,ru,q⟩
theorem Lw(ha:PE X o ta)(hv:PE X value tv)(hs:swapsWith value (some (.Attribute o f pos')) pos.line X.env=pure false):PS X (.Assign [.Attribute o f pos'] value pos) (V6 X.K ta tv f):=by
 intro pins s σ H D I h;refine plainObj_wpAny_Assign_Attribute (thn (hv pins s σ H _ I h) λu s1 ⟨y,H1,I1,ry,q⟩=>thn (ha pins s1 σ H1 _ I1 q) λov s2 ⟨x,H2,I2,rx,a,C,dx,fs,ex,ea,c,n,l,q2⟩=>?_) hs;subst ex;obtain rfl:ov=Value.ref a:=rx;exact AF I2 ea c n l ry λs3 I3=>⟨σ,_,I3,q2⟩
end
section
variable {X:Cx} {pins:List (Addr×Obj)} {σ:St} {H:Hp} {s:Shared} {A:Around} {E:Value→Shared→Prop} {Q:Value→Shared→Prop} {c:Value} {b:Bool}
inductive jc (K:PySem.W.Frag) (H:Hp):V→Value→Prop where
 |aL:jc K H .aL (.type "NoneType")
 |bl (x:Bool):jc K H (.bl x) (.type "bool")
 |int (i:Int):jc K H (.int i) (.type "int")
 |str (x:Str):jc K H (.str x) (.type "str")
 |Bw (x:UInt64):jc K H (.Bw x) (.type "float")
 |lst {a:Addr} {xs:List V} (e:H a=some (.lst xs)):jc K H (.ref a) (.type "list")
 |pD {a:Addr} {o:Obj} {xs:List V} (e:H a=some (.pD o (.lst xs))):jc K H (.ref a) (.type "list")
 |tup {a:Addr} {xs:List V} (e:H a=some (.tup xs)):jc K H (.ref a) (.type "tuple")
 |dK {a:Addr} {dS:List (Key×V)} (e:H a=some (.dK dS)):jc K H (.ref a) (.type "dict")
 |dT {a:Addr} {dS:List (List Key×V)} (e:H a=some (.dT dS)):jc K H (.ref a) (.type "dict")
 |ins {a C dx:Addr} {fs:List (Str×V)} (e:H a=some (.ins C dx fs)) (cl:tj K C) (ha:PySem.W.findIn K (.ref C) "__class__"=some (some (.builtin "object.__class__")))
   (hn:PySem.W.specialIn K (.builtin "object.__class__") "__get__"=some (some (.builtin "getset_descriptor.__get__"))) (TZ:PySem.W.takesIn K (.builtin "object.__class__")=some true)
   (hm:PySem.W.mroIn K C (.type "object")=some true):jc K H (.ref a) (.ref C)
theorem BY{x:V}{u t:Value}(I:Inv X pins σ H s)(rx:RelV x u)(ty:jc X.K H x t)(e:PySem.W.kitOne X.K t c=some b)(h:∀tk,Q (.bool b) {s with toks:=tk}):
  wpAny (model X.prog X.w) A (call (.builtin "isinstance") [u,c]) Q E s:=by
 cases ty with
 |aL=>cases (show u=Value.none from rx);exact PySem.W.kia_one PySem.W.kitx_none I.hU True.intro e (λz=>nomatch z) h
 |bl y=>cases (show u=Value.bool y from rx);exact PySem.W.kia_one PySem.W.kitx_bool I.hU True.intro e (λz=>nomatch z) h
 |int i=>obtain ⟨t,q⟩:=(show ∃t,u=Value.int i t from rx);cases q;exact PySem.W.kia_one PySem.W.kitx_int I.hU True.intro e (λz=>nomatch z) h
 |str y=>obtain ⟨t,q⟩:=(show ∃t,u=Value.str y t from rx);cases q;exact PySem.W.kia_one PySem.W.kitx_str I.hU True.intro e (λz=>nomatch z) h
 |Bw y=>obtain ⟨t,q⟩:=(show ∃t,u=Value.float y t from rx);cases q;exact PySem.W.kia_one PySem.W.kitx_float I.hU True.intro e (λz=>nomatch z) h
 | @lst a xs ea=>
  cases (show u=Value.ref a from rx);obtain ⟨_,_,n,_,h1⟩:=(show cM X.prog X.w H s.heap a (.lst xs) from I.hok a _ ea);exact PySem.W.kia_one PySem.W.kitx_list I.hU ⟨_,h1,rfl⟩ e (λz=>nomatch z) h
 | @pD a ob xs ea=>
  cases (show u=Value.ref a from rx);obtain ⟨_,_,_,n,_,h1⟩:=(show cM X.prog X.w H s.heap a (.pD ob (.lst xs)) from I.hok a _ ea);exact PySem.W.kia_one PySem.W.kitx_list I.hU ⟨_,h1,rfl⟩ e (λz=>nomatch z) h
 | @tup a xs ea=>
  cases (show u=Value.ref a from rx);obtain ⟨_,_,_,p⟩:=(show cM X.prog X.w H s.heap a (.tup xs) from I.hok a _ ea);obtain ⟨o,h1,h2,_⟩:=p;exact PySem.W.kia_one PySem.W.kitx_tuple I.hU ⟨o,h1,h2⟩ e (λz=>nomatch z) h
 | @dK a dS ea=>
  cases (show u=Value.ref a from rx);obtain ⟨_,_,vs,_,p⟩:=(show cM X.prog X.w H s.heap a (.dK dS) from I.hok a _ ea);obtain ⟨o,es,ep,h1,h2,_⟩:=p;exact PySem.W.kia_one PySem.W.kitx_dict I.hU ⟨o,h1,h2.1⟩ e (λz=>nomatch z) h
 | @dT a dS ea=>
  cases (show u=Value.ref a from rx);obtain ⟨_,_,xs,_,o,es,ep,h1,h2,_⟩:=(show cM X.prog X.w H s.heap a (.dT dS) from I.hok a _ ea);exact PySem.W.kia_one PySem.W.kitx_dict I.hU ⟨o,h1,h2.1⟩ e (λz=>nomatch z) h
 | @ins a C dx fs ea cl ha hn TZ hm=>
  cases (show u=Value.ref a from rx);obtain ⟨mA,O,_⟩:=pK I.hok ea;obtain ⟨od,J,_⟩:=O.look;exact PySem.W.kia_one (PySem.W.kitx_own (cl.get _) cl.hd ha hn TZ hm) I.hU J e (λz=>nomatch z) h
end
structure cC (k:Nat) (A:Around):Prop where
 hd:A.handled=none
 dp:A.depth+3*k+5<recursionLimit
 un:A.units+16*k+200<cLine
theorem cC.mono{j k:Nat}{A:Around}(r:cC k A)(h:j≤k):cC j A:=⟨r.hd,by have:=r.dp;omega,by have:=r.un;omega⟩
theorem cC.deeper{k:Nat}{A:Around}(r:cC (k+1) A)(env:Env):cC k (A.deeper env):=
 ⟨r.hd,by have:=r.dp;show A.depth+1+3*k+5<_;omega,by have:=r.un;show A.units+3+16*k+200<_;omega⟩
theorem Ag{A:Around}{C:Addr}{us:List Value}{kw:List (Str×Value)}:(A.under (.builtin "type.__call__" ⟨.ref C::us,kw⟩)).depth=A.depth+1:=by
 first|rfl|simp [Around.under,Code.weight,Code.isCreation,Code.isGuard,Code.isCaller,Code.frames,Code.isFrame,guardIds]
theorem Ah{A:Around}{C:Addr}{us:List Value}{kw:List (Str×Value)}:(A.under (.builtin "type.__call__" ⟨.ref C::us,kw⟩)).units=A.units+1:=by
 first|rfl|simp [Around.under,Code.cUnits,Code.frames,Code.isFrame]
theorem cC.make{k:Nat}{A:Around}(r:cC (k+1) A)(C:Addr)(us:List Value)(kw:List (Str×Value)):cC k (A.under (.builtin "type.__call__" ⟨.ref C::us,kw⟩)):=
 ⟨r.hd,by have:=r.dp;rw [Ag];omega,by have:=r.un;rw [Ah];omega⟩
theorem cC.depth{k:Nat}{A:Around}(r:cC k A):A.depth<recursionLimit:=by have:=r.dp;omega
theorem cC.units{k:Nat}{A:Around}(r:cC k A):A.units+64<cLine:=by have:=r.un;omega
def Np:TA:=λ_ H Q=>Q [] H
def Qh(ta:TE)(tr:TA):TA:=λσ H Q=>ta σ H λx H1=>tr σ H1 λxs H2=>Q (x::xs) H2
section
variable {X:Cx} {e:Expr} {es:List Expr} {te:TE} {t:TA} {pos:Pos}
theorem ar:PA X [] Np:=λ_ _ _ _ H Q I h=>Calls.spliced_nil ⟨[],H,I, .nil,h⟩
theorem ae(ha:PE X e te)(hr:PA X es t)(hs:starEach (e::es) X.env=(false,eval e X.env)::starEach es X.env:=by rfl):PA X (e::es) (Qh te t):=by
 intro pos pins s σ H Q I h;rw [hs];show wpAny _ _ (spliced ((false,eval e X.env)::backTo pos (starEach es X.env))) _ _ s;refine Calls.spliced_cons (thn (ha pins s σ H _ I h) λu s1 ⟨x,H1,I1,r1,q1⟩=>?_);exact thn (hr pos pins s1 σ H1 _ I1 q1) λus s2 ⟨xs,H2,I2,r2,q2⟩=>⟨x::xs,H2,I2, .cons r1 r2,q2⟩
def WL(t:TA):TE:=λσ H Q=>t σ H λxs H1=>xs.length≤sizeLine∧∀p,H1 p=none→Q (.ref p) (upd H1 p (.tup xs))
def WH(t:TA):TE:=λσ H Q=>t σ H λxs H1=>xs.length≤sizeLine∧∀p,H1 p=none→Q (.ref p) (upd H1 p (.lst xs))
theorem sV{x1}(h:PA X es t):PE X (.Tuple es x1 pos) (WL t):=by
 intro pins s σ H Q I hq;refine wpAny_Tuple_spliced (thn (h pos pins s σ H _ I hq) λus s1 ⟨xs,H1,I1,r,z,q⟩=>⟨by rw [←r.length];exact z,?_⟩)
 have hf:H1 s1.heap.objs.size=none:=I1.hok.fresh (aV _);refine ⟨.ref s1.heap.objs.size,upd H1 s1.heap.objs.size (.tup xs),I1.laid (t':=s1.toks) (λb u e=>Heap.get?_push_of_some _ e) (aV _) ?_,rfl,q _ hf⟩;exact ⟨z,us,r,⟨_,Heap.get?_push_size _ rfl,rfl,_,rfl⟩⟩
theorem dN(h:PA X es t):PE X (.List es pos) (WH t):=by
 intro pins s σ H Q I hq;refine wpAny_List_spliced (thn (h pos pins s σ H _ I hq) λus s1 ⟨xs,H1,I1,r,z,q⟩=>⟨by rw [←r.length];exact z,?_⟩)
 have hf:H1 s1.heap.objs.size=none:=I1.hok.fresh (aV _);refine ⟨.ref s1.heap.objs.size,upd H1 s1.heap.objs.size (.lst xs),I1.laid (t':=s1.toks) (λb u e=>Heap.get?_push_of_some _ e) (aV _) ?_,rfl,q _ hf⟩;exact ⟨z,us,0,r,Heap.get?_push_size _ rfl⟩
end
abbrev Sp:=List V→Hp→VK→XK→Prop
abbrev qu:=List Env→Hp→Shared→XK→Value→Shared→Prop
structure Env0 (P:Program) (w:World) (K:PySem.W.Frag) (mg:Str→Option Value) (base:Heap) (A:Around) (outer:List Env) (s:Shared) (H:Hp):Prop where
 frames:A.frames=some outer
 mod:Mod K mg base
 bs:∀b o,base.get? b=some o→s.heap.get? b=some o∧H b=none
 bsz:base.objs.size≤s.heap.objs.size
 funs:s.heap.FunFrames base outer
 frf:∀b∈tY outer,H b=none
 hok:iq P w H s.heap
 bare:AllBare s.gens
def CE(outer:List Env)(P:Program)(w:World)(H:Hp)(s:Shared)(Q:VK)(u:Value)(s':Shared):Prop:=
 ∃v H',s'.os=s.os∧AllBare s'.gens∧Un (tY outer) [] H H' s.heap s'.heap∧iq P w H' s'.heap∧RelV v u∧Q v H'
def CR(CX:qu)(outer:List Env)(P:Program)(w:World)(H:Hp)(s:Shared)(Q:VK)(E:XK)(r:Result)(s':Shared):Prop:=
 match r with
 | .ok (.ret u)=>CE outer P w H s Q u s'
 | .ok _=>False
 | .error e=>CX outer H s E e s'
structure FnOk (P:Program) (w:World) (K:PySem.W.Frag) (mg:Str→Option Value) (base:Heap) (CX:qu) (k:Nat) (f:Addr) (fd:FuncData) (ps:List Str) (sp:Sp):Prop where
 len:∀vs H Q E,sp vs H Q E→vs.length=ps.length
 run:∀(A:Around)(outer:List Env)(s:Shared)(H:Hp)(args:Args)(us:List Value)(vs:List V)(Q:VK)(E:XK),cC k A→Env0 P w K mg base A outer s H→BindsTo s fd args (ps.zip us)→Vals vs us→sp vs H Q E→
  codeAny (model P w) A (.call (.ref f) args) (CR CX outer P w H s Q E) s
theorem FnOk.mono{P:Program}{w:World}{K:PySem.W.Frag}{mg:Str→Option Value}{base:Heap}{CX:qu}{j k:Nat}{f:Addr}{fd:FuncData}{ps:List Str}{sp:Sp}(F:FnOk P w K mg base CX j f fd ps sp)(h:j≤k):
  FnOk P w K mg base CX k f fd ps sp:=⟨F.len,λA outer s H args us vs Q E hr=>F.run A outer s H args us vs Q E (hr.mono h)⟩
theorem FnOk.imp{P:Program}{w:World}{K:PySem.W.Frag}{mg:Str→Option Value}{base:Heap}{CX:qu}{k:Nat}{f:Addr}{fd:FuncData}{ps:List Str}{sp Wr:Sp}(F:FnOk P w K mg base CX k f fd ps sp)
  (h:∀vs H Q E,Wr vs H Q E→sp vs H Q E):FnOk P w K mg base CX k f fd ps Wr:=
 ⟨λvs H Q E q=>F.len vs H Q E (h _ _ _ _ q),λA outer s H args us vs Q E hr he hb hv hs=>F.run A outer s H args us vs Q E hr he hb hv (h _ _ _ _ hs)⟩
theorem Env0.make{P:Program}{w:World}{K:PySem.W.Frag}{mg:Str→Option Value}{base:Heap}{A:Around}{outer:List Env}{s:Shared}{H:Hp}(e:Env0 P w K mg base A outer s H)(C:Addr)(us:List Value)(kw:List (Str×Value)):
  Env0 P w K mg base (A.under (.builtin "type.__call__" ⟨.ref C::us,kw⟩)) outer s H:=⟨by first|exact e.frames| (simpa [Around.under,Code.envs,Code.isFrame,pushEnvs] using e.frames),e.mod,e.bs,e.bsz,e.funs,e.frf,e.hok,e.bare⟩
section
variable {X:Cx} {pins:List (Addr×Obj)} {σ:St} {H:Hp} {s s':Shared}
theorem Inv.MD(I:Inv X pins σ H s):Env0 X.prog X.w X.K X.mg X.base X.A X.stack s H:=
 ⟨I.ok.frames,I.ok.mod,I.bs,j5 I.ok.bsz I.sz,I.stack,I.AJ,I.hok,I.bare⟩
theorem Inv.after{Q:VK}{u:Value}(I:Inv X pins σ H s)(h:CE X.stack X.prog X.w H s Q u s'):EP X pins σ Q u s':=by
 obtain ⟨v,H',os,bare,un,hok,r,q⟩:=h;obtain ⟨hh,g,d,t,os'⟩:=s';obtain rfl:os'=s.os:=os;exact ⟨v,H',I.call (h':=hh) (g':=g) (d':=d) (t':=t) (ch:= []) un hok bare (λb z=>absurd z (by simp)),r,q⟩
end
def Qg(sp:Sp)(bB:List V)(E:XK)(t:TA):TE:=λσ H Q=>t σ H λvs H1=>sp (vs++bB) H1 Q E
def CL(C:Addr)(m:Str)(sp:Sp)(bB:List V)(E:XK)(ta:TE)(t:TA):TE:=λσ H Q=>ta σ H λx H1=>∃a dx fs,x= .ref a∧H1 a=some (.ins C dx fs)∧fs.lookup m=none∧
 t σ H1 λvs H2=>sp (x::(vs++bB)) H2 Q E
def Qj(C:Addr)(sp:Sp)(bB:List V)(E:XK)(t:TA):TE:=λσ H Q=>t σ H λvs H1=>∀x dx,H1 x=none→H1 dx=none→dx≠x→
 sp (.ref x::(vs++bB)) (upd (upd H1 dx (.own x)) x (.ins C dx [])) (λv H2=>v= .aL∧Q (.ref x) H2) E
def Binds(K:PySem.W.Frag)(fd:FuncData)(ps:List Str)(ds:List Value):Prop:=
 ∀(s:Shared)(us:List Value),K.In s.heap→(us++ds).length=ps.length→BindsTo s fd ⟨us,[]⟩ (ps.zip (us++ds))
theorem Binds.all{K:PySem.W.Frag}{fd:FuncData}{ps:List Str}(h:∀us:List Value,us.length=ps.length→bindArgs fd ⟨us,[]⟩=pure (ps.zip us)):Binds K fd ps []:=λs us _ hl=>by
 rw [j4] at hl ⊢;exact .of_eq (h us hl)
def Passes(CX:qu)(X:Cx)(E:XK):Prop:=∀(pins:List (Addr×Obj))(σ:St)(H:Hp)(s:Shared)(e:Value)(s':Shared),Inv X pins σ H s→CX X.stack H s E e s'→X.xe e s'
section
variable {X:Cx} {CX:qu} {k:Nat} {f C:Addr} {fd:FuncData} {ps:List Str} {sp:Sp} {bB:List V} {ds:List Value} {E:XK} {x m:Str} {p pos apos:Pos} {e o:Expr} {es:List Expr} {ta:TE} {t:TA}
theorem yR{pins:List (Addr×Obj)}{σ:St}{H:Hp}{s:Shared}{Q:VK}{us:List Value}{vs:List V}(F:FnOk X.prog X.w X.K X.mg X.base CX k f fd ps sp)(hr:cC k X.A)(hb:Binds X.K fd ps ds)(hd:Vals bB ds)(hx:Passes CX X E)
  (I:Inv X pins σ H s) (r:Vals vs us) (h:sp (vs++bB) H Q E):wpAny (model X.prog X.w) X.A (call (.ref f) us) (EP X pins σ Q) X.xe s:=by
 have r2:Vals (vs++bB) (us++ds):=r.append hd;have hl:(us++ds).length=ps.length:=by rw [←r2.length];exact F.len _ _ _ _ h
 refine wpAny_call (codeAny_mono (F.run X.A X.stack s H ⟨us,[]⟩ (us++ds) (vs++bB) Q E hr I.MD (hb s us I.hU hl) r2 h) λr s' hq=>?_);cases r with
 |error e=>exact hx pins σ H s e s' I hq
 |ok fl=>
  cases fl with
  |ret u=>exact I.after hq
  |next=>exact False.elim hq
  |brk=>exact False.elim hq
  |cont=>exact False.elim hq
theorem bf(F:FnOk X.prog X.w X.K X.mg X.base CX k f fd ps sp)(hr:cC k X.A)(hg:Gl X x)(hm:X.mg x=some (.ref f))(hk:PySem.W.keepIn X.K (.ref f)=true)(hb:Binds X.K fd ps ds)(hd:Vals bB ds)(hx:Passes CX X E)
  (ha:PA X (e::es) t) (lI:(x==("__debug__":Str))=false:=by decide) (he:starEach (e::es) X.env=(false,eval e X.env)::starEach es X.env:=by rfl) (fq:(backTo pos (starEach es X.env)).any (·.1)=false:=by rfl):
  PE X (.Call (.Name x p) (e::es) [] pos) (Qg sp bB E t):=by
 intro pins s σ H Q I h;refine wpAny_Call_Name_kw (um I hg hm ?_ lI);refine PySem.W.callWith_K (h₀:=X.base) I.ok.mod.kin hk (thn (ha pos pins s σ H _ I h) λus s1 ⟨vs,H1,I1,r,q⟩=>⟨I1.hU,?_⟩) he fq;exact yR F hr hb hd hx I1 r q
theorem IM{pl:Sem Bool}(he:PE X o ta)(c:tj X.K C)(hm:Meth X.K C m f)(F:FnOk X.prog X.w X.K X.mg X.base CX k f fd ps sp)(hr:cC k X.A)(hb:Binds X.K fd ps ds)(hd:Vals bB ds)(hx:Passes CX X E)(ha:PA X (e::es) t)
  (yh:starEach (e::es) X.env=(false,eval e X.env)::starEach es X.env:=by rfl) (fq:(backTo pos (starEach es X.env)).any (·.1)=false:=by rfl)
  (ht:eval (.Call (.Attribute o m apos) (e::es) [] pos) X.env=(do
   let ov ←eval o X.env
   standAt apos.atName
   let (f,first) ←holding [ov] (getMethod ov m pl)
   callWith pos f first (backTo pos (starEach (e::es) X.env)) (backToKw pos (keywordEach [] X.env))):=by rfl):
  PE X (.Call (.Attribute o m apos) (e::es) [] pos) (CL C m sp bB E ta t):=by
 intro pins s σ H Q I h;refine PySem.W.methodCall_KW (pl:=pl) (thn (he pins s σ H _ I h) λu s1 ⟨x,H1,I1,rx,a,dx,fs,ex,ea,l,q⟩=>?_) ht;subst ex;obtain rfl:u=Value.ref a:=rx;refine rB I1 ea c hm l ?_;refine PySem.W.callWith_K (first:= [.ref a]) (h₀:=X.base) I.ok.mod.kin hm.kp (thn (ha pos pins s1 σ H1 _ I1 q) λus s2 ⟨vs,H2,I2,r,q2⟩=>⟨I2.hU,?_⟩) yh fq;exact yR (us:= .ref a::us) (vs:= .ref a::vs) F hr hb hd hx I2 (.cons rfl r) q2
theorem Fs{pl:Sem Bool}(he:PE X o ta)(c:tj X.K C)(hm:Meth X.K C m f)(F:FnOk X.prog X.w X.K X.mg X.base CX k f fd ps sp)(hr:cC k X.A)(hb:Binds X.K fd ps ds)(hd:Vals bB ds)(hx:Passes CX X E)
  (ht:eval (.Call (.Attribute o m apos) [] [] pos) X.env=(do
   let ov ←eval o X.env
   standAt apos.atName
   let (f,first) ←holding [ov] (getMethod ov m pl)
   callWith pos f first (backTo pos (starEach [] X.env)) (backToKw pos (keywordEach [] X.env))):=by rfl):
  PE X (.Call (.Attribute o m apos) [] [] pos) (CL C m sp bB E ta Np):=by
 intro pins s σ H Q I h;refine PySem.W.methodCall_KW (pl:=pl) (thn (he pins s σ H _ I h) λu s1 ⟨x,H1,I1,rx,a,dx,fs,ex,ea,l,q⟩=>?_) ht;subst ex;obtain rfl:u=Value.ref a:=rx;refine rB I1 ea c hm l ?_;exact PySem.W.callWith_K0 (first:= [.ref a]) I1.hU hm.kp (yR (us:= [.ref a]) (vs:= [.ref a]) F hr hb hd hx I1 (.cons rfl .nil) q)
structure Mk (K:PySem.W.Frag) (C f:Addr):Prop where
 makes:PySem.W.makesIn K C=true
 init:PySem.W.findIn K (.ref C) "__init__"=some (some (.ref f))
 fn:PySem.W.isFn K (.ref f)=true
 kp:PySem.W.keepIn K (.ref C)=true
theorem FG{pins:List (Addr×Obj)}{σ:St}{H:Hp}{s:Shared}{Q:VK}{us:List Value}{vs:List V}(M:Mk X.K C f)(F:FnOk X.prog X.w X.K X.mg X.base CX k f fd ps sp)(hr:cC (k+1) X.A)(hb:Binds X.K fd ps ds)(hd:Vals bB ds)
  (hx:Passes CX X E) (I:Inv X pins σ H s) (r:Vals vs us)
  (h:∀x dx,H x=none→H dx=none→dx≠x→sp (.ref x::(vs++bB)) (upd (upd H dx (.own x)) x (.ins C dx [])) (λv H2=>v= .aL∧Q (.ref x) H2) E):
  wpAny (model X.prog X.w) X.A (call (.ref C) us) (EP X pins σ Q) X.xe s:=by
 have hq:=h (s.heap.objs.size+1) s.heap.objs.size (I.hok.fresh (mK _)) (I.hok.fresh (aV _)) (cm (Nat.lt_succ_self _));have I2:=Inv.made (C:=C) I;have r2:Vals (V.ref (s.heap.objs.size+1)::(vs++bB)) (Value.ref (s.heap.objs.size+1)::(us++ds)):= .cons rfl (r.append hd)
 have hl:(Value.ref (s.heap.objs.size+1)::us++ds).length=ps.length:=by
  have e:=r2.length;rw [F.len _ _ _ _ hq] at e;exact e.symm
 refine wpAny_call (Fg (f:=f) I.hU M.makes M.init (beq_iff_eq.mp M.fn) (codeAny_mono (F.run _ X.stack _ _ ⟨Value.ref (s.heap.objs.size+1)::us,[]⟩ (Value.ref (s.heap.objs.size+1)::(us++ds)) _ _ E (hr.make C us [])
  (I2.MD.make C us []) (hb _ (Value.ref (s.heap.objs.size+1)::us) I2.hU hl) r2 hq) λr s' zZ=>?_))
 cases r with
 |error e=>exact hx pins σ _ _ e s' I2 zZ
 |ok fl=>
  cases fl with
  |ret u=>
   obtain ⟨v,H',I3,rv,ev,q3⟩:=I2.after zZ;subst ev;exact ⟨rv,⟨V.ref (s.heap.objs.size+1),H',I3,rfl,q3⟩⟩
  |next=>exact False.elim zZ
  |brk=>exact False.elim zZ
  |cont=>exact False.elim zZ
theorem IL(M:Mk X.K C f)(F:FnOk X.prog X.w X.K X.mg X.base CX k f fd ps sp)(hr:cC (k+1) X.A)(hg:Gl X x)(hm:X.mg x=some (.ref C))(hb:Binds X.K fd ps ds)(hd:Vals bB ds)(hx:Passes CX X E)
  (ha:PA X (e::es) t) (lI:(x==("__debug__":Str))=false:=by decide) (he:starEach (e::es) X.env=(false,eval e X.env)::starEach es X.env:=by rfl) (fq:(backTo pos (starEach es X.env)).any (·.1)=false:=by rfl):
  PE X (.Call (.Name x p) (e::es) [] pos) (Qj C sp bB E t):=by
 intro pins s σ H Q I h;refine wpAny_Call_Name_kw (um I hg hm ?_ lI);refine PySem.W.callWith_K (h₀:=X.base) I.ok.mod.kin M.kp (thn (ha pos pins s σ H _ I h) λus s1 ⟨vs,H1,I1,r,q⟩=>⟨I1.hU,?_⟩) he fq;exact FG M F hr hb hd hx I1 r q
end
section
variable {X:Cx} {CX:qu} {k:Nat} {f C:Addr} {fd:FuncData} {ps ks:List Str} {sp:Sp} {E:XK} {x m:Str} {p pos apos aai:Pos} {e o:Expr} {es:List Expr} {kws:List Keyword} {te ta:TE} {t tk:TA} {nm:Option Str}
variable {g:List Value→List Value→List Value} {gV:List V→List V→List V}
end
structure aJ (N P:List Str) (sc:Scope):Prop where
 kind:sc.kind= .function
 co:sc.isCoroutine=false
 gen:sc.isGenerator=false
 nd:N.Nodup
 pre:N.take P.length=P
 par:∀x∈P,sc.names.lookup x=some .local∨sc.names.lookup x=some .cell
 nofree:∀y∈sc.names,y.2≠ .free
theorem tK{kindOf:Str→Option NameKind}{x:Str}:∀{binds:List (Str×Value)}{m:Str→Option Value},(∀v,(x,v)∉binds)→bindL kindOf binds m x=m x
 | [],_,_=>rfl
 | (n,v)::r,m,h=>by
  unfold bindL;rw [tK λw hw=>h w (cn _ hw)]
  split
  ·have:x≠n:=by rintro rfl;exact h v b8
   simp [this]
  ·rfl
theorem tI{kindOf:Str→Option NameKind}{x:Str}:∀{binds:List (Str×Value)}{m:Str→Option Value},(∀v,(x,v)∉binds)→bindC kindOf binds m x=m x
 | [],_,_=>rfl
 | (n,v)::r,m,h=>by
  unfold bindC;rw [tI λw hw=>h w (cn _ hw)]
  split
  ·rfl
  ·have:x≠n:=by rintro rfl;exact h v b8
   simp [this]
theorem tJ{kindOf:Str→Option NameKind}{x:Str}{v:Value}:∀{P:List Str}{vs:List Value}{i:Nat}{m:Str→Option Value},P.Nodup→P[i]? =some x→vs[i]? =some v→kindOf x=some .local→
  bindL kindOf (P.zip vs) m x=some v
 | [],_,_,_,_,h,_,_=>by simp at h
 |_::_,[],_,_,_,_,h,_=>by simp at h
 |p::P,w::vs,0,m,nd,h1,h2,hk=>by
  simp at h1 h2;subst h1;subst h2;show bindL kindOf ((p,w)::P.zip vs) m p=_;unfold bindL;rw [tK λv hv=>(fk.mp nd).1 (List.of_mem_zip hv).1,if_pos hk];simp
 |p::P,w::vs,i+1,m,nd,h1,h2,hk=>by
  show bindL kindOf ((p,w)::P.zip vs) m x=_;unfold bindL;exact tJ (i:=i) (fk.mp nd).2 (by simpa using h1) (by simpa using h2) hk
theorem tH{kindOf:Str→Option NameKind}{x:Str}{v:Value}:∀{P:List Str}{vs:List Value}{i:Nat}{m:Str→Option Value},P.Nodup→P[i]? =some x→vs[i]? =some v→kindOf x≠some .local→
  bindC kindOf (P.zip vs) m x=some v
 | [],_,_,_,_,h,_,_=>by simp at h
 |_::_,[],_,_,_,_,h,_=>by simp at h
 |p::P,w::vs,0,m,nd,h1,h2,hk=>by
  simp at h1 h2;subst h1;subst h2;show bindC kindOf ((p,w)::P.zip vs) m p=_;unfold bindC;rw [tI λv hv=>(fk.mp nd).1 (List.of_mem_zip hv).1,if_neg hk];simp
 |p::P,w::vs,i+1,m,nd,h1,h2,hk=>by
  show bindC kindOf ((p,w)::P.zip vs) m x=_;unfold bindC;exact tH (i:=i) (fk.mp nd).2 (by simpa using h1) (by simpa using h2) hk
def start(N:List Str)(vs:List V):St:=vs.map some++List.replicate (N.length-vs.length) none
def pj(CX:qu)(P:Program)(w:World)(K:PySem.W.Frag)(mg:Str→Option Value)(base:Heap)(N:List Str)(qual:Str)(scope:Scope)(f:Addr)(cd:Value)(A:Around)(outer:List Env)(s:Shared)(H:Hp)(E:XK):Cx where
 prog:=P
 w:=w
 K:=K
 mg:=mg
 base:=base
 A:=A.deeper (envOfC qual scope s.heap.objs.size f cd)
 N:=N
 s₀:=s
 H₀:=H
 env:=envOfC qual scope s.heap.objs.size f cd
 outer:=outer
 stack:=envOfC qual scope s.heap.objs.size f cd::outer
 ex:= []
 calm:=true
 fn:=λ_=>true
 pn:= []
 xe:=λe s'=>wpAny (model P w) (A.deeper (envOfC qual scope s.heap.objs.size f cd)) (leaving (envOfC qual scope s.heap.objs.size f cd) e) (λ_ P8=>CX outer H s E e P8) (λe' P8=>CX outer H s E e' P8) s'
theorem v7{sc:Scope}{n:Nat}{x:Str}(h:sc.names.lookup x=some .cell):∃c,(cellsFrom n sc.names []).lookup x=some c:=by
 have q:=PySem.W.cellsFrom_some sc.names n [] (.inl h);exact Option.isSome_iff_exists.mp q
theorem BW{CX:qu}{P:Program}{w:World}{K:PySem.W.Frag}{mg:Str→Option Value}{base:Heap}{N ps:List Str}{qual:Str}{scope:Scope}{f:Addr}{cd:Value}{A:Around}{outer:List Env}{s s1:Shared}{H:Hp}{E:XK}{us:List Value}{vs:List V}
  (S:aJ N ps scope) (hd:A.handled=none) (e0:Env0 P w K mg base A outer s H) (hl:vs.length=ps.length) (r:Vals vs us)
  (x:InCallC s s.heap.objs.size (bindL (envOfC qual scope s.heap.objs.size f cd).kindOf (ps.zip us) λ_=>none) (cellsFrom (s.heap.objs.size+1) scope.names []) (bindC (envOfC qual scope s.heap.objs.size f cd).kindOf (ps.zip us) λ_=>none) s1):
  Inv (pj CX P w K mg base N qual scope f cd A outer s H E) [] (start N vs) H s1:=by
 have fq:ps.length≤N.length:=by have:=congrArg List.length S.pre;rw [jt] at this;omega
 obtain ⟨h1,tk,rfl,hk⟩:=x.done;have Ik:∀b:Addr,b∉(pj CX P w K mg base N qual scope f cd A outer s H E).ex:=λb z=>absurd (show b∈([]:List Addr) from z) (by simp)
 refine ⟨⟨e0.mod,S.kind,rfl,rfl,aV _,λy z c h1 h2=>?_,λy hy=>?_,λy c _ h=>?_,λ_=>hd,Around.frames_deeper e0.frames, .inr ⟨rfl,rfl⟩,λb z=>absurd z (Ik b),e0.bs,e0.bsz,λb _ _=>Ik b,λb z=>absurd z (Ik b),e0.funs,e0.frf⟩,
  rfl,e0.bare,Un.kept hk,⟨_,x.toInCall.ns,λi y v h1 h2 h3=>?_⟩,λy c h=>⟨_,x.cell y c h⟩,e0.hok.fresh (aV _),λy c h=>?_,λp hp=>absurd (show p∈([]:List (Addr×Obj)) from hp) (by simp),e0.hok.kept hk,?_⟩
 ·exact name_of_addr x.apart (PySem.mem_of_lookup h1) (PySem.mem_of_lookup h2)
 ·have hy:scope.names.lookup y=some .cell∨scope.names.lookup y=some .free:=hy
  rcases hy with hy|hy
  ·exact v7 hy
  ·exact absurd rfl (S.nofree _ (PySem.mem_of_lookup hy))
 ·exact Nat.le_of_lt (x.above y c (PySem.mem_of_lookup h))
 ·have hi:i<vs.length:=by
   unfold start at h2
   by_cases hi:i<vs.length
   ·exact hi
   ·rw [jr (by simpa using hi)] at h2
    rw [A4] at h2
    split at h2<;>cases h2
  have ha:vs[i]? =some v:=by
   unfold start at h2;rw [j2 (by simpa using hi),ck] at h2
   cases e:vs[i]? with
   |none=>rw [e] at h2;cases h2
   |some a=>rw [e] at h2;cases h2;rfl
  obtain ⟨u,hu,rv⟩:=r.get ha
  have hp:ps[i]? =some y:=by
   rw [←S.pre,Ee (by omega)];exact h1
  have UU:ps.Nodup:=by rw [←S.pre];exact S.nd.sublist (List.take_sublist _ _)
  refine ⟨u,rv,?_⟩
  rcases S.par y (di hp) with k|k
  ·exact .inl ⟨k,tJ UU hp hu k⟩
  ·obtain ⟨c,e⟩:=v7 (n:=s.heap.objs.size+1) k
   refine .inr ⟨.inl k,c,e,?_⟩;have q:=x.cell y c e;rw [tH UU hp hu (by show scope.names.lookup y≠_;rw [k];decide)] at q
   exact q
 ·exact e0.hok.fresh (Nat.le_of_lt (x.above y c (PySem.mem_of_lookup h)))
 ·unfold start
  show _=N.length;rw [dX,aP,r6];omega
theorem Ou{CX:qu}{P:Program}{w:World}{K:PySem.W.Frag}{mg:Str→Option Value}{base:Heap}{k:Nat}{f:Addr}{name qual:Str}{params:Arguments}{body:List Stmt}{scope:Scope}{dV kV doc pm br ct oc:Value}{an od:Option Addr}
  {Aq:Array (Option Value)} {N ps:List Str} {sp:Sp} (lk:K.lookup f=some ⟨oc,od, .func (PySem.W.fnOf name qual params body scope dV kV doc pm an br ct),Aq⟩) (fH:PySem.W.codeIn K br qual=true) (S:aJ N ps scope)
  (len:∀vs H Q E,sp vs H Q E→vs.length=ps.length)
  (oq:∀(A:Around)(outer:List Env)(s:Shared)(H:Hp)(vs:List V)(Q:VK)(E:XK),cC k (A.deeper (envOfC qual scope s.heap.objs.size f br))→sp vs H Q E→
   ∃t,kY (pj CX P w K mg base N qual scope f br A outer s H E) body t∧t {nx:=λ_ H'=>Q .aL H',rt:=Q} (start N vs) H):
  FnOk P w K mg base CX (k+1) f (PySem.W.fnOf name qual params body scope dV kV doc pm an br ct) ps sp:=by
 refine ⟨len,λA outer s H args us vs Q E hr e0 hb r z3=>?_⟩;have hl:=len _ _ _ _ z3;have KX:K.In s.heap:=e0.mod.kin.keeps λb o e=>(e0.bs b o e).1;have lim:s.heap.NoLimit:=e0.mod.nolimit.keeps λb o e=>(e0.bs b o e).1
 have OS:∀y∈ps.zip us,scope.names.lookup y.1=some .local∨(scope.names.lookup y.1=some .cell∧((cellsFrom (s.heap.objs.size+1) scope.names []).lookup y.1).isSome=true):=λ⟨n,v⟩ hy=>by
  rcases S.par n (List.of_mem_zip hy).1 with q|q
  ·exact .inl q
  ·exact .inr ⟨q,PySem.W.cellsFrom_some _ _ _ (.inl q)⟩
 refine codeAny_call_function hr.depth (KX _ _ lk) rfl S.co S.gen rfl (PySem.W.codeRec_of KX fH) (hb _ _ _ _ ?_);refine wpAny_newFunctionEnv_cells S.kind OS λenv he s1 x=>?_;subst he;refine ⟨lim.keeps x.toInCall.keep,codeAny_func ?_⟩;obtain ⟨t,ht,hq⟩:=oq A outer s H vs Q E (hr.deeper _) z3;have I:Inv (pj CX P w K mg base N qual scope f br A outer s H E) [] (start N vs) H s1:=BW S hr.hd e0 hl r x;refine wpAny_mono (ht [] s1 (start N vs) H _ I hq) (λfl s' hs=>?_) λe s' hs=>hs
 have fin:∀{av:St}{H':Hp}{v:V}{u:Value},Inv (pj CX P w K mg base N qual scope f br A outer s H E) [] av H' s'→RelV v u→Q v H'→CE outer P w H s Q u s':=
  λ {av H' v u} J rv q=>⟨v,H',J.os,J.bare,J.base,J.hok,rv,q⟩
 cases fl with
 |ret u=>
  obtain ⟨v,av,H',J,rv,q⟩:=hs;exact fin J rv q
 |next=>
  obtain ⟨av,H',J,q⟩:=hs;exact fin (v:=V.aL) (u:=Value.none) J rfl q
 |brk=>
  obtain ⟨_,_,_,q⟩:=hs;exact False.elim q
 |cont=>
  obtain ⟨_,_,_,q⟩:=hs;exact False.elim q
section
variable {X:Cx} {x:Str} {p pos:Pos} {e:Expr} {es:List Expr} {t:TA} {id T:String} {r:List V→Hp→VK→Prop}
def WC(r:List V→Hp→VK→Prop)(t:TA):TE:=λσ H Q=>t σ H λvs H1=>r vs H1 Q
theorem cA(hc:cT X (.builtin id) r)(hg:Gl X x)(hm:X.mg x=none)(hv:bootBuiltins x=some (.builtin id))(ha:PA X (e::es) t)(hn:x≠"__name__":=by decide)(lI:(x==("__debug__":Str))=false:=by decide)
  (he:starEach (e::es) X.env=(false,eval e X.env)::starEach es X.env:=by rfl) (fq:(backTo pos (starEach es X.env)).any (·.1)=false:=by rfl):PE X (.Call (.Name x p) (e::es) [] pos) (WC r t):=by
 intro pins s σ H Q I h;refine wpAny_Call_Name_kw (kn I hg hm hv ?_ hn lI);exact PyProof.Rows.callWith_builtin1 (thn (ha pos pins s σ H _ I h) λus s1 ⟨vs,H1,I1,r1,q1⟩=>hc pins s1 σ H1 vs us Q I1 r1 q1) he fq
theorem uJ(hc:cT X (.type T) r)(hg:Gl X x)(hm:X.mg x=none)(hv:bootBuiltins x=some (.type T))(ha:PA X (e::es) t)(hn:x≠"__name__":=by decide)(lI:(x==("__debug__":Str))=false:=by decide)
  (he:starEach (e::es) X.env=(false,eval e X.env)::starEach es X.env:=by rfl) (fq:(backTo pos (starEach es X.env)).any (·.1)=false:=by rfl):PE X (.Call (.Name x p) (e::es) [] pos) (WC r t):=by
 intro pins s σ H Q I h;refine wpAny_Call_Name_kw (kn I hg hm hv ?_ hn lI);exact PyProof.Rows.callWith_type1 (thn (ha pos pins s σ H _ I h) λus s1 ⟨vs,H1,I1,r1,q1⟩=>hc pins s1 σ H1 vs us Q I1 r1 q1) he fq
end
end L2
namespace HT
open PySem PyProof.Rows
def lexLt:List Int→List Int→Bool
 | [],[]=>false
 | [],_::_=>true
 |_::_,[]=>false
 |x::xs,y::ys=>if x=y then lexLt xs ys else decide (x<y)
theorem jm(x y:Int)(xs ys:List Int):lexLt (x::xs) (y::ys)=if x=y then lexLt xs ys else decide (x<y):=rfl
theorem ur:lexLt [] []=false:=rfl
theorem sD(y:Int)(ys:List Int):lexLt [] (y::ys)=true:=rfl
theorem sC(x:Int)(xs:List Int):lexLt (x::xs) []=false:=rfl
theorem ED(A:Around)(s:Shared)(a:Int)(t:Tok)(c:Int)(u:Tok):∃e,SeqAt.EqAt A s (.int a t) (.int c u) e∧(e=true↔a=c):=
 ⟨(a==c),SeqAt.EqAt.int_int a t c u,by simp⟩
theorem FC(A:Around)(s:Shared)(a:Int)(t:Tok)(c:Int)(u:Tok)(prog:Program)(w:World)(E:Value→Shared→Prop)(Q:Value→Shared→Prop)(h:Q (.bool (decide (a<c))) s):
  wpAny (model prog w) A (richCompare .Lt (.int a t) (.int c u)) Q E s:=
 (PyProof.Rows.lt_int h:wpAny (model prog w) A (compareOp .Lt (.int a t) (.int c u)) Q E s)
section
open PySem.SeqAt
open PySem.AutoSeq1 (wpAny_loadPart')
open PySem.MeetsSeq PySem.MeetsSeq2 PySem.MeetsSeq3
end
section
variable {prog:Program} {w:World} {A:Around} {E:Value→Shared→Prop} {s:Shared}
theorem Gb{t b:Addr}{vs ws:List Value}{Q:Value→Shared→Prop}(ht:IsTup s.heap t vs.toArray)(hb:IsTup s.heap b ws.toArray)(hv:vs≠ [])
  (h1:ws= []→Q (.ref t) s) (h2:ws≠ []→Q (.ref s.heap.objs.size) {s with heap:=s.heap.push {cls:= .type "tuple",data:= .seq (vs++ws).toArray}})
  (fI:vs.length+ws.length≤sizeLine):wpAny (model prog w) A (binaryOp .Add (.ref t) (.ref b)) Q E s:=by
 obtain ⟨⟨cls,dd,data,sl⟩,ho,hc,n,hd⟩:=id ht;obtain ⟨⟨Rh,xK,data2,uW⟩,zX,BG,n2,hd2⟩:=id hb;simp only at hc hd BG hd2;subst hc hd BG hd2;have e:vs.toArray++ws.toArray=(vs++ws).toArray:=by simp
 by_cases hw:ws= []
 ·exact concat_meets ⟨_,ho,rfl⟩ ⟨_,zX,rfl⟩ noFill_tuple_add seq_tuple_add PySem.F.slot_tuple_add PySem.F.entry_tuple_add (PySem.F.args_tuple_add_2 _ _)
   (tuple_addW1 t b vs.toArray ws.toArray n n2 dd xK sl uW (by simpa using hv) (by simp [hw])) ⟨ho,zX,h1 hw⟩
 ·refine concat_meets ⟨_,ho,rfl⟩ ⟨_,zX,rfl⟩ noFill_tuple_add seq_tuple_add PySem.F.slot_tuple_add PySem.F.entry_tuple_add (PySem.F.args_tuple_add_2 _ _)
   (tuple_addW2 t b vs.toArray ws.toArray n n2 dd xK sl uW (by simpa using hv) (by simpa using hw) (by rw [bO,bO];exact fI)) ⟨ho,zX,?_⟩
  rw [e];exact h2 hw
def bG(n d:Nat):Option Int→Nat
 |none=>d
 |some v=>if v<0 then (v+(n:Int)).toNat else min v.toNat n
theorem w6(n d:Nat):bG n d none=d:=rfl
theorem AA(n d k:Nat):bG n d (some (k:Int))=min k n:=by
 show (if (k:Int)<0 then ((k:Int)+(n:Int)).toNat else min (k:Int).toNat n)=min k n;rw [if_neg (by omega),kT]
theorem LI(n d:Nat)(hd:d≤n)(o:Option Int):bG n d o≤n:=by
 cases o with
 |none=>exact hd
 |some v=>
  show (if v<0 then (v+(n:Int)).toNat else min v.toNat n)≤n
  by_cases hv:v<0
  ·rw [if_pos hv];omega
  ·rw [if_neg hv];exact Nat.min_le_right _ _
theorem zA(v:Int)(n d:Nat):(if v<0 then max (v+(n:Int)) 0 else min v (n:Int))=((bG n d (some v):Nat):Int):=by
 show (if v<0 then max (v+(n:Int)) 0 else min v (n:Int))=(((if v<0 then (v+(n:Int)).toNat else min v.toNat n):Nat):Int)
 by_cases hv:v<0
 ·simp only [if_pos hv];omega
 ·simp only [if_neg hv];omega
theorem zp(lo hi:Option Int)(n:Nat):Builtin.Slice.sliceAdjust lo hi 1 (n:Int)=(((bG n 0 lo:Nat):Int),((bG n n hi:Nat):Int)):=by
 have h1:¬((1:Int)<0):=by omega
 unfold Builtin.Slice.sliceAdjust;simp only [h1,if_false];refine Prod.ext ?_ ?_
 ·cases lo with
  |none=>rfl
  |some v=>exact zA v n 0
 ·cases hi with
  |none=>rfl
  |some v=>exact zA v n n
theorem Au(i j:Nat):Builtin.Slice.slicePlaces (i:Int) (j:Int) 1=j-i:=by
 unfold Builtin.Slice.slicePlaces;have h1:(1:Int)>0:=by omega
 simp only [h1,if_true,Int.ediv_one]
 split<;>omega
theorem rR{v:Value}{o:Option Int}{Q:Option Int→Shared→Prop}(p:IsPart v o)(h:Q o s):wpAny (model prog w) A (Builtin.Slice.slicePartIndex v) Q E s:=by
 cases p with
 |none=>exact slicePart_none h
 |int i t=>exact slicePart_int h
theorem qe{sl:Addr}{vl vu:Value}{lo hi:Option Int}{n:Nat}{Q:Int×Int×Nat→Shared→Prop}(hs:s.heap.IsSliceOf sl vl vu .none)(pl:IsPart vl lo)(pu:IsPart vu hi)
  (h:Q (((bG n 0 lo:Nat):Int),1,bG n n hi-bG n 0 lo) s):wpAny (model prog w) A (Builtin.Slice.sliceApplied (.ref sl) (pure (n:Int))) Q E s:=by
 obtain ⟨os,HB,Tb,EW⟩:=id hs;unfold Builtin.Slice.sliceApplied Builtin.Slice.sliceFields;refine wpAny_bind (wpAny_bind (wpAny_field HB EW (x:=vl) rfl (wpAny_bind (wpAny_field HB EW (x:=vu) rfl (wpAny_bind (wpAny_field HB EW (x:= .none) rfl (wpAny_pure ?_)))))));refine wpAny_bind (slicePart_none ?_);show wpAny _ _ (if ((1:Int)==0)=true then _ else _) _ _ s;rw [if_neg (by decide)]
 refine wpAny_bind (rR pl (wpAny_bind (rR pu (wpAny_bind (wpAny_pure ?_)))));show wpAny _ _ (match Builtin.Slice.sliceAdjust lo hi 1 (n:Int) with| (lo,hi)=>pure (lo,(1:Int),Builtin.Slice.slicePlaces lo hi 1)) _ _ s
 rw [zp lo hi n];show wpAny _ _ (pure (((bG n 0 lo:Nat):Int),(1:Int),Builtin.Slice.slicePlaces ((bG n 0 lo:Nat):Int) ((bG n n hi:Nat):Int) 1)) _ _ s;rw [Au];exact wpAny_pure h
theorem Fv(xs:Array Value)(i k:Nat):((List.range k).filterMap λ(m:Nat)=>xs[((i:Int)+(m:Int)*1).toNat]?).toArray=((xs.toList.drop i).take k).toArray:=by
 have e:(λ(m:Nat)=>xs[((i:Int)+(m:Int)*1).toNat]?)=λm=>xs[i+m]? :=by
  funext m
  have:((i:Int)+(m:Int)*1).toNat=i+m:=by omega
  rw [this]
 rw [e]
 have:=pick_run xs i k
 rw [List.filterMap_map] at this;have e2:((λx=>xs[x]?)∘λx=>i+x)=λm=>xs[i+m]? :=rfl;rw [e2] at this;rw [this]
theorem oi{t sl:Addr}{items:Array Value}{vl vu:Value}{lo hi:Option Int}{Q:Value→Shared→Prop}(ht:IsTup s.heap t items)(hs:s.heap.IsSliceOf sl vl vu .none)(pl:IsPart vl lo)(pu:IsPart vu hi)
  (hw:¬(bG items.size 0 lo=0∧bG items.size items.size hi=items.size))
  (h:Q (.ref s.heap.objs.size) {s with heap:=s.heap.push {cls:= .type "tuple",data:= .seq ((items.toList.drop (bG items.size 0 lo)).take (bG items.size items.size hi-bG items.size 0 lo)).toArray}})
  (fI:items.size≤sizeLine):wpAny (model prog w) A (getItem (.ref t) (.ref sl)) Q E s:=by
 have yk:sizeOk (.seq ((items.toList.drop (bG items.size 0 lo)).take (bG items.size items.size hi-bG items.size 0 lo)).toArray):=by
  show ((items.toList.drop (bG items.size 0 lo)).take (bG items.size items.size hi-bG items.size 0 lo)).toArray.size≤sizeLine;rw [bO,jt,sg,cg];omega
 have hj:bG items.size items.size hi≤items.size:=LI _ _ (aV _) hi;obtain ⟨os,HB,Tb,EW⟩:=id hs;have YO:s.TypeIs (.ref sl) "slice":=⟨os,HB,Tb⟩;unfold getItem
 try with_reducible refine wpAny_holding ?_
 first|refine wpAny_bind (wpAny_pure ?_) |skip
 refine wpAny_bind (wpAny_sequenceKey ht.typeIs (by decide) ?_)
 refine wpAny_bind (wpAny_callSpecial?_slot (name:=Str.ofString "__getitem__") ht.typeIs PyProof.Rows.slot_tuple_getitem
  (wpAny_call_entry PyProof.Rows.slot_tuple_getitem ht.typeIs entry_tuple_getitem ?_ (args_tuple_getitem _ _)))
 show wpAny _ _ (Builtin.Tuple.tupleItemsOf (.ref t)>>=_) _ _ s;refine wpAny_bind (tupleItemsOf_ ht ?_);refine wpAny_bind (wpAny_typeOf YO ?_);rw [if_pos (by decide)]
 refine wpAny_bind (qe hs pl pu ?_)
 have yb:¬((((bG items.size 0 lo:Nat):Int)==0&&(1:Int)==1&&(bG items.size items.size hi-bG items.size 0 lo)==items.size)=true):=by
  intro q;rw [xq,xq] at q;have q1:((bG items.size 0 lo:Nat):Int)=0:=eq_of_beq q.1.1;have q2:bG items.size items.size hi-bG items.size 0 lo=items.size:=eq_of_beq q.2;exact hw ⟨by omega,by omega⟩
 show wpAny _ _ (if (((bG items.size 0 lo:Nat):Int)==0&&(1:Int)==1&&(bG items.size items.size hi-bG items.size 0 lo)==items.size)=true then _ else _) _ _ s;rw [if_neg yb,Fv]
 first
  |exact wpAny_bind (m:=Builtin.Tuple.tupleExact _) (wpAny_newObj_type (wpAny_pure ⟨_,rfl,wpAny_pure h⟩) yk)
  |exact wpAny_bind (m:=Builtin.Tuple.tupleExact _) (wpAny_newObj_type (wpAny_bind (wpAny_pure (wpAny_pure ⟨_,rfl,wpAny_pure h⟩))) yk)
  |exact wpAny_bind (wpAny_bind (m:=Builtin.Tuple.tupleExact _) (wpAny_newObj_type (wpAny_pure (wpAny_pure ⟨_,rfl,wpAny_pure h⟩)) yk))
  |exact wpAny_bind (wpAny_bind (m:=Builtin.Tuple.tupleExact _) (wpAny_newObj_type (wpAny_pure ⟨_,rfl,wpAny_pure h⟩) yk))
end
end HT
namespace L2
open PySem PySem.Spec PyProof.Rows
abbrev TO:=St→Hp→(Option Int→Hp→Prop)→Prop
def PO(X:Cx)(e:Option Expr)(t:TO):Prop:=
 ∀(pins:List (Addr×Obj))(s:Shared)(σ:St)(H:Hp)(Q:Option Int→Hp→Prop),Inv X pins σ H s→t σ H Q→
  wpAny (model X.prog X.w) X.A (evalPart e X.env) (λu s'=>∃o H',Inv X pins σ H' s'∧IsPart u o∧Q o H') X.xe s
def JC:TO:=λ_ H Q=>Q none H
def Qm(t:TE):TO:=λσ H Q=>t σ H λx H1=>∃i,x= .int i∧Q (some i) H1
theorem intsAre_of{ns:List Int}:∀{us:List Value},Vals (ns.map V.int) us→IntsAre us ns:=by
 induction ns with
 |nil=>intro us r;rw [List.map_nil] at r;cases r;exact .nil
 |cons n ns ih=>
  intro us r;rw [fD] at r;cases r with
  |cons r1 r2=>
   obtain ⟨t,e⟩:=r1;subst e;exact .cons n t (ih r2)
section
variable {X:Cx} {e:Expr} {te:TE} {lo hi:Option Expr} {tl th:TO} {pos p2:Pos}
theorem uL:PO X none JC:=by
 intro pins s σ H Q I h;rw [evalPart_none];exact wpAny_pure ⟨none,H,I, .none,h⟩
theorem lU(h:PE X e te):PO X (some e) (Qm te):=by
 intro pins s σ H Q I hw;rw [evalPart_some];refine thn (h pins s σ H _ I hw) λu s1 ⟨x,H1,I1,r1,q1⟩=>?_;obtain ⟨i,rfl,q⟩:=q1;obtain ⟨t,rfl⟩:=r1;exact ⟨some i,H1,I1, .int i t,q⟩
def Bf(X:Cx)(r:V→Option Int→Option Int→Hp→VK→Prop):Prop:=
 ∀(pins:List (Addr×Obj))(s:Shared)(σ:St)(H:Hp)(x:V)(v vl vu:Value)(lo hi:Option Int)(sl:Addr)(Q:VK),Inv X pins σ H s→RelV x v→s.heap.IsSliceOf sl vl vu .none→IsPart vl lo→IsPart vu hi→r x lo hi H Q→
  ∃T id,typeLookup (.type T) "__getitem__"=pure (some (.builtin id))∧s.TypeIs v T∧wpAny (model X.prog X.w) X.A (getItem v (.ref sl)) (EP X pins σ Q) X.xe s
theorem Bf.or{r r':V→Option Int→Option Int→Hp→VK→Prop}(h:Bf X r)(h':Bf X r'):Bf X (λx lo hi H Q=>r x lo hi H Q∨r' x lo hi H Q):=by
 intro pins s σ H x v vl vu lo hi sl Q I rx hs pl pu q
 rcases q with q|q
 ·exact h pins s σ H x v vl vu lo hi sl Q I rx hs pl pu q
 ·exact h' pins s σ H x v vl vu lo hi sl Q I rx hs pl pu q
def tSl(r:V→Option Int→Option Int→Hp→VK→Prop)(te:TE)(tl th:TO):TE:=λσ H Q=>te σ H λx H1=>tl σ H1 λl H2=>th σ H2 λu H3=>r x l u H3 Q
theorem mX{r:V→Option Int→Option Int→Hp→VK→Prop}(hr:Bf X r)(he:PE X e te)(hl:PO X lo tl)(hu:PO X hi th):PE X (.Subscript e (.Slice lo hi none p2) pos) (tSl r te tl th):=by
 intro pins s σ H Q I h;refine Subscript_ (thn (he pins s σ H _ I h) λv s1 ⟨x,H1,I1,r1,q1⟩=>?_);refine wpAny_Slice (thn (hl pins s1 σ H1 _ I1 q1) λvl s2 ⟨l,H2,I2,pl,q2⟩=>thn (hu pins s2 σ H2 _ I2 q2) λvu s3 ⟨u,H3,I3,pu,q3⟩=>?_);rw [evalPart_none];refine wpAny_pure ?_;have I4:Inv X pins σ H3 {s3 with heap:=s3.heap.push {cls:= .type "slice",data:= .fields #[vl,vu, .none]}}:=I3.kept (t':=s3.toks) λb ob q=>Heap.get?_push_of_some _ q
 obtain ⟨T,id,hT,ht,hg⟩:=hr pins {s3 with heap:=s3.heap.push {cls:= .type "slice",data:= .fields #[vl,vu, .none]}} σ H3 x v vl vu l u s3.heap.objs.size Q I4 r1 (Heap.IsSliceOf.new ..) pl pu q3
 show wpAny (model X.prog X.w) X.A (subscriptTail e (.Slice lo hi none p2) v (.ref s3.heap.objs.size)) (EP X pins σ Q) X.xe {s3 with heap:=s3.heap.push {cls:= .type "slice",data:= .fields #[vl,vu, .none]}}
 exact tail_any (ops:= [.ref s3.heap.objs.size,v]) ht hT hg (by with_unfolding_all rfl)
def gy(xs:List V)(lo hi:Option Int):List V:=(xs.drop (HT.bG xs.length 0 lo)).take (HT.bG xs.length xs.length hi-HT.bG xs.length 0 lo)
theorem j7(xs:List V)(lo hi:Option Int):(gy xs lo hi).length≤xs.length:=by
 unfold gy;rw [jt,sg];omega
def VZ(K:PySem.W.Frag):V→Option Int→Option Int→Hp→VK→Prop:=λx lo hi H Q=>∃a xs,x= .ref a∧cJ K H a xs∧
 ¬(HT.bG xs.length 0 lo=0∧HT.bG xs.length xs.length hi=xs.length)∧∀p,H p=none→Q (.ref p) (upd H p (.tup (gy xs lo hi)))
theorem LK:Bf X (VZ X.K):=by
 intro pins s σ H x v vl vu lo hi sl Q I rx hs pl pu h;obtain ⟨a,xs,rfl,hx,hw,q⟩:=h;cases rx;obtain ⟨its,r,ht,hz⟩:=I.tuple hx;have hlen:its.toArray.size=xs.length:=by rw [bO];exact r.length.symm
 refine ⟨"tuple",_,PyProof.Rows.slot_tuple_getitem.lookup,ht.typeIs,?_⟩;refine HT.oi ht hs pl pu (by rw [hlen];exact hw) ?_ (by rw [hlen];exact hz)
 rw [hlen];refine ⟨.ref s.heap.objs.size,_,I.laid (t':=s.toks) (o:= .tup (gy xs lo hi)) (λb ob q=>Heap.get?_push_of_some _ q) (aV _) ?_,rfl,q _ (I.hok.fresh (aV _))⟩;exact ⟨j5 (j7 xs lo hi) hz,_,(r.drop (HT.bG xs.length 0 lo)).take (HT.bG xs.length xs.length hi-HT.bG xs.length 0 lo),IsTup.new _ _⟩
def P7(K:PySem.W.Frag):R2:=λx y H Q=>∃a b xs ys,x= .ref a∧y= .ref b∧cJ K H a xs∧cJ K H b ys∧xs≠ []∧xs.length+ys.length≤sizeLine∧
 (ys= []→Q (.ref a) H)∧(ys≠ []→∀p,H p=none→Q (.ref p) (upd H p (.tup (xs++ys))))
theorem Vals.uA{xs:List V}{us:List Value}(r:Vals xs us):us= []↔xs= []:=by
 cases r with
 |nil=>simp
 |cons _ _=>simp
theorem ID:OpR X (binaryOp .Add) (P7 X.K):=by
 intro pins s σ H x y v u Q I rx ry h;obtain ⟨a,b,xs,ys,rfl,rfl,ha,hb,hx,hz,q1,q2⟩:=h;cases rx;cases ry;obtain ⟨its,r1,p1,_⟩:=I.tuple ha;obtain ⟨rJ,r2,p2,_⟩:=I.tuple hb;refine HT.Gb p1 p2 (λz=>hx (r1.uA.mp z)) (λz=>⟨.ref a,H,I,rfl,q1 (r2.uA.mp z)⟩) (λz=>?_) (by rw [←r1.length,←r2.length];exact hz)
 refine ⟨.ref s.heap.objs.size,_,I.laid (t':=s.toks) (o:= .tup (xs++ys)) (λb ob q=>Heap.get?_push_of_some _ q) (aV _) ?_,rfl,q2 (λw=>z (r2.uA.mpr w)) _ (I.hok.fresh (aV _))⟩;exact ⟨by rw [dX];exact hz,_,r1.append r2,IsTup.new _ _⟩
end
def iO(n:Nat)(i:Int):Option Nat:=if 0≤i then (if i<n then some i.toNat else none) else if-(n:Int)≤i then some (i+n).toNat else none
def f6{α:Type}(xs:List α)(i:Int):Option α:=(iO xs.length i).bind λj=>xs[j]?
theorem z9{n:Nat}{i:Int}{j:Nat}(h:iO n i=some j):seqIndex? i n=some j∧j<n∧-(n:Int)≤i∧i<n:=by
 unfold iO at h
 by_cases h0:0≤i
 ·rw [if_pos h0] at h
  by_cases h1:i<n
  ·rw [if_pos h1] at h
   have e:i.toNat=j:=Option.some.inj h;exact ⟨by rw [seqIndex_of h0 h1,e],by omega,by omega,h1⟩
  ·rw [if_neg h1] at h;cases h
 ·rw [if_neg h0] at h
  by_cases h1: -(n:Int)≤i
  ·rw [if_pos h1] at h
   have e:(i+n).toNat=j:=Option.some.inj h;exact ⟨by rw [seqIndex_neg (by omega) h1,e],by omega,h1,by omega⟩
  ·rw [if_neg h1] at h;cases h
theorem zr{α:Type}{xs:List α}{i:Int}{v:α}(h:f6 xs i=some v):∃j,seqIndex? i xs.length=some j∧xs[j]? =some v∧j<xs.length∧-(xs.length:Int)≤i∧i<xs.length:=by
 unfold f6 at h;cases e:iO xs.length i with
 |none=>rw [e] at h;cases h
 |some j=>
  rw [e] at h;obtain ⟨h1,h2,h3,h4⟩:=z9 e;exact ⟨j,h1,h,h2,h3,h4⟩
theorem bW{α:Type}{xs:List α}{j:Nat}{v:α}(h:xs[j]? =some v):f6 xs (j:Int)=some v:=by
 have hj:j<xs.length:=(cu.mp h).1
 have e:iO xs.length (j:Int)=some j:=by
  unfold iO;rw [if_pos (by omega),if_pos (by omega)];simp
 unfold f6;rw [e];exact h
def pb(b:Expr):Prop:=∀o i,subscripted b false o i=operate [o,i] (getItem o i)
def xC(X:Cx)(r:R2):Prop:=
 ∀(value slice:Expr)(pins:List (Addr×Obj))(s:Shared)(σ:St)(H:Hp)(x y:V)(v u:Value)(Q:VK),Inv X pins σ H s→RelV x v→RelV y u→r x y H Q→
  subscripted slice false v u=operate [v,u] (getItem v u)→wpAny (model X.prog X.w) X.A (subscriptTail value slice v u) (EP X pins σ Q) X.xe s
def JQ(X:Cx)(id:String)(r:V→List V→Hp→VK→Prop):Prop:=
 ∀(pins:List (Addr×Obj))(s:Shared)(σ:St)(H:Hp)(x:V)(xs:List V)(v:Value)(us:List Value)(Q:VK),Inv X pins σ H s→RelV x v→Vals xs us→r x xs H Q→
  wpAny (model X.prog X.w) X.A (call (.builtin id) (v::us)) (EP X pins σ Q) X.xe s
section
variable {X:Cx} {a b:Expr} {ta tb:TE} {pos:Pos}
theorem xC.or{r r':R2}(h:xC X r)(h':xC X r'):xC X (λx y H Q=>r x y H Q∨r' x y H Q):=by
 intro value slice pins s σ H x y v u Q I rx ry q hs
 rcases q with q|q
 ·exact h value slice pins s σ H x y v u Q I rx ry q hs
 ·exact h' value slice pins s σ H x y v u Q I rx ry q hs
theorem bY{r:R2}(hr:xC X r)(ha:PE X a ta)(hb:PE X b tb)(hs:pb b):PE X (.Subscript a b pos) (y2 r ta tb):=by
 intro pins s σ H Q I h;exact Subscript_ (F8 ha hb I h λv u s2 x y H2 I2 rx ry q=>hr a b pins s2 σ H2 x y v u Q I2 rx ry q (hs _ _))
def DU(K:PySem.W.Frag):R2:=λx y H Q=>∃p xs i v,x= .ref p∧y= .int i∧aG K H p xs∧f6 xs i=some v∧Q v H
def Ni(K:PySem.W.Frag):R2:=λx y H Q=>∃p xs i v,x= .ref p∧y= .int i∧cJ K H p xs∧f6 xs i=some v∧Q v H
theorem bp:xC X (DU X.K):=by
 intro value slice pins s σ H x y v u Q I rx ry h hs;obtain ⟨p,xs,i,z,rfl,rfl,hq,he,q⟩:=h;cases rx;obtain ⟨t,rfl⟩:=ry;obtain ⟨its,r,pl,hz⟩:=I.list hq;obtain ⟨j,h1,h2,h3,h4,h5⟩:=zr he;obtain ⟨w,ew,oQ⟩:=r.get h2;have hl:=r.length;have hn:=kq;have fin:EP X pins σ Q w s:=⟨z,H,I,oQ,q⟩
 by_cases h0:0≤i
 ·have hj:i.toNat=j:=by
   rw [seqIndex_of h0 h5] at h1;exact Option.some.inj h1
  exact item_listR pl.isList h0 (by omega) (by rw [hj];simpa using ew) fin hs
 ·have hj:(i+(its.toArray.size:Int)).toNat=j:=by
   rw [seqIndex_neg (by omega) h4] at h1
   rw [bO,←hl];exact Option.some.inj h1
  exact subscriptTail_builtinR (x:=w) pl.isList.typeIs slot_list_getitem.lookup
   (wpAny_getItem_list_neg (Q:=λr s'=>r=w∧EP X pins σ Q r s') pl.isList (by omega) (by rw [bO]<;>omega) (by omega) (by rw [hj];simpa using ew) ⟨rfl,fin⟩) hs
theorem DH:xC X (Ni X.K):=by
 intro value slice pins s σ H x y v u Q I rx ry h hs;obtain ⟨p,xs,i,z,rfl,rfl,hq,he,q⟩:=h;cases rx;obtain ⟨t,rfl⟩:=ry;obtain ⟨its,r,pl,hz⟩:=I.tuple hq;obtain ⟨j,h1,h2,h3,h4,h5⟩:=zr he;obtain ⟨w,ew,oQ⟩:=r.get h2;have hl:=r.length;have hn:=kq;have fin:EP X pins σ Q w s:=⟨z,H,I,oQ,q⟩
 exact subscriptTail_builtinR (x:=w) pl.typeIs slot_tuple_getitem.lookup
  (getItem_tuple (j:=j) (Q:=λr s'=>r=w∧EP X pins σ Q r s') pl (by omega) (by omega) (by rw [bO,←hl];exact h1) (by simpa using ew) ⟨rfl,fin⟩) hs
theorem Ai(its:List Value)(n j:Nat)(u:Value):Obj.mapSeq (·.setIfInBounds j u) {cls:= .type "list",data:= .seq its.toArray n}={cls:= .type "list",data:= .seq (its.set j u).toArray n}:=by
 simp [Obj.mapSeq]
theorem Inv.lst{pins:List (Addr×Obj)}{σ:St}{H:Hp}{s:Shared}{p:Addr}{xs:List V}(I:Inv X pins σ H s)(h:H p=some (.lst xs)):
  ∃(its:List Value)(n:Nat),Vals xs its∧s.heap.get? p=some {cls:= .type "list",data:= .seq its.toArray n}∧xs.length≤sizeLine:=by
 obtain ⟨z,its,n,r,e⟩:=I.hok p _ h;exact ⟨its,n,r,e,z⟩
theorem Inv.K1{pins:List (Addr×Obj)}{σ:St}{H:Hp}{s:Shared}{p:Addr}{xs ys:List V}{its its':List Value}{n n':Nat}{f:Obj→Obj}(I:Inv X pins σ H s)(h:H p=some (.lst xs))
  (ho:s.heap.get? p=some {cls:= .type "list",data:= .seq its.toArray n}) (hf:f {cls:= .type "list",data:= .seq its.toArray n}={cls:= .type "list",data:= .seq its'.toArray n'}) (r:Vals ys its') (hz:ys.length≤sizeLine) (t:Nat):
  Inv X pins σ (upd H p (.lst ys)) {s with heap:=s.heap.update p f,toks:=t}:=by
 have e:(s.heap.update p f).get? p=some {cls:= .type "list",data:= .seq its'.toArray n'}:=by
  rw [Heap.get?_update_self f ho (by rw [hf]<;>rfl),hf]
 refine I.write (x:=p) (e:=p) (by rw [h];trivial) (.inl rfl) (λb u hb q=>(Heap.get?_update_other _ _ (Ne.symm hb)).trans q) ⟨_,e⟩ ?_
 exact ⟨hz,its',n',r,e⟩
def Je:V→V→V→Hp→(Hp→Prop)→Prop:=λo i v H Q=>∃p xs k j,o= .ref p∧i= .int k∧H p=some (.lst xs)∧iO xs.length k=some j∧Q (upd H p (.lst (xs.set j v)))
theorem set_list:Ma X Je:=by
 intro pins s σ H o i v ov iv u Q I ro ri rv h;obtain ⟨p,xs,k,j,rfl,rfl,hp,hj,q⟩:=h;cases ro;obtain ⟨t,rfl⟩:=ri;obtain ⟨its,n,r,ho,hz⟩:=I.lst hp;obtain ⟨h1,h2,h3,h4⟩:=z9 hj;have hl:=r.length;have hn:=kq
 have I':Inv X pins σ (upd H p (.lst (xs.set j v))) {s with heap:=s.heap.update p (Obj.mapSeq (·.setIfInBounds j u))}:=
  I.K1 hp ho (Ai its n j u) (r.set rv j) (by rw [fC];exact hz) s.toks
 by_cases h0:0≤k
 ·have hk:k.toNat=j:=by
   rw [seqIndex_of h0 h4] at h1;exact Option.some.inj h1
  exact PySem.W.ki_setAt ho h0 (by omega) (by rw [bO,←hl];exact h4) (by rw [hk];exact ⟨_,I',q⟩)
 ·have hk:(k+(its.toArray.size:Int)).toNat=j:=by
   rw [seqIndex_neg (by omega) h3] at h1
   rw [bO,←hl];exact Option.some.inj h1
  exact PySem.W.ki_setBack ho (by omega) (by rw [bO,←hl];exact h3) (by omega) (by rw [hk];exact ⟨_,I',q⟩)
theorem vV(lo hi:Option Int)(n:Nat):(sliceBounds lo hi none n).1=((HT.bG n 0 lo:Nat):Int)∧(sliceBounds lo hi none n).2.1=((HT.bG n n hi:Nat):Int)∧(sliceBounds lo hi none n).2.2=1:=by
 refine ⟨?_,?_,rfl⟩
 ·cases lo with
  |none=>simp [sliceBounds,HT.bG]
  |some i=>
   simp only [sliceBounds,HT.bG,Option.getD_none,show (1:Int)>0 by decide,if_true]
   by_cases h:i<0
   ·simp only [h,if_true]<;>omega
   ·simp only [h,if_false]<;>omega
 ·cases hi with
  |none=>simp [sliceBounds,HT.bG]
  |some i=>
   simp only [sliceBounds,HT.bG,Option.getD_none,show (1:Int)>0 by decide,if_true]
   by_cases h:i<0
   ·simp only [h,if_true]<;>omega
   ·simp only [h,if_false]<;>omega
theorem uX(its:List Value)(lo hi:Option Int):slicePick its.toArray lo hi none=((its.drop (HT.bG its.length 0 lo)).take (HT.bG its.length its.length hi-HT.bG its.length 0 lo)).toArray:=by
 obtain ⟨h1,h2,h3⟩:=vV lo hi its.toArray.size;unfold slicePick;rw [h1,h2,h3];simp only [sliceRange_one,pick_run,bO]<;>rfl
def VY(K:PySem.W.Frag):V→Option Int→Option Int→Hp→VK→Prop:=λx lo hi H Q=>∃a xs,x= .ref a∧aG K H a xs∧∀p,H p=none→Q (.ref p) (upd H p (.lst (gy xs lo hi)))
theorem qd:Bf X (VY X.K):=by
 intro pins s σ H x v vl vu lo hi sl Q I rx hs pl pu h;obtain ⟨a,xs,rfl,hx,q⟩:=h;cases rx;obtain ⟨its,r,ht,hz⟩:=I.list hx;have hlen:=r.length;refine ⟨"list",_,slot_list_getitem.lookup,ht.isList.typeIs,?_⟩;refine wpAny_getItem_list_slice ht.isList hs pl pu .none (by simp) ?_ (by rw [bO]<;>omega)
 rw [uX,←hlen];refine ⟨.ref s.heap.objs.size,_,I.laid (t':=s.toks) (o:= .lst (gy xs lo hi)) (λb ob q=>Heap.get?_push_of_some _ q) (aV _) ?_,rfl,q _ (I.hok.fresh (aV _))⟩;exact ⟨j5 (j7 xs lo hi) hz,_,0,(r.drop (HT.bG xs.length 0 lo)).take (HT.bG xs.length xs.length hi-HT.bG xs.length 0 lo),Heap.get?_push_size _ rfl⟩
def gb:V→Bool
 | .aL=>true
 | .bl _=>true
 | .int _=>true
 | .str _=>true
 |_=>false
def oe:V→V→Bool
 | .aL, .aL=>true
 | .bl a, .bl b=>a==b
 | .bl a, .int b=>(if a then 1 else 0)==b
 | .int a, .bl b=>a==(if b then 1 else 0)
 | .int a, .int b=>a==b
 | .str a, .str b=>a==b
 |_,_=>false
theorem Kj{A:Around}{s:Shared}{y x:V}{u v:Value}(ry:RelV y u)(rx:RelV x v)(fy:gb y=true)(fx:gb x=true):SeqAt.EqAt A s u v (oe y x):=by
 cases y with
 |aL=>
  cases ry;cases x with
  |aL=>cases rx;exact SeqAt.EqAt.same _
  |bl b=>cases rx;exact SeqAt.EqAt.none_bool b
  |int b=>obtain ⟨t,rfl⟩:=rx;exact SeqAt.EqAt.none_int b t
  |str b=>obtain ⟨t,rfl⟩:=rx;exact SeqAt.EqAt.none_str b t
  |_=>exact absurd (show false=true from fx) dE
 |bl a=>
  cases ry;cases x with
  |aL=>cases rx;exact SeqAt.EqAt.bool_none a
  |bl b=>cases rx;exact SeqAt.EqAt.bool_bool a b
  |int b=>obtain ⟨t,rfl⟩:=rx;exact SeqAt.EqAt.bool_int a b t
  |str b=>obtain ⟨t,rfl⟩:=rx;exact SeqAt.EqAt.bool_str a b t
  |_=>exact absurd (show false=true from fx) dE
 |int a=>
  obtain ⟨t',rfl⟩:=ry;cases x with
  |aL=>cases rx;exact SeqAt.EqAt.int_none a t'
  |bl b=>cases rx;exact SeqAt.EqAt.int_bool a t' b
  |int b=>obtain ⟨t,rfl⟩:=rx;exact SeqAt.EqAt.int_int a t' b t
  |str b=>obtain ⟨t,rfl⟩:=rx;exact SeqAt.EqAt.int_str a t' b t
  |_=>exact absurd (show false=true from fx) dE
 |str a=>
  obtain ⟨t',rfl⟩:=ry;cases x with
  |aL=>cases rx;exact SeqAt.EqAt.str_none a t'
  |bl b=>cases rx;exact SeqAt.EqAt.str_bool a t' b
  |int b=>obtain ⟨t,rfl⟩:=rx;exact SeqAt.EqAt.str_int a t' b t
  |str b=>obtain ⟨t,rfl⟩:=rx;exact SeqAt.EqAt.str_str a t' b t
  |_=>exact absurd (show false=true from fx) dE
 |_=>exact absurd (show false=true from fy) dE
def nr(x:V)(u:Value):Bool:=match u with
 | .none=>oe .aL x
 | .bool b=>oe (.bl b) x
 | .int i _=>oe (.int i) x
 | .str z _=>oe (.str z) x
 |_=>false
theorem sT{x y:V}{u:Value}(r:RelV y u)(f:gb y=true):nr x u=oe y x:=by
 cases y with
 |aL=>cases r;rfl
 |bl b=>cases r;rfl
 |int i=>obtain ⟨t,rfl⟩:=r;rfl
 |str z=>obtain ⟨t,rfl⟩:=r;rfl
 |_=>exact absurd (show false=true from f) dE
theorem lq{x:V}:∀{xs:List V}{us:List Value},Vals xs us→xs.all gb=true→us.any (nr x)=xs.any λy=>oe y x
 |_,_, .nil,_=>rfl
 |y::xs,u::us, .cons r t,f=>by
  rw [List.all_cons,xq] at f;rw [List.any_cons,List.any_cons,sT r f.1,lq t f.2]
theorem iH{A:Around}{s:Shared}{x:V}{v:Value}(rx:RelV x v)(fx:gb x=true):∀{xs:List V}{us:List Value},Vals xs us→xs.all gb=true→∀u∈us,SeqAt.EqAt A s u v (nr x u)
 |_,_, .nil,_=>λu hu=>by cases hu
 |y::xs,u::us, .cons r t,f=>λu' hu=>by
  rw [List.all_cons,xq] at f
  rcases bE.mp hu with rfl|hu
  ·rw [sT r f.1];exact Kj r rx f.1 fx
  ·exact iH rx fx t f.2 u' hu
def BS(x:V)(xs:List V):Bool:=xs.any λy=>oe y x
def LB(K:PySem.W.Frag)(neg:Bool):R2:=λx y H Q=>∃p xs,y= .ref p∧(aG K H p xs∨cJ K H p xs)∧gb x=true∧xs.all gb=true∧Q (.bl (if neg then !BS x xs else BS x xs)) H
theorem Ci:OpR X (compareOp .In) (LB X.K false):=by
 intro pins s σ H x y v u Q I rx ry h;obtain ⟨p,xs,rfl,hq,fx,fs,q⟩:=h;cases ry
 rcases hq with hq|hq
 ·obtain ⟨its,r,pl,hz⟩:=I.list hq
  refine SeqAt.in_listAt (nr x) pl.isList (λw hw=>iH rx fx r fs w (by simpa using hw)) ⟨.bl _,H,I,rfl,?_⟩
  rw [show its.toArray.any (nr x)=its.any (nr x) by simp,lq r fs]
  exact q
 ·obtain ⟨its,r,pl,hz⟩:=I.tuple hq
  refine SeqAt.in_tupleAt (nr x) pl (λw hw=>iH rx fx r fs w (by simpa using hw)) ⟨.bl _,H,I,rfl,?_⟩
  rw [show its.toArray.any (nr x)=its.any (nr x) by simp,lq r fs]
  exact q
theorem nK:OpR X (compareOp .NotIn) (LB X.K true):=by
 intro pins s σ H x y v u Q I rx ry h;obtain ⟨p,xs,rfl,hq,fx,fs,q⟩:=h;cases ry
 rcases hq with hq|hq
 ·obtain ⟨its,r,pl,hz⟩:=I.list hq
  refine SeqAt.notIn_listAt (nr x) pl.isList (λw hw=>iH rx fx r fs w (by simpa using hw)) ⟨.bl _,H,I,rfl,?_⟩
  rw [show its.toArray.any (nr x)=its.any (nr x) by simp,lq r fs]
  exact q
 ·obtain ⟨its,r,pl,hz⟩:=I.tuple hq
  refine SeqAt.notIn_tupleAt (nr x) pl (λw hw=>iH rx fx r fs w (by simpa using hw)) ⟨.bl _,H,I,rfl,?_⟩
  rw [show its.toArray.any (nr x)=its.any (nr x) by simp,lq r fs]
  exact q
theorem bU:cT X (.builtin "len") (λxs H Q=>∃p ys,xs= [.ref p]∧(aG X.K H p ys∨cJ X.K H p ys)∧Q (.int ys.length) H):=by
 intro pins s σ H xs us Q I r h;obtain ⟨p,ys,rfl,hq,q⟩:=h;obtain ⟨u,rfl,rx⟩:=vals1 r;cases rx;have hn:=kq
 rcases hq with hq|hq
 ·obtain ⟨its,r',pl,hz⟩:=I.list hq
  have hlen:=r'.length;exact Calls.call_len_list pl.isList (by simp only [bO]<;>omega) ⟨.int ys.length,H,I.tok _,⟨s.toks+1,by rw [bO,hlen]⟩,q⟩
 ·obtain ⟨its,r',pl,hz⟩:=I.tuple hq
  have hlen:=r'.length;exact len_tuple pl (by simp only [bO]<;>omega) ⟨.int ys.length,H,I.tok _,⟨s.toks+1,by rw [bO,hlen]⟩,q⟩
theorem vG:cT X (.type "list") (λxs H Q=>∃p ys,xs= [.ref p]∧(aG X.K H p ys∨cJ X.K H p ys)∧∀l,H l=none→Q (.ref l) (upd H l (.lst ys))):=by
 intro pins s σ H xs us Q I r h;obtain ⟨p,ys,rfl,hq,q⟩:=h;obtain ⟨u,rfl,rx⟩:=vals1 r;cases rx
 have fin:∀(its:List Value),Vals ys its→ys.length≤sizeLine→∀(h':Heap)(c':Nat),(∀b o',s.heap.get? b=some o'→h'.get? b=some o')→
   h'.get? s.heap.objs.size=some {cls:= .type "list",dict:=none,data:= .seq its.toArray c',slots:= #[]}→EP X pins σ Q (.ref s.heap.objs.size) {s with heap:=h'}:=λits r' hz h' c' kp e=>
  ⟨.ref s.heap.objs.size,_,I.laid (t':=s.toks) kp (aV _) (show cM X.prog X.w _ h' _ (.lst ys) from ⟨hz,its,c',r',e⟩),rfl,q _ (I.hok.fresh (aV _))⟩
 rcases hq with hq|hq
 ·obtain ⟨its,r',pl,hz⟩:=I.list hq
  have hlen:=r'.length;obtain ⟨o,ho,hc,n,hd⟩:=pl.isList;exact call_list_seq p (.inl rfl) ho hc hd (λh' c' kp e=>fin its r' hz h' c' kp e) (by simp only [bO]<;>omega)
 ·obtain ⟨its,r',pl,hz⟩:=I.tuple hq
  have hlen:=r'.length;obtain ⟨o,ho,hc,n,hd⟩:=pl;exact call_list_seq p (.inr rfl) ho hc hd (λh' c' kp e=>fin its r' hz h' c' kp e) (by simp only [bO]<;>omega)
def L1(K:PySem.W.Frag)(T:String)(x:V)(H:Hp):Prop:=match x with
 | .str _=>T="str"
 | .int _=>T="int"
 | .ref p=>(T="list"∧∃xs,aG K H p xs)∨(T="tuple"∧∃o,K.lookup p=some o∧o.cls= .type "tuple"∧o.dict=none)∨
   (T="dict"∧((∃dS,H p=some (.dK dS))∨∃dS,H p=some (.dT dS)))∨(T="set"∧∃S n,H p=some (.set S n))
 |_=>False
theorem Ec{pins:List (Addr×Obj)}{σ:St}{H:Hp}{s:Shared}{T:String}{x:V}{v:Value}(I:Inv X pins σ H s)(r:RelV x v)(ty:L1 X.K T x H):
  s.TypeIs v T∧∀a,v= .ref a→∃ob,s.heap.get? a=some ob∧ob.dict=none:=by
 cases x with
 |str z=>
  obtain ⟨t,rfl⟩:=r;cases (show T="str" from ty);exact ⟨typeIs_str s z t,λ_ e=>nomatch e⟩
 |int i=>
  obtain ⟨t,rfl⟩:=r;cases (show T="int" from ty);exact ⟨typeIs_int s i t,λ_ e=>nomatch e⟩
 |ref p=>
  cases r
  rcases ty with ⟨rfl,xs,hq⟩ | ⟨rfl,o,hk,hc,hd⟩ | ⟨rfl,hk⟩ | ⟨rfl,S,n,hk⟩
  ·obtain ⟨its,_,pl,_⟩:=I.list hq
   refine ⟨pl.isList.typeIs,λa e=>?_⟩;cases e;obtain ⟨o,n,e,c,hd,_⟩:=pl;exact ⟨o,e,hd⟩
  ·refine ⟨⟨o,I.hU p o hk,hc⟩,λa e=>?_⟩
   cases e;exact ⟨o,I.hU _ o hk,hd⟩
  ·have z:∃o,s.heap.get? p=some o∧o.ExactDict:=by
    rcases hk with ⟨dS,hk⟩ | ⟨dS,hk⟩
    ·obtain ⟨_,_,_,_,o,_,_,e,ex,_⟩:=I.hok p _ hk
     exact ⟨o,e,ex⟩
    ·obtain ⟨_,_,_,_,o,_,_,e,ex,_⟩:=I.hok p _ hk
     exact ⟨o,e,ex⟩
   obtain ⟨o,e,ex⟩:=z;refine ⟨⟨o,e,ex.1⟩,λa e2=>?_⟩;cases e2;exact ⟨o,e,ex.2.1⟩
  ·obtain ⟨o,_,_,_,e,ex,_⟩:=I.hok p _ hk
   refine ⟨⟨o,e,ex.1⟩,λa e2=>?_⟩;cases e2;exact ⟨o,e,ex.2.1⟩
 |_=>exact False.elim ty
def WA(K:PySem.W.Frag)(T:String)(r:V→List V→Hp→VK→Prop)(to:TE):TE:=λσ H Q=>to σ H λx H1=>L1 K T x H1∧r x [] H1 Q
def tBM(K:PySem.W.Frag)(T:String)(r:V→List V→Hp→VK→Prop)(to:TE)(t:TA):TE:=λσ H Q=>to σ H λx H1=>L1 K T x H1∧t σ H1 λxs H2=>r x xs H2 Q
variable {o e:Expr} {es:List Expr} {to:TE} {t:TA} {name:Str} {apos aN:Pos} {T id:String} {r:V→List V→Hp→VK→Prop}
theorem DP(pa:PlainAttrs T)(slot:Slot T name id)(HG:typeOf (.builtin id)=pure (.type "method_descriptor"))(hm:JQ X id r)(ho:PE X o to)
  (dM:attributeBase o name X.env (eval o X.env)=eval o X.env:=by rfl) (cG:(apos.endLine==aN.line)=true:=by rfl):PE X (.Call (.Attribute o name apos) [] [] aN) (WA X.K T r to):=by
 intro pins s σ H Q I h;refine wpAny_Call_method0_late dM cG (thn (ho pins s σ H _ I h) λv s1 ⟨x,H1,I1,r1,ty,q1⟩=>?_);obtain ⟨h1,h2⟩:=Ec I1 r1 ty;exact ⟨T,id,pa,slot,HG,h1,h2,Calls.callWith_builtin rfl (PySem.evalArgs_none (hm pins s1 σ H1 x [] v [] Q I1 r1 .nil q1))⟩
theorem fM(pa:PlainAttrs T)(slot:Slot T name id)(HG:typeOf (.builtin id)=pure (.type "method_descriptor"))(hm:JQ X id r)(ho:PE X o to)(ha:PA X (e::es) t)
  (dM:attributeBase o name X.env (eval o X.env)=eval o X.env:=by rfl)
  (jN:((backTo aN (starEach (e::es) X.env)).all (λx=>!x.1)&&(backToKw aN (keywordEach [] X.env)).all (λx=>x.1.isSome)
   &&decide ((e::es).length+([]:List Keyword).length+(if ([]:List Keyword).isEmpty then 0 else 1)<30))=true:=by rfl)
  (cG:(apos.endLine==aN.line)=true:=by rfl) (hs:starEach (e::es) X.env=(false,eval e X.env)::starEach es X.env:=by rfl) (fe:(backTo aN (starEach es X.env)).any (·.1)=false:=by rfl):
  PE X (.Call (.Attribute o name apos) (e::es) [] aN) (tBM X.K T r to t):=by
 intro pins s σ H Q I h;refine wpAny_Call_method_late dM jN cG rfl (thn (ho pins s σ H _ I h) λv s1 ⟨x,H1,I1,r1,ty,q1⟩=>?_);obtain ⟨h1,h2⟩:=Ec I1 r1 ty;refine ⟨T,id,pa,slot,HG,h1,h2,?_⟩;have hA:=ha aN pins s1 σ H1 _ I1 q1;rw [hs] at hA ⊢;refine Calls.callWith_builtin (by show (false|| (backTo aN (starEach es X.env)).any (·.1))=false;rw [fe]<;>rfl) (Calls.evalArgs_plain ?_)
 exact thn hA λus s2 ⟨vs,H2,I2,r2,q2⟩=>hm pins s2 σ H2 x vs v us Q I2 r1 r2 q2
end
def Bd(X:Cx)(id:String)(r:V→List V→Hp→VK→Prop):Prop:=
 ∀(pins:List (Addr×Obj))(s:Shared)(σ:St)(H:Hp)(x:V)(xs:List V)(v:Value)(us:List Value)(Q:VK),Inv X pins σ H s→RelV x v→Vals xs us→r x xs H Q→
  wpAny (model X.prog X.w) X.A (call (.builtin id) (v::us)) (EP X pins σ Q) X.xe s
theorem Vals.one:∀{x:V}{us:List Value},Vals [x] us→∃u,us= [u]∧RelV x u
 |_,_, .cons r .nil=>⟨_,rfl,r⟩
theorem Vals.two:∀{x y:V}{us:List Value},Vals [x,y] us→∃u v,us= [u,v]∧RelV x u∧RelV y v
 |_,_,_, .cons r (.cons q .nil)=>⟨_,_,rfl,r,q⟩
theorem Vals.zero:∀{us:List Value},Vals [] us→us= []
 |_, .nil=>rfl
theorem Vals.dropLast{xs:List V}{us:List Value}(h:Vals xs us):Vals xs.dropLast us.dropLast:=by
 induction h with
 |nil=>exact .nil
 |cons r t ih=>
  cases t with
  |nil=>exact .nil
  |cons q t'=>exact .cons r ih
theorem Vals.eraseIdx:∀{xs:List V}{us:List Value}(i:Nat),Vals xs us→Vals (xs.eraseIdx i) (us.eraseIdx i)
 |_,_,_, .nil=> .nil
 |_,_,0, .cons _ t=>t
 |_,_,i+1, .cons r t=> .cons r (Vals.eraseIdx i t)
theorem Vals.reverse{xs:List V}{us:List Value}(h:Vals xs us):Vals xs.reverse us.reverse:=by
 induction h with
 |nil=>exact .nil
 |cons r t ih=>rw [List.reverse_cons,List.reverse_cons];exact Vals.append ih (.cons r .nil)
theorem zP{α:Type}(l:List α):l.eraseIdx (l.length-1)=l.dropLast:=by
 induction l with
 |nil=>rfl
 |cons a r ih=>
  cases r with
  |nil=>rfl
  |cons b r=>
   have e:(a::b::r).length-1=((b::r).length-1)+1:=by
    have h1:(a::b::r).length=r.length+2:=rfl;have h2:(b::r).length=r.length+1:=rfl;omega
   rw [e,List.eraseIdx_cons_succ,ih]
   all_goals rfl
theorem uo{α:Type}:∀(l:List α)(i:Nat),(l.eraseIdx i).length≤l.length
 | [],_=>aV _
 |_::_,0=>mK _
 |_::r,i+1=>Nat.succ_le_succ (uo r i)
section
variable {X:Cx} {pins:List (Addr×Obj)} {σ:St} {H:Hp} {s:Shared} {l b:Addr} {xs ys zs:List V}
theorem Inv.wO{its its':List Value}{n:Nat}{f:Array Value→Array Value}{t':Nat}(I:Inv X pins σ H s)(hH:H l=some (.lst xs))
  (e:s.heap.get? l=some {cls:= .type "list",data:= .seq its.toArray n}) (hf:f its.toArray=its'.toArray) (hv:Vals ys its') (hz:ys.length≤sizeLine):
  Inv X pins σ (upd H l (.lst ys)) {s with heap:=s.heap.update l (Obj.mapSeq f),toks:=t'}:=by
 have q:=PySem.IsL.update e f;rw [hf] at q;refine I.write (x:=l) (e:=l) (by rw [hH];exact trivial) (.inl rfl) (λb' u hb hu=>(Heap.get?_update_other s.heap (Obj.mapSeq f) (Ne.symm hb)).trans hu) ⟨_,q⟩ ?_
 exact ⟨hz,its',_,hv,q⟩
theorem Inv.Ia{its:List Value}{t':Nat}(I:Inv X pins σ H s)(hv:Vals ys its)(hz:ys.length≤sizeLine):
  Inv X pins σ (upd H s.heap.objs.size (.lst ys)) {s with heap:=s.heap.push {cls:= .type "list",data:= .seq its.toArray},toks:=t'}:=
 I.laid (λ_ _ q=>Heap.get?_push_of_some _ q) (aV _) ⟨hz,its,0,hv,Heap.get?_push_size _ rfl⟩
theorem Inv.fresh(I:Inv X pins σ H s):H s.heap.objs.size=none:=I.hok.fresh (aV _)
theorem Inv.lP(I:Inv X pins σ H s)(hH:H l=some (.lst xs)):xs.length≤sizeLine∧∃(its:List Value)(n:Nat),Vals xs its∧xs.length=its.length∧s.heap.get? l=some {cls:= .type "list",data:= .seq its.toArray n}:=by
 obtain ⟨z,its,n,r,e⟩:=I.hok l _ hH;exact ⟨z,its,n,r,r.length,e⟩
theorem Fi{n:Nat}(h:n≤sizeLine):Builtin.List.listTooLong n=false:=by
 unfold Builtin.List.listTooLong;exact decide_eq_false (by omega)
end
section
variable {X:Cx}
def Jb:V→List V→Hp→VK→Prop:=λx vs H Q=>∃l xs y,x= .ref l∧vs= [y]∧H l=some (.lst xs)∧xs.length<sizeLine∧Q .aL (upd H l (.lst (xs++ [y])))
theorem fL:Bd X "list.append" Jb:=by
 intro pins s σ H x vs v us Q I rx rv h;obtain ⟨l,xs,y,rfl,rfl,hH,hz,q⟩:=h;cases rx;obtain ⟨u,rfl,ru⟩:=rv.one;obtain ⟨z,its,n,r,hl,e⟩:=I.lP hH;refine call_meets F.slot_list_append ⟨_,e,rfl⟩ F.entry_list_append (F.args_list_append_2 _ _) (PySem.list_append l its.toArray n u (by rw [bO];omega)) ⟨e,?_⟩
 refine ⟨.aL,_,I.wO (its':=its++ [u]) hH e (by simp) (r.append (.cons ru .nil)) ?_,rfl,q⟩
 rw [dX,List.length_singleton];omega
def Jc:V→List V→Hp→VK→Prop:=λx vs H Q=>∃l b xs zs,x= .ref l∧vs= [.ref b]∧H l=some (.lst xs)∧H b=some (.lst zs)∧xs.length+zs.length≤sizeLine∧Q .aL (upd H l (.lst (xs++zs)))
theorem B9:Bd X "list.extend" Jc:=by
 intro pins s σ H x vs v us Q I rx rv h;obtain ⟨l,b,xs,zs,rfl,rfl,hH,hB,hz,q⟩:=h;cases rx;obtain ⟨u,rfl,ru⟩:=rv.one;cases ru;obtain ⟨z,its,n,r,hl,e⟩:=I.lP hH;obtain ⟨z2,rJ,n2,r2,zT,e2⟩:=I.lP hB;have fI:its.toArray.size+rJ.toArray.size≤sizeLine:=by rw [bO,bO];omega
 have OW:¬(!its.toArray.isEmpty&&Builtin.List.listTooLong (its.toArray.size+rJ.toArray.size))=true:=by
  rw [Fi fI,Bool.and_false];exact dE
 refine call_meets F.slot_list_extend ⟨_,e,rfl⟩ F.entry_list_extend (F.args_list_extend_2 _ _)
  (AutoSeq1.list_extend_list_list_0 l its.toArray n b rJ.toArray n2 OW (by rw [bO];omega) (by omega)) ⟨e,e2,?_⟩
 refine ⟨.aL,_,I.wO (its':=its++rJ) hH e (by simp) (r.append r2) ?_,rfl,q⟩
 rw [dX];omega
def VX:V→List V→Hp→VK→Prop:=λx vs H Q=>∃l xs y,x= .ref l∧vs= []∧H l=some (.lst xs)∧xs[xs.length-1]? =some y∧Q y (upd H l (.lst xs.dropLast))
theorem K2:Bd X "list.pop" VX:=by
 intro pins s σ H x vs v us Q I rx rv h;obtain ⟨l,xs,y,rfl,rfl,hH,hy,q⟩:=h;cases rx;have Pc:=rv.zero;subst Pc;obtain ⟨z,its,n,r,hl,e⟩:=I.lP hH;obtain ⟨u,hu,ru⟩:=r.get hy
 have E5:its.toArray[its.toArray.size-1]? =some u:=by
  show its.toArray[its.length-1]? =some u;rw [←e7,←hl];exact hu
 refine call_meets F.slot_list_pop ⟨_,e,rfl⟩ F.entry_list_pop (F.args_list_pop_1 _) (MeetsSeq.list_pop_last l its.toArray n u E5 (by rw [bO];omega)) ⟨e,?_⟩
 refine ⟨y,_,I.wO (its':=its.dropLast) hH e ?_ r.dropLast ?_,ru,q⟩
 ·show its.toArray.eraseIdxIfInBounds (its.toArray.size-1)=its.dropLast.toArray
  rw [bO,List.eraseIdxIfInBounds_toArray,zP]
 ·rw [List.length_dropLast]
  omega
def LD:V→List V→Hp→VK→Prop:=λx vs H Q=>∃l xs i k y,x= .ref l∧vs= [.int i]∧H l=some (.lst xs)∧-(2^63)≤i∧i<2^63∧seqIndex? i xs.length=some k∧xs[k]? =some y∧Q y (upd H l (.lst (xs.eraseIdx k)))
theorem Fh:Bd X "list.pop" LD:=by
 intro pins s σ H x vs v us Q I rx rv h;obtain ⟨l,xs,i,k,y,rfl,rfl,hH,h1,h2,hk,hy,q⟩:=h;cases rx;obtain ⟨u,rfl,ru⟩:=rv.one;obtain ⟨t,rfl⟩:=ru;obtain ⟨z,its,n,r,hl,e⟩:=I.lP hH;obtain ⟨w,hw,oQ⟩:=r.get hy
 refine call_meets F.slot_list_pop ⟨_,e,rfl⟩ F.entry_list_pop (F.args_list_pop_2 _ _)
  (MeetsSeq.list_pop_at l its.toArray n i t k w (fitsIndex_both h1 h2) (by rw [bO,←hl];exact hk) (by rw [←e7];exact hw) (by rw [bO];omega)) ⟨e,?_⟩
 refine ⟨y,_,I.wO (its':=its.eraseIdx k) hH e ?_ (r.eraseIdx k) ?_,oQ,q⟩
 ·show its.toArray.eraseIdxIfInBounds k=(its.eraseIdx k).toArray
  rw [List.eraseIdxIfInBounds_toArray]
 ·have:=uo xs k
  omega
def FA:V→List V→Hp→VK→Prop:=λx vs H Q=>∃l xs,x= .ref l∧vs= []∧H l=some (.lst xs)∧Q .aL (upd H l (.lst xs.reverse))
theorem Ak:Bd X "list.reverse" FA:=by
 intro pins s σ H x vs v us Q I rx rv h;obtain ⟨l,xs,rfl,rfl,hH,q⟩:=h;cases rx;have Pc:=rv.zero;subst Pc;obtain ⟨z,its,n,r,hl,e⟩:=I.lP hH;refine call_meets F.slot_list_reverse ⟨_,e,rfl⟩ F.entry_list_reverse (F.args_list_reverse_1 _) (AutoSeq1.list_reverse_list_0 l its.toArray n (by rw [bO];omega)) ⟨e,?_⟩
 refine ⟨.aL,_,I.wO (its':=its.reverse) hH e (by simp) r.reverse ?_,rfl,q⟩
 rw [List.length_reverse];omega
def VU:R2:=λx y H Q=>∃l b xs zs,x= .ref l∧y= .ref b∧H l=some (.lst xs)∧H b=some (.lst zs)∧xs.length+zs.length≤sizeLine∧∀p,H p=none→Q (.ref p) (upd H p (.lst (xs++zs)))
theorem yM:OpR X (binaryOp .Add) VU:=by
 intro pins s σ H x y v u Q I rx ry h;obtain ⟨l,b,xs,zs,rfl,rfl,hH,hB,hz,q⟩:=h;cases rx;cases ry;obtain ⟨z,its,n,r,hl,e⟩:=I.lP hH;obtain ⟨z2,rJ,n2,r2,zT,e2⟩:=I.lP hB;refine PySem.P.add_list e e2 ?_ (by rw [bO,bO];omega)
 have ea:its.toArray++rJ.toArray=(its++rJ).toArray:=by simp
 rw [ea];exact ⟨.ref _,_,I.Ia (t':=s.toks) (r.append r2) (by rw [dX];omega),rfl,q _ I.fresh⟩
end
section
variable {prog:Program} {w:World} {A:Around} {E:Value→Shared→Prop} {s:Shared}
end
section
variable {X:Cx}
end
end L2
namespace Qv
open PySem PySem.W PySem.Calls PyProof.Rows
theorem qE{P:Params}{h:Heap}:∀(ns:List Int)(vs:List Value),WellAll P h vs (ns.map WData.int)→IntsAre vs ns:=by
 intro ns
 induction ns with
 |nil=>
  intro vs w;rw [List.map_nil] at w;cases w;exact .nil
 |cons n ns ih=>
  intro vs w;rw [fD] at w;cases w with
  |cons a b=>
   cases a;exact .cons _ _ (ih _ b)
theorem CF{l:OpenLaw}{n:Nat}(hn:l.most=some n){P:Params}{h:Heap}{args:List WData}{vals:List Value}
  (DB:l.row.toRowW.claim.pre args=true) (Pd:WellAll P h vals args):
  ∃a vs ns,vals= [Value.ref a]∧args= [WData.list (ns.map WData.int)]∧h.get? a=some {cls:= .type "list",data:= .seq vs.toArray}∧IntsAre vs ns∧ns.length≤n:=by
 have ZA:WShape.hasAll [] args [.list .int]=true:=(pre_splitW DB).1;have hc:l.pre.holds [] {args:=args}=true:=(pre_splitW DB).2;obtain ⟨d,r,rfl,h1,h2⟩:=hasAllW_cons ZA;obtain rfl:=hasAllW_nil h2;obtain ⟨xs,rfl,h3⟩:=hasW_list h1;obtain ⟨ns,rfl⟩:=items_int h3
 have hlen:ns.length≤n:=by
  unfold OpenLaw.pre at hc
  have h4:(WTm.not (.lt (.lit (.int (n:Int))) (.len (.arg 0)))).holds [] {args:= [.list (ns.map .int)]}=true:=by
   have h4:=(holds_andW hc).1;rw [hn] at h4;exact h4
  have h5:=condW_of h4 (w_not (w_lt w_lit (w_len_list (w_arg rfl))));rw [aP] at h5;refine kW λq=>?_;have q':(n:Int)<((ns.length:Nat):Int):=by omega
  first
   | (rw [decide_eq_true q'] at h5;exact absurd h5 (by decide))
   | (simp at h5;omega)
 cases Pd with
 |cons w1 w2=>
  cases w2;cases w1 with
  |list ho ic=>exact ⟨_,_,ns,rfl,rfl,ho,qE ns _ ic,hlen⟩
theorem Cs(l:OpenLaw)(args:List WData):l.row.toRowW.claim.post args (.bool true) args=true:=
 postW_of (r:=l.row.toRowW) (X:=(true==true))
  (show WShape.has [] (.bool true) .bool=true by first|rfl|decide|simp [WShape.has,WShape.arms,WShape.armsAll])
  (show (WTm.eq .res (.lit (.bool true))).value [] {args:=args,res:=some (.bool true),after:=args}=some (.bool (true==true)) from w_eq_bool (w_res rfl) w_lit) rfl
theorem xE{l:OpenLaw}{n:Nat}{q:Program}{loose:List Str}{XP:(Str→Option Value)→Heap→Prop}{YP:World→Heap→Prop}{d:DefRec}
  (hn:l.most=some n) (BH:d.params.defaults= [])
  (call:∀(w:World)(s₀ s₁:Shared)(mg mb:Str→Option Value)(fa:Addr)(o:Obj)(pm cd doc:Value)(a:Addr)(vs:List Value)(ns:List Int),
   Ground q loose [] XP w s₀ mg mb s₁.heap→YP w s₁.heap→
   s₁.heap.get? fa=some o→o.data= .func (docDef d.name d.params d.body d.scope pm cd doc)→s₁.heap.CodeRec cd d.name→mg d.name=some (.ref fa)→
   s₁.heap.get? a=some {cls:= .type "list",data:= .seq vs.toArray}→IntsAre vs ns→ns.length≤n→s₁.gens= #[]→
   codeAny (model l.prog w) callerA (.call (.ref fa) ⟨[.ref a],[]⟩) (λr s'=>r= .ok (.ret (.bool true))∧OldK s₁.heap s'.heap∧s'.os=s₁.os∧AllBare s'.gens) s₁):
  WalkO q loose XP YP l.row.toRowW d [] (λf vs=>PySem.call f vs):=by
 intro w s₀ s₁ mg mb G Y fa o pm cd doc dV kV ho hd fH hD t9 hg args vals as DB aae hrd Pd zV;obtain rfl:dV= .none:=Dflts.none hD BH;obtain rfl:kV= .none:=Dflts.noKw hD;obtain ⟨a,vs,ns,rfl,rfl,HA,hints,hlen⟩:=CF hn DB Pd;refine enter_call (codeAny_mono (call w s₀ s₁ mg mb fa o pm cd doc a vs ns G Y ho (fd_plain hd) fH t9 HA hints hlen hg) λr s' hq=>?_);obtain ⟨rfl,h2,h3,h4⟩:=hq;exact ⟨.inl ⟨.bool true, .bool true,[],rfl,λ_=>rfl, .bool true,Cs l _,λ_=>⟨List.Pairwise.nil,λ_ hm=>(nomatch hm)⟩⟩,h2,h3,h4⟩
section
variable {prog:Program} {w:World} {A:Around} {E:Value→Shared→Prop} {s:Shared} {K:Frag}
end
end Qv
namespace L2
open PySem PySem.Spec PyProof.Rows
theorem vc:∀{vs:List Value}{ns:List Int},IntsAre vs ns→Vals (ns.map V.int) vs
 |_,_, .nil=> .nil
 |_,_, .cons n t h=> .cons ⟨t,rfl⟩ (vc h)
def FZ(H:Hp):Prop:=∀b,H b=none∨∃o xs,H b=some (.pD o (.lst xs))
theorem Fb{P:Program}{w:World}{K:PySem.W.Frag}{mg mb:Str→Option Value}{CX:qu}{k:Nat}{fa a:Addr}{fd:FuncData}{x:Str}{sp:Sp}{s₁:Shared}{vs:List Value}{ns:List Int}
  (KX:K.In s₁.heap) (yc:s₁.heap.Ns mainGlobals mg) (hb:s₁.heap.Ns builtinsNs mb) (YT:∀x:Str,x≠"__name__"→mb x=bootBuiltins x) (Tv:s₁.heap.NoLimit) (hg:s₁.gens= #[])
  (ha:s₁.heap.get? a=some {cls:= .type "list",data:= .seq vs.toArray}) (hi:IntsAre vs ns) (hl:ns.length≤sizeLine) (hr:cC k callerA)
  (F:∀base:Heap,K.In base→base.Ns mainGlobals mg→FnOk P w K mg base CX k fa fd [x] sp) (OH:∀(s:Shared)(u:Value),BindsTo s fd ⟨[u],[]⟩ [(x,u)])
  (z3:∀H:Hp,FZ H→aG K H a (ns.map V.int)→sp [.ref a] H (λv _=>v= .bl true) λ_ _ _=>False)
  (Oy:∀H e s',CX [] H s₁ (λ_ _ _=>False) e s'→False):
  codeAny (model P w) callerA (.call (.ref fa) ⟨[.ref a],[]⟩) (λr s'=>r= .ok (.ret (.bool true))∧OldK s₁.heap s'.heap∧s'.os=s₁.os∧AllBare s'.gens) s₁:=by
 have rv:=vc hi;have UG:=hi.length
 have core:∀H:Hp,FZ H→aG K H a (ns.map V.int)→iq P w H s₁.heap→(∀b,H b≠none→b=a)→(H a≠none→K.lookup a=none)→
   codeAny (model P w) callerA (.call (.ref fa) ⟨[.ref a],[]⟩) (λr s'=>r= .ok (.ret (.bool true))∧OldK s₁.heap s'.heap∧s'.os=s₁.os∧AllBare s'.gens) s₁:=by
  intro H hO hS hok hA hK;have zt:∀{b:Addr}{o:Obj},s₁.heap.get? b=some o→H b=none→(pI s₁.heap H).get? b=some o:=λe n=>EY e n
  have Ik:∀{b:Addr}{o:Obj}{es:Array DictEntry}{ep:Nat},s₁.heap.get? b=some o→o.data= .dict es ep→H b=none:=λ {b o es ep} e d=>by
   cases q:H b with
   |none=>rfl
   |some u=>
    have e':b=a:=hA b (by rw [q];simp)
    subst e';rw [ha] at e;cases e;have d':Data.seq vs.toArray _=Data.dict es ep:=d;cases d'
  have K7:∀{b:Addr}{m:Str→Option Value},s₁.heap.Ns b m→(pI s₁.heap H).Ns b m:=λ {b m} ⟨o,es,ep,e,d,r⟩=>⟨o,es,ep,zt e (Ik e d),d,r⟩
  have SR:K.In (pI s₁.heap H):=λb o e=>zt (KX b o e) (by
   cases q:H b with
   |none=>rfl
   |some u=>
    have e':b=a:=hA b (by rw [q];simp)
    subst e';rw [hK (by rw [q];simp)] at e;cases e)
  have hM:Mod K mg (pI s₁.heap H):=⟨SR,K7 yc,⟨mb,K7 hb,YT⟩,let ⟨mc,h1,h2⟩:=Tv;⟨mc,K7 h1,h2⟩⟩;have e0:Env0 P w K mg (pI s₁.heap H) callerA [] s₁ H:=⟨rfl,hM,λb o e=>Ir e,Nat.le_of_eq (BK _ _),trivial,λb hb=>absurd (show b∈([]:List Addr) from hb) (by simp),hok, .of_eq hg⟩
  refine codeAny_mono ((F _ SR (K7 yc)).run callerA [] s₁ H ⟨[.ref a],[]⟩ [.ref a] [.ref a] _ _ hr e0 (OH s₁ (.ref a)) (.cons rfl .nil) (z3 H hO hS)) λr s' h=>?_;cases r with
  |error e=>exact (Oy H e s' h).elim
  |ok fl=>
   cases fl with
   |next=>exact False.elim h
   |brk=>exact False.elim h
   |cont=>exact False.elim h
   |ret u=>
    obtain ⟨v,H',os,bare,un,TM,r',q⟩:=h;have q':v= .bl true:=q;subst q';obtain rfl:u=Value.bool true:=r';refine ⟨rfl,OldK.of_keep λb o e=>?_,os,bare⟩;cases q:H b with
    |none=>exact un.keep b o e q (by intro z;exact absurd (show b∈([]:List Addr) from z) (by simp)) (by simp)
    |some u=>
     rcases hO b with z| ⟨ob,xs,z⟩
     ·rw [q] at z;cases z
     ·have z2:=un.frzs b ob _ z
      obtain ⟨e1,_⟩:=hok b _ z;obtain ⟨e2,_⟩:=TM b _ z2;rw [e] at e1;cases e1;exact e2
 cases hk:K.lookup a with
 |some o=>
  have e:=KX a o hk;rw [ha] at e;cases e;refine core (λ_=>none) (λ_=> .inl rfl) (.inr ⟨_,vs.toArray,_,hk,rfl,rfl,rfl,by rw [bO,UG];exact hl,by simpa using rv⟩) (λb u z=>by have z':(none:Option HO)=some u:=z;cases z') (λb z=>absurd rfl z) λz=>absurd rfl z
 |none=>
  refine core (λb=>if b=a then some (.pD {cls:= .type "list",data:= .seq vs.toArray} (.lst (ns.map V.int))) else none) (λb=>?_) (.inl (.inr ⟨{cls:= .type "list",data:= .seq vs.toArray},if_pos rfl⟩)) (λb u z=>?_) (λb z=>?_) λ_=>hk
  ·by_cases hb:b=a
   ·exact .inr ⟨_,_,if_pos hb⟩
   ·exact .inl (if_neg hb)
  ·by_cases hb:b=a
   ·have z':=(if_pos hb).symm.trans z
    cases z';subst hb;exact ⟨ha,by rw [aP];exact hl,vs,_,rv,ha⟩
   ·have z':=(if_neg hb).symm.trans z
    cases z'
  ·by_cases hb:b=a
   ·exact hb
   ·exact absurd (if_neg hb) z
theorem JG{l:PySem.W.OpenLaw}{n k:Nat}{q:Program}{loose:List Str}{XP:(Str→Option Value)→Heap→Prop}{YP:World→Heap→Prop}{d:DefRec}{K:Params→PySem.W.Frag}{CX:World→qu}{sp:World→Sp}{x:Str}
  (hn:l.most=some n) (vM:n≤sizeLine) (BH:d.params.defaults= []) (hr:cC k callerA)
  (hY:∀(w:World)(h:Heap),YP w h→(K w.params).In h)
  (F:∀(w:World)(mg:Str→Option Value)(fa:Addr)(h:Heap),(K w.params).In h→h.Ns mainGlobals mg→mg d.name=some (.ref fa)→
   ∃fd:FuncData,(∀(s:Shared)(u:Value),BindsTo s fd ⟨[u],[]⟩ [(x,u)])∧
    ∀base:Heap,(K w.params).In base→base.Ns mainGlobals mg→FnOk l.prog w (K w.params) mg base (CX w) k fa fd [x] (sp w))
  (z3:∀(w:World)(H:Hp)(a:Addr)(ns:List Int),ns.length≤n→FZ H→aG (K w.params) H a (ns.map V.int)→sp w [.ref a] H (λv _=>v= .bl true) λ_ _ _=>False)
  (Oy:∀(w:World)(H:Hp)(s:Shared)(e:Value)(s':Shared),CX w [] H s (λ_ _ _=>False) e s'→False):
  PySem.W.WalkO q loose XP YP l.row.toRowW d [] (λf vs=>PySem.call f vs):=by
 refine Qv.xE hn BH λw s₀ s₁ mg mb fa o pm cd doc a vs ns G Y ho hd fH t9 HA hints hlen hg=>?_;have KX:=hY w _ Y;obtain ⟨fd,hb,hF⟩:=F w mg fa _ KX G.T.g t9;exact Fb KX G.T.g G.T.b G.T.builtins G.T.nolimit hg HA hints (j5 hlen vM) hr hF hb (λH hO hS=>z3 w H a ns hlen hO hS) λH e s'=>Oy w H s₁ e s'
def inClass(s:Stmt)(j:Nat):Stmt:=match s with
 | .ClassDef _ _ _ body _ _ _ _ _ _ _=>body.getD j (.Pass ⟨0,0,0,0⟩)
 |_=> .Pass ⟨0,0,0,0⟩
def iN(s:Stmt):Arguments:=match s with
 | .FunctionDef _ a _ _ _ _ _ _ _ _=>a
 |_=>{posonlyargs:= [],args:= [],vararg:=none,kwonlyargs:= [],kw_defaults:= [],kwarg:=none,defaults:= []}
def eU(s:Stmt):List Stmt:=match s with
 | .FunctionDef _ _ b _ _ _ _ _ _ _=>b
 |_=> []
def ao(s:Stmt):Scope:=match s with
 | .FunctionDef _ _ _ _ _ _ sc _ _ _=>sc
 |_=>{kind:= .function,names:= [],isGenerator:=false,isCoroutine:=false}
abbrev cw:qu:=λ_ _ _ _ _ _=>False
abbrev E0:XK:=λ_ _ _=>False
theorem bR{X:Cx}:Passes cw X E0:=λ_ _ _ _ _ _ _ h=>h.elim
structure vD (K:PySem.W.Frag) (x qual:Str) (st:Stmt) (f:Addr) (fd:FuncData):Prop where
 ex:∃(oc:Value)(od:Option Addr)(kV doc pm:Value)(an:Option Addr)(br ct:Value)(Aq:Array (Option Value)),
  fd=PySem.W.fnOf x qual (iN st) (eU st) (ao st) .none kV doc pm an br ct∧K.lookup f=some ⟨oc,od, .func fd,Aq⟩∧PySem.W.codeIn K br qual=true
 kp:PySem.W.keepIn K (.ref f)=true
section
variable {P:Program} {w:World} {K:PySem.W.Frag} {mg:Str→Option Value} {base:Heap}
theorem vD.ok{x qual:Str}{st:Stmt}{f:Addr}{fd:FuncData}{N ps:List Str}{k:Nat}{sp:Sp}(F:vD K x qual st f fd)(S:aJ N ps (ao st))(len:∀vs H Q E,sp vs H Q E→vs.length=ps.length)
  (oq:∀(br:Value)(A:Around)(outer:List Env)(s:Shared)(H:Hp)(vs:List V)(Q:VK)(E:XK),cC k (A.deeper (envOfC qual (ao st) s.heap.objs.size f br))→sp vs H Q E→
   ∃t,kY (pj cw P w K mg base N qual (ao st) f br A outer s H E).ja (eU st) t∧t {nx:=λ_ H'=>Q .aL H',rt:=Q} (start N vs) H):FnOk P w K mg base cw (k+1) f fd ps sp:=by
 obtain ⟨oc,od,kV,doc,pm,an,br,ct,Aq,rfl,lk,fH⟩:=F.ex;refine Ou lk fH S len λA outer s H vs Q E hr z3=>?_;obtain ⟨t,h,q⟩:=oq br A outer s H vs Q E hr z3;exact ⟨t,h.ja,q⟩
theorem vD.binds{x qual:Str}{st:Stmt}{f:Addr}{fd:FuncData}{ps:List Str}(F:vD K x qual st f fd)
  (h:∀(kV doc pm:Value)(an:Option Addr)(br ct:Value)(us:List Value),us.length=ps.length→bindArgs (PySem.W.fnOf x qual (iN st) (eU st) (ao st) .none kV doc pm an br ct) ⟨us,[]⟩=pure (ps.zip us)):Binds K fd ps []:=by
 obtain ⟨oc,od,kV,doc,pm,an,br,ct,Aq,rfl,lk,fH⟩:=F.ex;exact .all (h kV doc pm an br ct)
theorem pF{x qual:Str}{st:Stmt}{f:Addr}{oc:Value}{od an:Option Addr}{Aq:Array (Option Value)}{kV doc pm br ct:Value}(l:K.lookup f=some ⟨oc,od, .func (PySem.W.fnOf x qual (iN st) (eU st) (ao st) .none kV doc pm an br ct),Aq⟩)
  (c:PySem.W.codeIn K br qual=true) (k:PySem.W.keepIn K (.ref f)=true):vD K x qual st f (PySem.W.fnOf x qual (iN st) (eU st) (ao st) .none kV doc pm an br ct):=⟨⟨oc,od,kV,doc,pm,an,br,ct,Aq,rfl,l,c⟩,k⟩
end
theorem bq{n:Nat}(h:n≤1000):n<sizeLine:=mI h (by decide)
section
variable {X:Cx}
theorem pv(i:Nat){x:Str}{pos:Pos}(hN:X.N[i]? =some x:=by rfl)(hv:qw X.env.scope x:=by first|exact Or.inl rfl|exact Or.inr (Or.inl rfl) |exact Or.inr (Or.inr rfl))(hd:(x==("__debug__":Str))=false:=by decide)
  (fH:(x==("__classdict__":Str))=false:=by decide):PE X (.Name x pos) (rV i):=DQ hN hv hd fH
end
theorem dq{A B:Prop}(h:B):if false=true then A else B:=by
 rw [if_neg dE];exact h
theorem fQ{A B:Prop}(h:A):if true=true then A else B:=by
 rw [if_pos rfl];exact h
theorem rH{c A B:Prop} [Decidable c] (h1:c→A) (h2:¬c→B):if c then A else B:=by
 by_cases h:c
 ·rw [if_pos h]
  exact h1 h
 ·rw [if_neg h]
  exact h2 h
def aC(H H':Hp):Prop:=∀b o,H b=some o→H' b=some o
theorem aC.refl(H:Hp):aC H H:=λ_ _ h=>h
theorem aC.trans{H H1 H2:Hp}(a:aC H H1)(b:aC H1 H2):aC H H2:=λc o h=>b c o (a c o h)
theorem aC.free{H H':Hp}(e:aC H H'){l:Addr}(h:H' l=Option.none):H l=Option.none:=by
 cases q:H l with
 |none=>rfl
 |some o=>
  rw [e l o q] at h;cases h
theorem aC.seq{K:PySem.W.Frag}{H H':Hp}{a:Addr}{xs:List V}(e:aC H H')(h:aG K H a xs):aG K H' a xs:=by
 rcases h with (h| ⟨o,h⟩) |h
 ·exact .inl (.inl (e _ _ h))
 ·exact .inl (.inr ⟨o,e _ _ h⟩)
 ·exact .inr h
def iM(env:Env):List (Str×NameKind)→List (Str×Addr)→List (Str×Addr)
 | [],cs=>cs
 | (n,k)::r,cs=>if k==NameKind.free then iM env r ((n,(env.cells.lookup n).getD 0)::cs) else iM env r cs
theorem gF{scope:Scope}{env:Env}(h:∀x∈scope.names,x.2= .free→∃c,env.cells.lookup x.1=some c):closureFor scope env=pure (iM env scope.names []):=by
 simp only [closureFor]
 have go:∀(names:List (Str×NameKind))(cs:List (Str×Addr)),(∀x∈names,x.2= .free→∃c,env.cells.lookup x.1=some c)→
   (forIn names cs λx __s=>if (x.snd==NameKind.free)=true then (do let a ←cellOf env x.fst;pure (ForInStep.yield ((x.fst,a)::__s))) else pure (ForInStep.yield __s))=(pure (iM env names cs):Sem _):=by
  intro names
  induction names with
  |nil=>intro cs _;rfl
  |cons x r ih=>
   intro cs h;obtain ⟨n,k⟩:=x;rw [List.forIn_cons,iM];have hr:=λcs=>ih cs λy hy=>h y (cn _ hy);cases hk:k==NameKind.free with
   |false=>
    simp only [hk,fB,if_false];exact hr cs
   |true=>
    have gd:k= .free:=by simpa using hk
    obtain ⟨c,hc⟩:=h (n,k) b8 gd;simp only at hc;simp only [if_true,cellOf,hc];exact hr _
 rw [go _ _ h];rfl
theorem fb{env:Env}:∀(names:List (Str×NameKind))(cs:List (Str×Addr)),(∀x∈names,x.2= .free→∃c,env.cells.lookup x.1=some c)→(∀x c,cs.lookup x=some c→env.cells.lookup x=some c)→
  ∀x c,(iM env names cs).lookup x=some c→env.cells.lookup x=some c
 | [],cs,_,hc=>hc
 | (n,k)::r,cs,h,hc=>by
  rw [iM]
  split
  ·rename_i hk
   refine fb r _ (λy hy=>h y (cn _ hy)) λx c e=>?_;obtain ⟨c',pG⟩:=h (n,k) b8 (by simpa using hk)
   rw [qq] at e
   split at e
   ·rename_i hx
    have vQ:x=n:=by simpa using hx
    subst vQ;simp only at pG;rw [pG] at e ⊢;exact e
   ·exact hc x c e
  ·exact fb r cs (λy hy=>h y (cn _ hy)) hc
theorem mL{env:Env}:∀(names:List (Str×NameKind))(cs:List (Str×Addr))(x:Str),((x,NameKind.free)∈names∨∃c,cs.lookup x=some c)→∃c,(iM env names cs).lookup x=some c
 | [],cs,x,h=>by
  rcases h with h|h
  ·cases h
  ·exact h
 | (n,k)::r,cs,x,h=>by
  rw [iM]
  split
  ·rename_i hk
   refine mL r _ x ?_
   by_cases e:x=n
   ·subst e;exact .inr ⟨(env.cells.lookup x).getD 0,by simp [qq]⟩
   ·have ne:(x==n)=false:=by simpa using e
    rcases h with h| ⟨c,h⟩
    ·rcases bE.mp h with z|z
     ·cases z;exact absurd rfl e
     ·exact .inl z
    ·exact .inr ⟨c,by rw [qq,ne];exact h⟩
  ·rename_i hk
   refine mL r cs x ?_
   rcases h with h|h
   ·rcases bE.mp h with z|z
    ·cases z;exact absurd rfl hk
    ·exact .inl z
   ·exact .inr h
def mw(src:List (Option Nat))(σ:St):St:=src.map λo=>o.bind λi=>(σ[i]?).bind id
def dm(scope:Scope)(XN:List Str):List (Option Nat)→List Str→Prop
 | [],[]=>True
 |none::r,_::n=>dm scope XN r n
 |some i::r,x::n=>XN[i]? =some x∧scope.names.lookup x=some .free∧dm scope XN r n
 |_,_=>False
theorem dm.len{scope:Scope}{XN:List Str}:∀{src:List (Option Nat)}{NC:List Str},dm scope XN src NC→src.length=NC.length
 | [],[],_=>rfl
 |none::r,_::n,h=>by have:=dm.len (src:=r) (NC:=n) h;simp [this]
 |some i::r,_::n,h=>by have:=dm.len (src:=r) (NC:=n) h.2.2;simp [this]
 | [],_::_,h=>h.elim
 |none::_,[],h=>h.elim
 |some _::_,[],h=>h.elim
theorem dm.at{scope:Scope}{XN:List Str}:∀{src:List (Option Nat)}{NC:List Str}{j i:Nat}{x:Str},dm scope XN src NC→src[j]? =some (some i)→NC[j]? =some x→XN[i]? =some x∧scope.names.lookup x=some .free
 | [],[],_,_,_,_,h,_=>by simp at h
 |none::r,_::n,0,_,_,_,h,_=>by simp at h
 |none::r,_::n,j+1,i,x,h,h1,h2=>dm.at (src:=r) (NC:=n) (j:=j) h (by simpa using h1) (by simpa using h2)
 |some k::r,y::n,0,i,x,h,h1,h2=>by
  have e1:k=i:=by simpa using h1
  have e2:y=x:=by simpa using h2
  subst e1 e2;exact ⟨h.1,h.2.1⟩
 |some k::r,_::n,j+1,i,x,h,h1,h2=>dm.at (src:=r) (NC:=n) (j:=j) h.2.2 (by simpa using h1) (by simpa using h2)
 | [],_::_,_,_,_,h,_,_=>h.elim
 |none::_,[],_,_,_,h,_,_=>h.elim
 |some _::_,[],_,_,_,h,_,_=>h.elim
structure bH (X:Cx) (scope:Scope):Prop where
 kind:scope.kind= .function
 names:∀x∈scope.names,x.2= .local→scope.names.lookup x.1=some .local
 nocell:∀x∈scope.names,x.2≠ .cell
 free:∀x∈scope.names,x.2= .free→X.env.kindOf x.1=some .cell∨X.env.kindOf x.1=some .free
theorem hV{env:Env}:∀(names:List (Str×NameKind))(x:Str),
  (names.map λ(n,k)=>if (k==NameKind.free&&env.scope.kind== .function&&env.kindOf n==some .cell) then (n,NameKind.cell) else (n,k)).lookup x=
   (names.lookup x).map λk=>if (k==NameKind.free&&env.scope.kind== .function&&env.kindOf x==some .cell) then NameKind.cell else k
 | [],_=>rfl
 | (n,k)::r,x=>by
  have ih:=hV (env:=env) r x;show List.lookup x ((if (k==NameKind.free&&env.scope.kind== .function&&env.kindOf n==some .cell)=true then (n,NameKind.cell) else (n,k))::_)=_;cases hx:x==n with
  |true=>
   have e:x=n:=by simpa using hx
   subst e
   by_cases hc:(k==NameKind.free&&env.scope.kind== .function&&env.kindOf x==some .cell)=true
   ·rw [if_pos hc,qq,qq]
    simp only [hx];show some NameKind.cell=some (if _ then _ else _);rw [if_pos hc]
   ·rw [if_neg hc,qq,qq]
    simp only [hx];show some k=some (if _ then _ else _);rw [if_neg hc]
  |false=>
   by_cases hc:(k==NameKind.free&&env.scope.kind== .function&&env.kindOf n==some .cell)=true
   ·rw [if_pos hc];simp only [qq,hx];exact ih
   ·rw [if_neg hc];simp only [qq,hx];exact ih
theorem mem_lookup{names:List (Str×NameKind)}{x:Str}{k:NameKind}(h:names.lookup x=some k):(x,k)∈names:=PySem.mem_of_lookup h
def dO(X:Cx)(scope:Scope)(NC:List Str)(ex:List Addr)(s:Shared)(H:Hp):Cx:=
 {X with N:=NC,s₀:=s,H₀:=H,env:=compEnvC scope (iM X.env scope.names []) s.heap.objs.size X.env,outer:=X.stack,stack:=X.stack,ex:=ex,fn:=λ_=>false,pn:= [],xe:=λ_ _=>False}
section
variable {X:Cx} {pins:List (Addr×Obj)} {σ:St} {H:Hp} {s:Shared} {scope:Scope} {NC:List Str} {ex:List Addr} {src:List (Option Nat)}
theorem bH.cells(c:bH X scope)(ok:X.Ok):∀x∈scope.names,x.2= .free→∃c,X.env.cells.lookup x.1=some c:=λx hx e=>ok.has x.1 (c.free x hx e)
theorem bH.Po(c:bH X scope){C:Addr}{x:Str}{k:NameKind}(h:(compEnvC scope (iM X.env scope.names []) C X.env).kindOf x=some k)(hk:k= .cell∨k= .free):scope.names.lookup x=some .free:=by
 have h':(relabel scope X.env).names.lookup x=some k:=h;unfold relabel at h';rw [hV] at h';cases e:scope.names.lookup x with
 |none=>rw [e] at h';cases h'
 |some k'=>
  have nc:=c.nocell _ (mem_lookup e);rw [e] at h';have h2:(if (k'==NameKind.free&&X.env.scope.kind== .function&&X.env.kindOf x==some .cell) then NameKind.cell else k')=k:=Option.some.inj h'
  by_cases hf:k'= .free
  ·rw [hf]
  ·have hb:(k'==NameKind.free)=false:=by simpa using hf
   rw [hb,Bool.false_and,Bool.false_and,if_neg dE] at h2
   rcases hk with z|z
   ·rw [h2] at nc;exact absurd z nc
   ·rw [h2] at hf;exact absurd z hf
theorem Ge(I:Inv X pins σ H s)(c:bH X scope)(hf:∀b∈ex,fO X pins H b)(bx:∀b∈ex,b<s.heap.objs.size):(dO X scope NC ex s H).Ok where
 mod:=I.ok.mod
 kind:=c.kind
 glob:=I.ok.glob
 blt:=I.ok.blt
 above:=aV _
 inj:=λx y d h1 h2=>I.ok.inj x y d (fb _ _ (c.cells I.ok) (λ_ _ z=>by cases z) x d h1) (fb _ _ (c.cells I.ok) (λ_ _ z=>by cases z) y d h2)
 has:=λx hx=>mL _ _ x (.inl (mem_lookup (by rcases hx with h|h<;>exact c.Po h (by simp))))
 cab:=λ_ _ z=>by cases z
 hd:=I.ok.hd
 frames:=I.ok.frames
 stk:= .inl rfl
 exf:=λb hb=>⟨cm (bx b hb),λx d e=>(hf b hb).2.2.2.2.1 x d (fb _ _ (c.cells I.ok) (λ_ _ z=>by cases z) x d e)⟩
 bs:=I.bs
 bsz:=j5 I.ok.bsz I.sz
 noex:=λb o e hb=>by
  rcases (hf b hb).2.2.2.1 with z|z
  ·exact I.ok.noex b o e z
  ·exact absurd (gB (Heap.lt_size e) (j5 I.ok.bsz z)) (mJ _)
 exfs:=λb hb z=>(bE.mp (I.yZ b z)).elim (hf b hb).2.1 (hf b hb).2.2.1
 funs:=I.stack
 frf:=I.AJ
theorem v8{h1:Heap}{tk:Nat}{ob:Obj}(I:Inv X pins σ H s)(c:bH X scope)(fP:dm scope X.N src NC)(hf:∀b∈ex,fO X pins H b)(bx:∀b∈ex,b<s.heap.objs.size)
  (yc:h1.Ns s.heap.objs.size (λ_=>none)) (yg:Heap.SameBut s.heap.objs.size (s.heap.push ob) h1):
  Inv (dO X scope NC ex s H) [] (mw src σ) H {s with heap:=h1,toks:=tk}:=by
 have old:∀b o,s.heap.get? b=some o→h1.get? b=some o:=λb o e=>yg.extBut b o (cm (Heap.lt_size e)) (Heap.get?_push_of_some _ e);have cl:∀x d,(iM X.env scope.names []).lookup x=some d→X.env.cells.lookup x=some d:=λx d=>fb _ _ (c.cells I.ok) (λ_ _ z=>by cases z) x d
 have cellK:∀d v,s.heap.IsCell d v→h1.IsCell d v:=λd v ⟨o,ho,hd⟩=>⟨o,old d o ho,hd⟩;refine ⟨Ge I c hf bx,rfl,I.bare,Un.kept old,⟨_,yc,λj x v e1 e2 e3=>?_⟩,λx d e=>?_,I.hok.fresh (aV _),λx d e=>I.freeC x d (cl x d e),λp hp=>absurd (show p∈([]:List (Addr×Obj)) from hp) (by simp),I.hok.kept old,?_⟩
 ·have nq:(mw src σ)[j]? =some (some v):=e2
  unfold mw at nq;rw [ck] at nq;cases ej:src[j]? with
  |none=>rw [ej] at nq;cases nq
  |some o=>
   rw [ej] at nq;cases o with
   |none=>cases nq
   |some i=>
    have e4:(σ[i]?).bind id=some v:=Option.some.inj nq
    have e5:σ[i]? =some (some v):=by
     cases q:σ[i]? with
     |none=>rw [q] at e4;cases e4
     |some z=>rw [q] at e4;exact congrArg some e4
    obtain ⟨hN,OP⟩:=fP.at ej e1;have hk:=c.free _ (mem_lookup OP) rfl;obtain ⟨m,hn,hl⟩:=I.loc;obtain ⟨u,r,l⟩:=hl i x v hN e5 (hk.elim (λz=> .inr (.inl z)) (λz=> .inr (.inr z)));refine ⟨u,r, .inr ⟨?_,?_⟩⟩
    ·show (relabel scope X.env).names.lookup x=_∨(relabel scope X.env).names.lookup x=_
     unfold relabel;rw [hV,OP]
     by_cases z:(NameKind.free==NameKind.free&&X.env.scope.kind== .function&&X.env.kindOf x==some .cell)=true
     ·left;simp only [Option.map_some,z,if_true]
     ·right;simp only [Option.map_some,z];rfl
    ·obtain ⟨d,hd⟩:=mL (env:=X.env) scope.names [] x (.inl (mem_lookup OP))
     refine ⟨d,hd,?_⟩
     rcases l with ⟨l,_⟩ | ⟨_,d',e,z⟩
     ·exfalso;rcases hk with z|z<;>(rw [l] at z;cases z)
     ·rw [cl x d hd] at e;cases e;exact cellK d _ z
 ·obtain ⟨v,z⟩:=I.cell x d (cl x d e)
  exact ⟨v,cellK d v z⟩
 ·show (mw src σ).length=NC.length
  unfold mw;rw [aP];exact fP.len
theorem comp_back{H':Hp}{av:St}{s':Shared}{h2:Heap}{yP:List (Addr×Obj)}(I:Inv X pins σ H s)(hf:∀b∈ex,fO X pins H b)(J:Inv (dO X scope NC ex s H) yP av H' s')
  (yg:Heap.SameBut s.heap.objs.size s'.heap h2):Inv X pins σ H' {s' with heap:=h2}:=by
 have up:∀b o,b≠s.heap.objs.size→s'.heap.get? b=some o→h2.get? b=some o:=λb o hb e=>yg.extBut b o hb e;have ne:∀b o,s.heap.get? b=some o→b≠s.heap.objs.size:=λb o e=>cm (Heap.lt_size e);have u:=J.base;refine I.NI (ch:=ex) (show s'.os=s.os from J.os) ⟨λb o e n hb hx=>up b o (ne b o e) (u.keep b o e n hb hx),λb o e n hb hx=>?_,u.free,λb o e hx=>?_,u.tups,u.frzs,u.tbls⟩ ?_ J.bare λb hb=>?_
 ·obtain ⟨sl,q⟩:=u.slot b o e n hb hx
  exact ⟨sl,up b _ (ne b o e) q⟩
 ·obtain ⟨o',q⟩:=u.there b o e hx
  exact ⟨o',up b o' (ne b o e) q⟩
 ·intro b o e
  have nC:∀b o,H' b=some o→b≠s.heap.objs.size:=λb o e z=>by
   have:=J.free
   rw [z] at e;have e':H' s.heap.objs.size=none:=this;rw [e'] at e;cases e
  refine (J.hok b o e).rT (λd v hd q=>up d v ?_ q) (λ_ q=>q) λ_ _ q=>q
  rcases hd with z|z
  ·rw [z];exact nC b o e
  ·exact nC d _ z
 ·obtain ⟨_,f1,_,f3,f4,f5⟩:=hf b hb
  exact ⟨f3,f1,f4,f5⟩
end
def nX(X:Cx)(ifs:List Expr)(t:TT):Prop:=
 ∀(pins:List (Addr×Obj))(s:Shared)(σ:St)(H:Hp)(Q:Bool→Hp→Prop),Inv X pins σ H s→t σ H Q→
  wpAny (model X.prog X.w) X.A (forIn ifs true λc r=>if r=true then do let ok ←isTrue c X.env (eval c X.env);pure (ForInStep.yield ok) else pure (ForInStep.yield r)) (TP X pins σ Q) X.xe s
def Ea:TT:=λ_ H Q=>Q true H
theorem lW{X:Cx}:nX X [] Ea:=λ_ _ _ H _ I h=>wpAny_tests_nil ⟨H,I,h⟩
theorem Av{X:Cx}{c:Expr}{t:TT}(h:PT X c t):nX X [c] t:=λpins s σ H Q I q=>wpAny_tests_one (h pins s σ H Q I q)
def QD(J:It)(g:TG)(tt:TT)(te:TE)(D:Addr)(Q:VK)(σ:St)(H:Hp):Prop:=
 ∃W:Nat→Nat→St→Hp→Prop,(∃m,W 0 m σ H)∧∀i m cy H2,W i m cy H2→
  (J.stop i H2∧Q (.ref D) H2)∨
  (J.go i H2∧∃N:St→Hp→Prop,(∀av H',N av H'→∃m',m'<m∧W (i+1) m' av H')∧∀x H3,J.yld i H2 x H3→g x cy H3 λcS H4=>tt cS H4 λb H5=>
   if b=true then te cS H5 λv H6=>∃ys,H6 D=some (.lst ys)∧ys.length<sizeLine∧N cS (upd H6 D (.lst (ys++ [v]))) else N cS H5)
def JB(wi:TI)(g:TG)(tt:TT)(te:TE)(src:List (Option Nat)):TE:=λσ H Q=>wi σ H λJ H1=>∀D,H1 D=none→QD J g tt te D Q (mw src σ) (upd H1 D (.lst []))
section
variable {X:Cx} {elt iter tg:Expr} {ifs:List Expr} {scope:Scope} {pos:Pos} {wi:TI} {g:TG} {tt:TT} {te:TE} {src:List (Option Nat)} {NC:List Str}
theorem rk{pins:List (Addr×Obj)}{σ:St}{s2:Shared}{H2:Hp}{it:Addr}{fp:List Addr}{tn:Nat→Heap→Prop}{J:It}{RR:Value→Addr→Result→Shared→Prop}{E:Value→Shared→Prop}{Q:VK}
  (hc:X.calm=true) (c:bH X scope) (fP:dm scope X.N src NC) (I2:Inv X pins σ H2 s2) (T:Turn X.prog X.w X.K tg J fp it tn) (kI:tn 0 s2.heap) (f2:∀b∈fp,fO X pins H2 b)
  (hg:∀s H,PG (dO X scope NC fp s H) tg g) (ht:∀s H,nX (dO X scope NC fp s H) ifs tt) (he:∀s H,PE (dO X scope NC fp s H) elt te)
  (hW:∀D,H2 D=none→∃W:Nat→Nat→St→Hp→Prop,(∃m,W 0 m (mw src σ) (upd H2 D (.lst [])))∧∀i m cy H2,W i m cy H2→
   (J.stop i H2∧Q (.ref D) H2)∨
   (J.go i H2∧∃N:St→Hp→Prop,(∀av H',N av H'→∃m',m'<m∧W (i+1) m' av H')∧∀x H3,J.yld i H2 x H3→g x cy H3 λcS H4=>tt cS H4 λb H5=>
    if b=true then te cS H5 λv H6=>∃ys,H6 D=some (.lst ys)∧ys.length<sizeLine∧N cS (upd H6 D (.lst (ys++ [v]))) else N cS H5))
  (YN:∀D s3 H3 av H' s',Inv X pins σ H3 s3→(∀b∈fp,fO X pins H3 b)→Inv (dO X scope NC fp s3 H3) [] av H' s'→Q (.ref D) H'→RR (.ref D) s3.heap.objs.size (.ok .next) s'):
  wpAny (model X.prog X.w) X.A (newList []) (λacc Wy=>wpAny (model X.prog X.w) X.A (newFunctionEnv scope X.env.globals (iM X.env scope.names []) [] X.env.qual none .none (some X.env)) (λrj AL=>
   codeAny (model X.prog X.w) X.A (.compStart (.ListComp elt [⟨tg,iter,ifs,0⟩] scope pos) 0 (.ref it) acc {rj with scope:=relabel scope X.env}) (RR acc rj.locals) AL) E Wy) E s2:=by
 obtain ⟨W,⟨m0,w0⟩,turn⟩:=hW s2.heap.objs.size I2.fresh;have I3:Inv X pins σ (upd H2 s2.heap.objs.size (.lst [])) {s2 with heap:=s2.heap.push {cls:= .type "list",data:= .seq ([]:List Value).toArray}}:=I2.Ia (its:= []) (t':=s2.toks) .nil (cZ _)
 have Pq:∀b∈fp,b<s2.heap.objs.size:=λb hb=>by
  obtain ⟨o,e,_⟩:=T.obj _ _ kI b hb;exact Heap.lt_size e
 have f3:∀b∈fp,fO X pins (upd H2 s2.heap.objs.size (.lst [])) b:=λb hb=>⟨by rw [ab (cm (Pq b hb))];exact (f2 b hb).1,(f2 b hb).2⟩
 refine wpAny_newObj_type ?_
 suffices key:∀s3:Shared,Inv X pins σ (upd H2 s2.heap.objs.size (.lst [])) s3→(∀b o,s2.heap.get? b=some o→s3.heap.get? b=some o)→
   wpAny (model X.prog X.w) X.A (newFunctionEnv scope X.env.globals (iM X.env scope.names []) [] X.env.qual none .none (some X.env)) (λrj AL=>
    codeAny (model X.prog X.w) X.A (.compStart (.ListComp elt [⟨tg,iter,ifs,0⟩] scope pos) 0 (.ref it) (.ref s2.heap.objs.size) {rj with scope:=relabel scope X.env}) (RR (.ref s2.heap.objs.size) rj.locals) AL) E s3 from
  key _ I3 λb o e=>Heap.get?_push_of_some _ e
 intro s3 I3 Qp;have sN:tn 0 s3.heap:=T.keep _ _ _ kI λb _ o e=>Qp b o e
 have B8:∀b∈fp,b<s3.heap.objs.size:=λb hb=>by
  obtain ⟨o,e,_⟩:=T.obj _ _ sN b hb;exact Heap.lt_size e
 generalize SO:upd H2 s2.heap.objs.size (.lst [])=H3 at I3 f3 w0;refine wpAny_newFunctionEnv c.nocell (by intro y hy;simp at hy) (λh1 yc yg=>?_) c.kind
 have I4:=v8 (src:=src) (NC:=NC) (ex:=fp) (tk:=s3.toks+([]:List (Str×Value)).length) I3 c fP f3 B8 yc yg;have Jx:tn 0 h1:=T.keep _ _ _ sN λb hb o e=>yg.extBut b o (cm (B8 b hb)) (Heap.get?_push_of_some _ e);generalize hX:dO X scope NC fp s3 H3=XC at I4
 have stat:∀{H':Hp},(∀b∈fp,H' b=none)→∀b∈fp,fO XC [] H' b:=λ {H'} hn b hb=>by
  subst hX;refine ⟨hn b hb,cm (B8 b hb),λz=>?_, .inl hb,λx d e=>?_,λp hp=>absurd (show p∈([]:List (Addr×Obj)) from hp) (by simp)⟩
  ·exact (I4.ok.exfs b hb) z
  ·exact (I4.ok.exf b hb).2 x d e
 have loop:codeAny (model X.prog X.w) X.A (.compLoop (.ListComp elt [⟨tg,iter,ifs,0⟩] scope pos) 0 (.ref it) (.ref s2.heap.objs.size) XC.env) (RR (.ref s2.heap.objs.size) s3.heap.objs.size)
   {s3 with heap:=h1,toks:=s3.toks+([]:List (Str×Value)).length}:=by
  refine codeAny_loop rfl (λn s'=>∃i av H',Inv XC [] av H' s'∧tn i s'.heap∧(∀b∈fp,H' b=none)∧W i n av H') (λn s' hI=>?_) m0 ⟨0,_,_,I4,Jx,λb hb=>(f3 b hb).1,w0⟩;obtain ⟨i,av,H',I5,sO,oh,w5⟩:=hI;show wpAny _ X.A ((compTurn (.ListComp elt [⟨tg,iter,ifs,0⟩] scope pos) 0 (.ref it) (.ref s2.heap.objs.size) XC.env).onRaise (λx=>do noteFrame x XC.env;theTreesLotGoes x)) _ _ s'
  refine wpAny_noted ?_;rw [compTurn_list]
  have ja:∀{α:Type}{t:Sem α}{Q:α→Shared→Prop}{E:Value→Shared→Prop}{s:Shared},wpAny (model XC.prog XC.w) XC.A t Q XC.xe s→wpAny (model X.prog X.w) X.A t Q E s:=λ {α t Q E s} h=>by
   subst hX;exact wpAny_mono h (λ_ _ q=>q) λ_ _ f=>f.elim
  have EV:XC.calm=true:=by subst hX;exact hc
  have eP:XC.prog=X.prog:=by subst hX;rfl
  have ew:XC.w=X.w:=by subst hX;rfl
  have eK:XC.K=X.K:=by subst hX;rfl
  have eA:XC.A=X.A:=by subst hX;rfl
  have OR:PG XC tg g:=by subst hX;exact hg _ _
  have O8:nX XC ifs tt:=by subst hX;exact ht _ _
  have OL:PE XC elt te:=by subst hX;exact he _ _
  refine wpAny_bind (wpAny_standAt (wpAny_bind ?_))
  rcases turn i n av H' w5 with ⟨stop,qn⟩ | ⟨go,N,hN,step⟩
  ·have hd:=T.done XC eP ew eK EV i [] s' av H' (notedBy (model X.prog X.w) X.A XC.env λe s'=>RR (.ref s2.heap.objs.size) s3.heap.objs.size (.error e) s') I5 (stat oh) sO stop
   rw [eA] at hd;refine thn hd λr s6 ⟨hr,I6⟩=>?_;subst hr;refine wpAny_pure ?_;subst hX;exact YN _ s3 H3 av H' s6 I3 f3 I6 qn
  ·have hd:=T.item XC eP ew eK EV i [] s' av H' (notedBy (model X.prog X.w) X.A XC.env λe s'=>RR (.ref s2.heap.objs.size) s3.heap.objs.size (.error e) s') I5 (stat oh) sO go
   rw [eA] at hd;refine thn hd λr s6 ⟨u,hr,h6⟩=>?_;subst hr;refine wpAny_bind (thn h6 λ_ s7 ⟨x,H7,I7,r7,y7,u5,Hd⟩=>?_);have FX:=I7.pinned (stat Hd) (T.obj _ _ u5)
   have again:∀{fX:St}{H8:Hp}{s8:Shared},Inv XC ([]++kE fp s7.heap) fX H8 s8→N fX H8→∃m,m<n∧∃i av H',Inv XC [] av H' s8∧tn i s8.heap∧(∀b∈fp,H' b=none)∧W i m av H':=λ {fX H8 s8} I8 n8=>by
    obtain ⟨m',hm,w8⟩:=hN fX H8 n8;refine ⟨m',hm,i+1,fX,H8,I8.iJ,T.keep _ _ _ u5 λb hb o e=>(I8.pin (b,o) (cL _ (cL _ (dH hb e)))).1,λb hb=>?_,w8⟩;obtain ⟨o,e,d⟩:=T.obj _ _ u5 b hb;exact (I8.pin (b,o) (cL _ (cL _ (dH hb e)))).2.1
   refine wpAny_bind (ja (thn (OR _ s7 av H7 x u _ FX r7 (step x H7 y7)) λ_ s8 ⟨fX,H8,I8,q8⟩=>?_));refine wpAny_bind (ja (thn (O8 _ s8 fX H8 _ I8 q8) λb s9 ⟨H9,I9,q9⟩=>?_));cases b with
   |false=>
    rw [if_neg dE] at q9;exact wpAny_pure ⟨by subst hX;rfl,again I9 q9⟩
   |true=>
    rw [if_pos rfl] at q9;refine wpAny_bind (wpAny_bind (ja (thn (OL _ s9 fX H9 _ I9 q9) λy yS ⟨v,xB,Nt,P6,ys,hD,hz,P4⟩=>?_)));refine wpAny_bind (ja (thn (fL _ yS fX xB (.ref s2.heap.objs.size) [v] _ [y] (λ_ H'=>N fX H') Nt rfl (.cons P6 .nil) ⟨_,ys,v,rfl,rfl,hD,hz,P4⟩) λ_ CC ⟨_,Ei,FW,_,P5⟩=>?_));exact wpAny_pure (wpAny_pure ⟨by subst hX;rfl,again FW P5⟩)
 subst hX;exact codeAny_compStart_list loop (T.self _ 0 _ _ _ Jx loop)
theorem Co(hc:X.calm=true)(c:bH X scope)(fP:dm scope X.N src NC)(hi:PI X tg iter wi)
  (hg:∀ex s H,PG (dO X scope NC ex s H) tg g) (ht:∀ex s H,nX (dO X scope NC ex s H) ifs tt) (he:∀ex s H,PE (dO X scope NC ex s H) elt te)
  (hs:∀x,foldedSetIterable iter X.env x=pure x:=by intro _;rfl):PE X (.ListComp elt [⟨tg,iter,ifs,0⟩] scope pos) (JB wi g tt te src):=by
 intro pins s σ H Q I h;rw [eval_ListComp];refine wpAny_comprehension_free (use:=none) rfl hs (gF (c.cells I.ok)) c.kind c.names (thn (hi pins s σ H _ I h) λv s1 h1=>thn h1 λz8 s2 h2=>?_);obtain ⟨it,fp,tn,J,H2,rfl,I2,T,kI,f2,hW⟩:=h2;refine rk (RR:=λacc C=>compPost (model X.prog X.w) X.A X.xe none (EP X pins σ Q) acc C) (Q:=Q) hc c fP I2 T kI f2 (hg fp) (ht fp) (he fp) hW ?_;intro D s3 H3 av H' s' I3 f3 J' q;obtain ⟨m,hn,_⟩:=J'.loc;exact ⟨m,hn,λh' sb=>⟨.ref D,H',comp_back I3 f3 J' sb,rfl,q⟩⟩
def LX(wi:TI)(g:TG)(tt:TT)(te:TE)(src:List (Option Nat))(i:Nat):TS:=λD σ H=>JB wi g tt te src σ H λv H'=>D.nx (σ.set i (some v)) H'
theorem jX{i:Nat}{x:Str}{px mv:Pos}(hc:X.calm=true)(hN:X.N.Nodup)(eW:X.N[i]? =some x)(hx:Loc X.env.scope x)(c:bH X scope)(fP:dm scope X.N src NC)(hi:PI X tg iter wi)
  (hg:∀ex s H,PG (dO X scope NC ex s H) tg g) (ht:∀ex s H,nX (dO X scope NC ex s H) ifs tt) (he:∀ex s H,PE (dO X scope NC ex s H) elt te)
  (ot:swapsWith (.ListComp elt [⟨tg,iter,ifs,0⟩] scope pos) (some (.Name x px)) mv.line X.env=pure true)
  (hf:X.fn x=true∨X.env.scope.names.lookup x=some .local:=by first|exact .inl rfl|exact .inr rfl|assumption)
  (hs:∀x,foldedSetIterable iter X.env x=pure x:=by intro _;rfl):PS X (.Assign [.Name x px] (.ListComp elt [⟨tg,iter,ifs,0⟩] scope pos) mv) (LX wi g tt te src i):=by
 intro pins s σ H D I h;rw [exec_Assign_Name_used _ _ _ _ ot];refine wpAny_bind (wpAny_standAt (wpAny_bind ?_));show wpAny _ X.A (do let _ ←comprehension (.ListComp elt [⟨tg,iter,ifs,0⟩] scope pos) scope X.env _ (newList []) false (eval iter X.env) (some (assign (.Name x px) X.env))) _ _ s
 refine wpAny_bind (wpAny_mono (wpAny_comprehension_free (use:=some (assign (.Name x px) X.env)) (Q:=λ_ s'=>SP X pins D .next s') rfl hs (gF (c.cells I.ok)) c.kind c.names
  (thn (hi pins s σ H _ I h) λv s1 h1=>thn h1 λz8 s2 h2=>?_)) (λ_ s' hq=>wpAny_pure (wpAny_pure hq)) λ_ _ e=>e)
 obtain ⟨it,fp,tn,J,H2,rfl,I2,T,kI,f2,hW⟩:=h2;refine rk (RR:=λacc C=>compPost (model X.prog X.w) X.A X.xe (some (assign (.Name x px) X.env)) (λ_ s'=>SP X pins D .next s') acc C) (Q:=λv H'=>D.nx (σ.set i (some v)) H') hc c fP I2 T kI f2 (hg fp) (ht fp) (he fp) hW ?_;intro a s3 H3 av H' s' I3 f3 J' q;obtain ⟨m,hn,_⟩:=J'.loc;have IX:Inv X pins σ H' s':=comp_back I3 f3 J' (.refl ..);show wpAny _ X.A (assign (.Name x px) X.env (.ref a)) _ _ _;have nL:s3.heap.objs.size≠X.env.locals:=Nat.ne_of_gt I3.lt
 have nc:∀y d,X.env.cells.lookup y=some d→d≠s3.heap.objs.size:=λy d e z=>by
  obtain ⟨v,hv⟩:=I3.cell y d e
  have:=hv.lt
  rw [z] at this;exact absurd this (mJ _)
 have np:∀p∈X.pn++pins,p.1≠s3.heap.objs.size:=λp hp z=>by
  have:=Heap.lt_size (I3.pin p hp).1
  rw [z] at this;exact absurd this (mJ _)
 obtain ⟨oC,es,ep,Zo,Ko,rC⟩:=id hn;have SQ:H' s3.heap.objs.size=none:=J'.free
 have IP:Inv X ((s3.heap.objs.size,oC)::pins) σ H' s':=IX.pW λp hp=>by
  rcases bE.mp hp with z|z
  ·rw [z]
   exact ⟨Zo,SQ,nL,I3.M7 (aV _),λv w=>by rw [Ko] at w;cases w⟩
  ·exact IX.pin p (cL _ z)
 refine wpAny_assign_Name (jZ (x:=x) IP hN eW hx (v:= .ref a) rfl (λs5 I5=>?_) hf);have YH:=(I5.pin (s3.heap.objs.size,oC) (cL _ b8)).1;refine ⟨m,⟨oC,es,ep,YH,Ko,rC⟩,λh6 sb=>?_⟩;have Nu:Inv X pins (σ.set i (some (.ref a))) H' s5:=I5.pW λp hp=>I5.pin p (cL _ (cn _ hp));exact ⟨_,H',Nu.turned (t':=s5.toks) (it:=s3.heap.objs.size) (λb o hb e=>sb.extBut b o hb e) SQ nL (.inr I3.sz) nc np,q⟩
end
theorem yp{J:It}{g:TG}{tt:TT}{te:TE}{D:Addr}{σ:St}{H:Hp}{Q:VK}(n:Nat)(Pv:Nat→St→Hp→Prop)(h0:Pv 0 σ H)
  (Y9:∀i σ H,i<n→Pv i σ H→J.go i H) (O6:∀i σ H,n≤i→Pv i σ H→J.stop i H)
  (hs:∀i x σ H H3,i<n→Pv i σ H→J.yld i H x H3→g x σ H3 λcS H4=>tt cS H4 λb H5=>
   if b=true then te cS H5 λv H6=>∃ys,H6 D=some (.lst ys)∧ys.length<sizeLine∧Pv (i+1) cS (upd H6 D (.lst (ys++ [v]))) else Pv (i+1) cS H5)
  (hd:∀σ H,Pv n σ H→Q (.ref D) H):QD J g tt te D Q σ H:=by
 refine ⟨λi m σ H=>m=n-i∧i≤n∧Pv i σ H,⟨n,by simp,cZ _,h0⟩,?_⟩
 rintro i m σ H ⟨rfl,hi,p⟩
 by_cases bx:i<n
 ·exact .inr ⟨Y9 i σ H bx p,Pv (i+1),λav H' p'=>⟨n-(i+1),by omega,rfl,bx,p'⟩,λx H3 y=>hs i x σ H H3 bx p y⟩
 ·have e:i=n:=by omega
  subst e;exact .inl ⟨O6 _ σ H (aV _) p,hd σ H p⟩
section
variable {X:Cx} {pins:List (Addr×Obj)} {σ:St} {H:Hp} {s:Shared} {h':Heap} {fp:List Addr}
theorem Inv.AS{t':Nat}(I:Inv X pins σ H s)(hf:∀b∈fp,fO X pins H b)(k:∀b o,b∉fp→s.heap.get? b=some o→h'.get? b=some o):Inv X pins σ H {s with heap:=h',toks:=t'}:=by
 refine I.step (g':=s.gens) (d':=s.drawn) (ch:=fp) (λb hb=>?_) (λb o _ _ hc e _=>k b o hc e) (λb o _ _ hc e _=>⟨o.slots,k b o hc e⟩) (λ_ _ _ _ n=>n)
  (λb o hc e=>⟨o,k b o hc e⟩) (λ_ _ e=>e) (λ_ _ _ e=>e) (λb ps e=>⟨#[],by rw [e];simp⟩) (λm hm=>?_) (λb u e=>?_) I.bare
 ·obtain ⟨_,f1,_,f3,f4,f5⟩:=hf b hb
  exact ⟨f3,f1,f4,f5⟩
 ·obtain ⟨o,es,ep,ho,r⟩:=hm
  exact ⟨o,es,ep,k _ o (λz=>(hf _ z).2.1 rfl) ho,r⟩
 ·have nf:∀b u,H b=some u→b∉fp:=λb u e z=>by rw [(hf b z).1] at e;cases e
  refine (I.hok b u e).rT (λc v hc q=>k c v ?_ q) (λ_ q=>q) λ_ _ q=>q
  rcases hc with z|z
  ·rw [z];exact nf b u e
  ·exact nf c _ z
theorem Inv.JE{t':Nat}{t:Addr}{o:HO}(I:Inv X pins σ H s)(hf:∀b∈fp,fO X pins H b)(k:∀b o,b∉fp→s.heap.get? b=some o→h'.get? b=some o)(ht:s.heap.objs.size≤t)
  (new:cM X.prog X.w (upd H t o) h' t o):Inv X pins σ (upd H t o) {s with heap:=h',toks:=t'}:=by
 have nt:H t=none:=I.hok.fresh ht;have up:∀b u,H b=some u→upd H t o b=some u:=λb u e=>by rw [ab (ah e nt)];exact e
 refine I.step (g':=s.gens) (d':=s.drawn) (ch:=fp) (λb hb=>?_) (λb o _ _ hc e _=>k b o hc e) (λb o _ _ hc e _=>⟨o.slots,k b o hc e⟩) (λb o _ e n=>?_)
  (λb o hc e=>⟨o,k b o hc e⟩) (λb xs e=>up b _ e) (λb _ _ e=>up b _ e) (λb ps e=>⟨#[],by rw [up b _ e];simp⟩) (λm hm=>?_) (λb u e=>?_) I.bare
 ·obtain ⟨_,f1,_,f3,f4,f5⟩:=hf b hb
  exact ⟨f3,f1,f4,f5⟩
 ·rw [ab (cm (gB (Heap.lt_size e) ht))];exact n
 ·obtain ⟨o,es,ep,ho,r⟩:=hm
  exact ⟨o,es,ep,k _ o (λz=>(hf _ z).2.1 rfl) ho,r⟩
 ·by_cases hb:b=t
  ·subst hb
   rw [aa] at e;cases e;exact new
  ·rw [ab hb] at e
   have nf:∀b u,H b=some u→b∉fp:=λb u e z=>by rw [(hf b z).1] at e;cases e
   refine (I.hok b u e).rT (λc v hc q=>k c v ?_ q) (λb' q=>up b' _ q) λb' _ q=>up b' _ q
   rcases hc with z|z
   ·rw [z];exact nf b u e
   ·exact nf c _ z
end
def Ej(K:PySem.W.Frag)(a:Addr):It:=
 ⟨λi H=>∃xs x,aG K H a xs∧xs[i]? =some x,λi H y H'=>∃t x,y= .ref t∧H t=none∧H'=upd H t (.tup [.int i,x])∧∀xs,aG K H a xs→xs[i]? =some x,λi H=>∃xs,aG K H a xs∧xs.length≤i⟩
theorem z7{h:Heap}{t:Addr}{u v:Value}(e:h.get? t=some {cls:= .type "tuple",data:= .seq #[u,v]}):IsTup h t [u,v].toArray:=⟨_,e,rfl,_,rfl⟩
theorem CQ{P:Program}{w:World}{K:PySem.W.Frag}{es:List Expr}{k1}{tp:Pos}(a e it:Addr)(ne:e≠it):
  Turn P w K (.Tuple es k1 tp) (Ej K a) [e,it] e (λi h=>(∃old,IsEnum h e it i old)∧h.IsListIter it a i) where
 mem:=by simp
 obj:=λi h st b hb=>by
  obtain ⟨⟨old,he⟩,o,e2,c,d⟩:=st
  rcases bE.mp hb with z|z
  ·subst z
   exact ⟨_,he,λv w=>by cases w⟩
  ·have z':b=it:=by simpa using z
   subst z';exact ⟨o,e2,λv z=>by rw [d] at z;cases z⟩
 keep:=λi h h' st k=>by
  obtain ⟨⟨old,he⟩,kI⟩:=st;exact ⟨⟨old,k e (by simp) _ he⟩,kI.at λo q=>k it (by simp) o q⟩
 item:=by
  intro X hP hw hK hc i pins s σ H E I hf st hg;subst hP hw hK;obtain ⟨xs,x,hq,hx⟩:=hg;obtain ⟨its,rv,p,hz⟩:=I.list hq;obtain ⟨u,hu,ru⟩:=rv.get hx;obtain ⟨⟨old,he⟩,hit⟩:=st;refine wpAny_pyNext_enum_item he hit p.isList (x:=u) (by simpa using hu) ne λh' t6 To ZD aag kk=>?_
  have k2:∀b o,b∉ [e,it]→s.heap.get? b=some o→h'.get? b=some o:=λb o hb q=>kk b o (λz=>hb (by simp [z])) (λz=>hb (by simp [z])) q
  have I1:Inv X pins σ (upd H s.heap.objs.size (.tup [.int i,x])) {s with heap:=h',toks:=s.toks+1}:=
   I.JE hf k2 (aV _) ⟨by show 2≤sizeLine;decide,[.int i s.toks,u], .cons ⟨_,rfl⟩ (.cons ru .nil),z7 ZD⟩
  refine ⟨_,rfl,wpAny_letOwnedTupleGo_enum t6 λh2 Y4 sb=>?_⟩
  have lt:∀b∈ [e,it],b<s.heap.objs.size:=λb hb=>by
   rcases bE.mp hb with z|z
   ·rw [z];exact Heap.lt_size he
   ·obtain ⟨o,e2,_⟩:=hit
    have z':b=it:=by simpa using z
    rw [z'];exact Heap.lt_size e2
  have Te:∀b∈ [e,it],fO X pins (upd H s.heap.objs.size (.tup [.int i,x])) b:=λb hb=>⟨by rw [ab (cm (lt b hb))];exact (hf b hb).1,(hf b hb).2⟩
  refine ⟨.ref s.heap.objs.size,_,I1.AS (t':=s.toks+1) Te (λb o hb q=>sb.extBut b o (λz=>hb (by simp [z])) q),rfl,⟨_,x,rfl,I.hok.fresh (aV _),rfl,λys hy=>by rw [I.wN hy hq];exact hx⟩,⟨⟨u,?_⟩,To.extBut sb.extBut (Ne.symm ne)⟩,λb hb=>(Te b hb).1⟩
  have z:((i+1:Nat):Int)=(i:Int)+1:=by omega
  rw [z];exact Y4
 done:=by
  intro X hP hw hK hc i pins s σ H E I hf st hg;subst hP hw hK;obtain ⟨xs,hq,hx⟩:=hg;obtain ⟨its,rv,p,hz⟩:=I.list hq;have hl:=rv.length;obtain ⟨⟨old,he⟩,hit⟩:=st;exact wpAny_pyNext_enum_end (I.ok.hd hc) he hit p.isList (by simp;omega) λh' eb=>⟨rfl,I.AS (t':=s.toks) hf λb o hb q=>eb b o (λz=>hb (by simp [z])) q⟩
 self:=λ_ _ _ _ _ st h=>by
  obtain ⟨⟨old,he⟩,_⟩:=st;exact wpAny_pyIter_enum he h
section
variable {X:Cx}
def Pg(K:PySem.W.Frag)(ta:TA):TI:=λσ H R=>ta σ H λvs H1=>∃a,vs= [.ref a]∧(∃xs,H1 a=some (.lst xs))∧R (Ej K a) H1
theorem uK{a:Expr}{ta:TA}{p pos:Pos}{es:List Expr}{k1}{tp:Pos}(hg:Gl X "enumerate")(hm:X.mg "enumerate"=none)(ha:PA X [a] ta)(hs:starEach [a] X.env= [(false,eval a X.env)]:=by rfl):
  PI X (.Tuple es k1 tp) (.Call (.Name "enumerate" p) [a] [] pos) (Pg X.K ta):=by
 intro pins s σ H R I h;refine Call_ (kn I hg hm boot_enumerate (PyProof.Rows.callWith_type1 (thn (ha pos pins s σ H _ I h) λus s1 ⟨vs,H1,I1,r1,q1⟩=>?_) hs rfl));obtain ⟨l,e,⟨xs,hl⟩,q⟩:=q1;subst e;obtain ⟨u,rfl,ru⟩:=r1.one;cases ru;obtain ⟨z,its,n,rv,hlen,e⟩:=I1.lP hl;refine call_enumerate_1 e λh' he hit fI kk=>?_;refine wpAny_pyIter_enum he ?_;have jw:s1.heap.objs.size+1≠s1.heap.objs.size:=Nat.succ_ne_self _;refine ⟨s1.heap.objs.size+1,[s1.heap.objs.size+1,s1.heap.objs.size],_,_,H1,rfl,I1.kept (t':=s1.toks) kk,CQ l _ _ jw,⟨⟨_,he⟩,hit⟩,λb hb=>?_,q⟩
 have BE:s1.heap.objs.size≤b:=by
  rcases bE.mp hb with z|z
  ·rw [z];exact mK _
  ·have z':b=s1.heap.objs.size:=by simpa using z
   rw [z'];exact aV _
 exact I1.Dy BE (I1.hok.fresh BE)
end
end L2
namespace Wb
abbrev W:=List (List Nat)
def row(w:W)(p:Nat):List Nat:=w.getD p []
inductive Reach (w:W):Nat→Nat→Prop
 |refl (p):Reach w p p
 |step {p q r}:Reach w p q→r∈row w q→Reach w p r
structure Good (w:W):Prop where
 rng:∀p q,q∈row w p→q<w.length
 irr:∀p,p∉row w p
 nod:∀p,(row w p).Nodup
 sym:∀p q,q∈row w p→p∈row w q
 con:∀p,p<w.length→Reach w 0 p
theorem cf{w:W}{p q:Nat}(h:q∈row w p):p<w.length:=by
 apply Classical.byContradiction;intro hn;unfold row at h;rw [fW,js (by omega)] at h
 simp at h
theorem Ay{w:W}{p:Nat}(h:p<w.length):w[p]? =some (row w p):=by
 unfold row;rw [fW,cK h];rfl
theorem LH{w:W}{p:Nat}{r:List Nat}(h:w[p]? =some r):row w p=r:=by
 unfold row;rw [fW,h];rfl
theorem Ji{w:W}{p:Nat}(h:w.length≤p):row w p= []:=by
 unfold row;rw [fW,js h];rfl
theorem Reach.trans{w:W}{p q r:Nat}(h:Reach w p q)(h':Reach w q r):Reach w p r:=by
 induction h' with
 |refl=>exact h
 |step _ hr ih=>exact .step ih hr
theorem Reach.symm{w:W}(hs:∀p q,q∈row w p→p∈row w q){p q:Nat}(h:Reach w p q):Reach w q p:=by
 induction h with
 |refl=>exact .refl _
 |step _ hr ih=>exact (Reach.step (.refl _) (hs _ _ hr)).trans ih
theorem Reach.mono{w w':W}(hm:∀p q,q∈row w p→q∈row w' p){p q:Nat}(h:Reach w p q):Reach w' p q:=by
 induction h with
 |refl=>exact .refl _
 |step _ hr ih=>exact .step ih (hm _ _ hr)
def ins{α:Type}(xs:List α)(i:Nat)(x:α):List α:=xs.take i++x::xs.drop i
theorem mQ{α:Type}(xs:List α)(i:Nat)(x:α):(ins xs i x).Perm (x::xs):=by
 unfold ins;have h:= @List.perm_middle _ x (xs.take i) (xs.drop i);rw [iY] at h;exact h
theorem cp{α:Type}{xs:List α}{i:Nat}{x a:α}:a∈ins xs i x↔a=x∨a∈xs:=by
 rw [(mQ xs i x).mem_iff,bE]
theorem oJ{α:Type}{xs:List α}{i:Nat}{x:α}(h:xs.Nodup)(hx:x∉xs):(ins xs i x).Nodup:=by
 rw [(mQ xs i x).nodup_iff,fk];exact ⟨hx,h⟩
theorem ug{α:Type}(xs:List α)(i:Nat)(x:α):(ins xs i x).length=xs.length+1:=by
 rw [(mQ xs i x).length_eq];rfl
theorem ins_map{α β:Type}(f:α→β)(xs:List α)(i:Nat)(x:α):(ins xs i x).map f=ins (xs.map f) i (f x):=by
 unfold ins;simp [List.map_take,List.map_drop]
theorem fz{w:W}{p x:Nat}{r:List Nat}(h:p<w.length):row (w.set p r) x=if p=x then r else row w x:=by
 unfold row;rw [fW,qp]
 by_cases e:p=x
 ·rw [if_pos e,if_pos e,if_pos h];rfl
 ·rw [if_neg e,if_neg e,fW]
theorem w4{w:W}{r:List Nat}{x:Nat}:row (w++ [r]) x=if x=w.length then r else row w x:=by
 unfold row;rw [fW,List.getElem?_append]
 split
 ·rw [if_neg (by omega),fW]
 ·split
  ·rename_i h e;subst e;simp
  ·rename_i h e
   rw [fW,js (by simp;omega),js (by omega)]
theorem EK:Good [[]]:=by
 have hr:∀p,row [[]] p= []:=λp=>by
  unfold row;cases p with
  |zero=>rfl
  |succ n=>simp
 refine ⟨λp q h=>?_,λp h=>?_,λp=>?_,λp q h=>?_,λp h=>?_⟩
 ·rw [hr] at h;cases h
 ·rw [hr] at h;cases h
 ·rw [hr];exact ju
 ·rw [hr] at h;cases h
 ·have:p=0:=by simp at h;exact h
  subst this;exact .refl _
def leaf(w:W)(p i:Nat):W:=(w.set p (ins (row w p) i w.length))++ [[p]]
theorem mR(w:W)(p i:Nat):(leaf w p i).length=w.length+1:=by unfold leaf;simp
theorem wZ{w:W}{p i x:Nat}(h:p<w.length):row (leaf w p i) x=if x=w.length then [p] else if p=x then ins (row w p) i w.length else row w x:=by
 unfold leaf;rw [w4,fC,fz h]
theorem t5{w:W}{p i:Nat}(g:Good w)(h:p<w.length):Good (leaf w p i):=by
 have hr:=λx=>wZ (i:=i) (x:=x) h;have nl:∀x,w.length∉row w x:=λx hx=>mJ _ (g.rng _ _ hx)
 have mono:∀x q,q∈row w x→q∈row (leaf w p i) x:=λx q hq=>by
  have:=cf hq
  rw [hr,if_neg (by omega)]
  split
  ·rename_i e;subst e;exact cp.mpr (.inr hq)
  ·exact hq
 refine ⟨λx q hx=>?_,λx hx=>?_,λx=>?_,λx q hx=>?_,λx hx=>?_⟩
 ·rw [hr] at hx;rw [mR]
  split at hx
  ·simp at hx;omega
  ·split at hx
   ·rcases cp.mp hx with e|e
    ·omega
    ·have:=g.rng _ _ e;omega
   ·have:=g.rng _ _ hx;omega
 ·rw [hr] at hx
  split at hx
  ·simp at hx;omega
  ·split at hx
   ·rcases cp.mp hx with e|e
    ·omega
    ·rename_i e2;subst e2;exact g.irr _ e
   ·exact g.irr _ hx
 ·rw [hr];split
  ·simp
  ·split
   ·exact oJ (g.nod _) (nl _)
   ·exact g.nod _
 ·rw [hr] at hx
  split at hx
  ·have e:q=p:=by simpa using hx
   subst e
   rename_i e
   rw [hr,if_neg (by omega),if_pos rfl,e]
   exact cp.mpr (.inl rfl)
  ·split at hx
   ·rename_i e;subst e
    rcases cp.mp hx with e|e
    ·rw [hr,if_pos e];simp
    ·exact mono _ _ (g.sym _ _ e)
   ·exact mono _ _ (g.sym _ _ hx)
 ·rw [mR] at hx
  by_cases e:x=w.length
  ·refine Reach.step ((g.con p h).mono mono) ?_
   rw [hr,if_neg (by omega),if_pos rfl,e]
   exact cp.mpr (.inl rfl)
  ·exact (g.con x (by omega)).mono mono
def lg(w:W)(p i u j:Nat):W:=(w.set p (ins (row w p) i u)).set u (ins (row w u) j p)
theorem qg(w:W)(p i u j:Nat):(lg w p i u j).length=w.length:=by unfold lg;simp
theorem Jj{w:W}{p i u j x:Nat}(hp:p<w.length)(hu:u<w.length):row (lg w p i u j) x=if u=x then ins (row w u) j p else if p=x then ins (row w p) i u else row w x:=by
 unfold lg;rw [fz (by simpa using hu),fz hp]
theorem wz{w:W}{p i u j:Nat}(g:Good w)(hp:p<w.length)(hu:u<w.length)(ne:u≠p)(nt:u∉row w p):Good (lg w p i u j):=by
 have hr:=λx=>Jj (i:=i) (j:=j) (x:=x) hp hu;have nt':p∉row w u:=λh=>nt (g.sym _ _ h)
 have mono:∀x q,q∈row w x→q∈row (lg w p i u j) x:=λx q hq=>by
  rw [hr]
  split
  ·rename_i e;subst e;exact cp.mpr (.inr hq)
  ·split
   ·rename_i e;subst e;exact cp.mpr (.inr hq)
   ·exact hq
 refine ⟨λx q hx=>?_,λx hx=>?_,λx=>?_,λx q hx=>?_,λx hx=>?_⟩
 ·rw [hr] at hx;rw [qg]
  split at hx
  ·rcases cp.mp hx with e|e
   ·omega
   ·exact g.rng _ _ e
  ·split at hx
   ·rcases cp.mp hx with e|e
    ·omega
    ·exact g.rng _ _ e
   ·exact g.rng _ _ hx
 ·rw [hr] at hx
  split at hx
  ·rename_i e2;subst e2
   rcases cp.mp hx with e|e
   ·exact ne e
   ·exact g.irr _ e
  ·split at hx
   ·rename_i e2;subst e2
    rcases cp.mp hx with e|e
    ·exact ne e.symm
    ·exact g.irr _ e
   ·exact g.irr _ hx
 ·rw [hr];split
  ·exact oJ (g.nod _) nt'
  ·split
   ·exact oJ (g.nod _) nt
   ·exact g.nod _
 ·rw [hr] at hx
  split at hx
  ·rename_i e2;subst e2
   rcases cp.mp hx with e|e
   ·subst e;rw [hr,if_neg ne,if_pos rfl];exact cp.mpr (.inl rfl)
   ·exact mono _ _ (g.sym _ _ e)
  ·split at hx
   ·rename_i e2;subst e2
    rcases cp.mp hx with e|e
    ·subst e;rw [hr,if_pos rfl];exact cp.mpr (.inl rfl)
    ·exact mono _ _ (g.sym _ _ e)
   ·exact mono _ _ (g.sym _ _ hx)
 ·rw [qg] at hx;exact (g.con x hx).mono mono
theorem EL{w w':W}{ord:Nat→Nat}(g:Good w)(hl:w'.length=w.length)(into:∀p,p<w.length→ord p<w.length)
  (inj:∀p q,p<w.length→q<w.length→ord p=ord q→p=q) (sur:∀y,y<w.length→∃p,p<w.length∧ord p=y)
  (gS:∀p,p<w.length→(row w' (ord p)).Perm ((row w p).map ord)):Good w':=by
 have mem:∀p q,p<w.length→(q∈row w' (ord p)↔∃a,a∈row w p∧ord a=q):=λp q hp=>by
  rw [(gS p hp).mem_iff,bS]
 have reach:∀{p q},Reach w p q→Reach w' (ord p) (ord q):=λ {p q} h=>by
  induction h with
  |refl=>exact .refl _
  |step _ hr ih=>exact .step ih ((mem _ _ (cf hr)).mpr ⟨_,hr,rfl⟩)
 refine ⟨λy q hy=>?_,λy hy=>?_,λy=>?_,λy q hy=>?_,λy hy=>?_⟩
 ·obtain ⟨p,hp,rfl⟩:=sur y (by have:=cf hy;omega)
  obtain ⟨a,ha,rfl⟩:=(mem p q hp).mp hy;rw [hl];exact into a (g.rng _ _ ha)
 ·obtain ⟨p,hp,rfl⟩:=sur y (by have:=cf hy;omega)
  obtain ⟨a,ha,e⟩:=(mem p _ hp).mp hy
  have:=inj a p (g.rng _ _ ha) hp e
  subst this;exact g.irr _ ha
 ·by_cases hy:y<w.length
  ·obtain ⟨p,hp,rfl⟩:=sur y hy
   rw [(gS p hp).nodup_iff];unfold List.Nodup;rw [iZ];refine List.Pairwise.imp_of_mem ?_ (g.nod p);intro a b ha hb ne e;exact ne (inj a b (g.rng _ _ ha) (g.rng _ _ hb) e)
  ·rw [Ji (by omega)];exact ju
 ·obtain ⟨p,hp,rfl⟩:=sur y (by have:=cf hy;omega)
  obtain ⟨a,ha,rfl⟩:=(mem p q hp).mp hy;exact (mem a _ (g.rng _ _ ha)).mpr ⟨p,g.sym _ _ ha,rfl⟩
 ·rw [hl] at hy
  obtain ⟨p,hp,rfl⟩:=sur y hy;obtain ⟨z,hz,e0⟩:=sur 0 (by omega)
  have h1:=reach (((g.con z hz).symm g.sym).trans (g.con p hp));rw [e0] at h1;exact h1
def aK(l:List Nat)(x:Nat):Nat:=l.getD ((l.idxOf x+1)%l.length) 0
def bw(w:W)(d:Nat×Nat):Nat×Nat:=(d.2,aK (row w d.2) d.1)
def az(w:W)(d:Nat×Nat):Prop:=d.2∈row w d.1
theorem iW{l:List Nat}{x:Nat}(h:x∈l):l[(l.idxOf x+1)%l.length]? =some (aK l x):=by
 have hp:0<l.length:=rZ h;unfold aK;rw [fW,cK (Nat.mod_lt _ hp)];rfl
theorem CK{l:List Nat}{x:Nat}(h:x∈l):aK l x∈l:=di (iW h)
theorem Ie{a b n:Nat}(ha:a<n)(hb:b<n)(e:(a+1)%n=(b+1)%n):a=b:=by
 by_cases h1:a+1=n
 ·by_cases h2:b+1=n
  ·omega
  ·rw [h1,Nat.mod_self,xr (by omega)] at e;omega
 ·by_cases h2:b+1=n
  ·rw [h2,Nat.mod_self,xr (by omega)] at e;omega
  ·rw [xr (by omega),xr (by omega)] at e;omega
theorem u9{l:List Nat}{x y:Nat}(nd:l.Nodup)(hx:x∈l)(hy:y∈l)(e:aK l x=aK l y):x=y:=by
 have hp:0<l.length:=rZ hx;have h1:=iW hx;have h2:=iW hy;rw [e] at h1;have lx:=nU.mpr hx;have ly:=nU.mpr hy;obtain ⟨a1,b1⟩:=cu.mp h1;obtain ⟨a2,b2⟩:=cu.mp h2;have q:=(List.getElem_inj nd).mp (b1.trans b2.symm);have q2:=Ie lx ly q;have e1:=se lx;have e2:=se ly;rw [←e1,←e2];simp only [q2]
theorem Fj{w:W}{d:Nat×Nat}(g:Good w)(h:az w d):az w (bw w d):=CK (g.sym _ _ h)
theorem jT{w:W}{d e:Nat×Nat}(g:Good w)(h:az w d)(h':az w e)(q:bw w d=bw w e):d=e:=by
 have e2:d.2=e.2:=congrArg Prod.fst q;have e1:aK (row w d.2) d.1=aK (row w e.2) e.1:=congrArg Prod.snd q;rw [←e2] at e1;have h1:d.1∈row w d.2:=g.sym _ _ h;have h2:e.1∈row w d.2:=by rw [e2];exact g.sym _ _ h'
 exact Prod.ext (u9 (g.nod _) h1 h2 e1) e2
def aE(w:W):List (Nat×Nat):=(List.range w.length).flatMap λp=>(row w p).map λq=>(p,q)
theorem aB{w:W}{d:Nat×Nat}:d∈aE w↔az w d:=by
 unfold aE az;rw [List.mem_flatMap]
 constructor
 ·rintro ⟨p,_,h⟩
  obtain ⟨q,hq,rfl⟩:=bS.mp h;exact hq
 ·intro h
  exact ⟨d.1,gw.mpr (cf h),bS.mpr ⟨d.2,h,rfl⟩⟩
theorem aT{α:Type} [DecidableEq α]:∀{l m:List α},l.Nodup→(∀x∈l,x∈m)→l.length≤m.length
 | [],_,_,_=>cZ _
 |a::r,m,nd,h=>by
  have kz:=fk.mp nd;have am:=h a b8;have ih:=aT (l:=r) (m:=m.erase a) kz.2 λx hx=>(List.mem_erase_of_ne (λ(e:x=a)=>kz.1 (by rw [←e];exact hx))).mpr (h x (cn _ hx))
  rw [List.length_erase_of_mem am] at ih
  have:=rZ am
  simp only [cv];omega
theorem eY{w:W}(g:Good w)(p:Nat):(row w p).length≤w.length:=by
 have:=aT (m:=List.range w.length) (g.nod p) λx hx=>gw.mpr (g.rng _ _ hx)
 simpa using this
theorem wo{α β:Type}{f:α→List β}{k:Nat}:∀{l:List α},(∀x∈l,(f x).length≤k)→(l.flatMap f).length≤l.length*k
 | [],_=>by simp
 |a::r,h=>by
  have ih:=wo (f:=f) (k:=k) (l:=r) λx hx=>h x (cn _ hx)
  have:=h a b8
  rw [xm,dX,cv,Nat.succ_mul];omega
theorem gG{w:W}(g:Good w):(aE w).length≤w.length*w.length:=by
 have:=wo (f:=λp=>(row w p).map λq=>(p,q)) (k:=w.length) (l:=List.range w.length) λx _=>by rw [aP];exact eY g x
 rw [vz] at this;exact this
def bo(w:W):Nat→Nat×Nat→Nat×Nat
 |0,d=>d
 |n+1,d=>bw w (bo w n d)
theorem dr{w:W}{d:Nat×Nat}(g:Good w)(h:az w d):∀n,az w (bo w n d)
 |0=>h
 |n+1=>Fj g (dr g h n)
theorem dR{w:W}{d:Nat×Nat}(m:Nat):∀n,bo w (n+m) d=bo w n (bo w m d)
 |0=>by rw [qr];rfl
 |n+1=>by rw [Nat.succ_add];show bw w (bo w (n+m) d)=bw w (bo w n (bo w m d));rw [dR m n]
theorem uh{w:W}{d e:Nat×Nat}(g:Good w)(h:az w d)(h':az w e):∀n,bo w n d=bo w n e→d=e
 |0,q=>q
 |n+1,q=>uh g h h' n (jT g (dr g h n) (dr g h' n) q)
def walk(w:W)(d:Nat×Nat)(k:Nat):List (Nat×Nat):=(List.range k).map λi=>bo w i d
theorem oX(w:W)(d:Nat×Nat)(k:Nat):walk w d (k+1)=walk w d k++ [bo w k d]:=by
 unfold walk;rw [List.range_succ,dW];rfl
theorem eB(w:W)(d:Nat×Nat)(k:Nat):(walk w d k).length=k:=by unfold walk;simp
theorem oV{w:W}{d:Nat×Nat}(g:Good w)(h:az w d){k:Nat}:∀e∈walk w d k,az w e:=λe he=>by
 obtain ⟨i,_,rfl⟩:=bS.mp he;exact dr g h i
theorem rW{w:W}{d:Nat×Nat}(g:Good w)(h:az w d){k:Nat}(hk:∀j,0<j→j<k→bo w j d≠d):(walk w d k).Nodup:=by
 unfold walk List.Nodup;rw [iZ];refine List.Pairwise.imp_of_mem ?_ List.pairwise_lt_range;intro i j hi hj lt e;have x9:=gw.mp hj;have e2:bo w i d=bo w i (bo w (j-i) d):=by rw [←dR (j-i) i,show i+(j-i)=j by omega];exact e
 exact hk (j-i) (by omega) (by omega) (uh g h (dr g h _) i e2).symm
theorem qi{w:W}{d:Nat×Nat}(g:Good w)(h:az w d){k:Nat}(hk:∀j,0<j→j<k→bo w j d≠d):k≤(aE w).length:=by
 have:=aT (m:=aE w) (rW g h hk) λe he=>aB.mpr (oV g h e he)
 rwa [eB] at this
theorem zB{w:W}(g:Good w){S:Nat→Prop}(h0:S 0)(hc:∀p q,S p→q∈row w p→S q):∀p,p<w.length→S p:=λp hp=>by
 have:∀{a b},Reach w a b→S a→S b:=λ {a b} h ha=>by
  induction h with
  |refl=>exact ha
  |step _ hr ih=>exact hc _ _ ih hr
 exact this (g.con p hp) h0
def lexLe(a b:Nat×Nat):Prop:=a.1<b.1∨(a.1=b.1∧a.2≤b.2)
theorem qJ{a b:Nat×Nat}(h:lexLe a b)(h':lexLe b a):a=b:=by
 unfold lexLe at h h';exact Prod.ext (by omega) (by omega)
def iC(rows:Nat→List Nat)(n:Nat):List (Nat×Nat):=(List.range n).flatMap λp=>((rows p).filter λq=>decide (p<q)).map λq=>(p,q)
theorem lT{α β:Type}{R:β→β→Prop}{f:α→List β}:∀{l:List α},(∀x∈l,(f x).Pairwise R)→l.Pairwise (λa b=>∀x∈f a,∀y∈f b,R x y)→(l.flatMap f).Pairwise R
 | [],_,_=>List.Pairwise.nil
 |a::r,h,p=>by
  have p':=List.pairwise_cons.mp p;rw [xm,zh];refine ⟨h a b8,lT (λx hx=>h x (cn _ hx)) p'.2,λx hx y hy=>?_⟩;obtain ⟨b,hb,E5⟩:=List.mem_flatMap.mp hy;exact p'.1 b hb x hx y E5
end Wb
namespace L2
open PySem PySem.Spec PyProof.Rows
section
variable {X:Cx}
theorem Vals.ins{x:V}{u:Value}(r:RelV x u){xs:List V}{us:List Value}(i:Nat)(h:Vals xs us):Vals (Wb.ins xs i x) (Wb.ins us i u):=(h.take i).append (.cons r (h.drop i))
def Jd:V→List V→Hp→VK→Prop:=λx vs H Q=>∃l xs i y,x= .ref l∧vs= [.int i,y]∧H l=some (.lst xs)∧0≤i∧i≤xs.length∧xs.length<sizeLine∧Q .aL (upd H l (.lst (Wb.ins xs i.toNat y)))
theorem kv:Bd X "list.insert" Jd:=by
 intro pins s σ H x vs v us Q I rx rv h;obtain ⟨l,xs,i,y,rfl,rfl,hH,h0,h1,hz,q⟩:=h;cases rx;obtain ⟨u1,u2,rfl,⟨t,rfl⟩,ru⟩:=rv.two;obtain ⟨z,its,n,r,hl,e⟩:=I.lP hH;have bx:=kq
 have Tf:¬(!Builtin.List.listFitsIndex i)=true:=by
  rw [fitsIndex_both (by omega) (by omega)]
  exact dE
 refine call_meets F.slot_list_insert ⟨_,e,rfl⟩ F.entry_list_insert (F.args_list_insert_3 _ _ _) (AutoSeq1.list_insert_list_int_val_1 l its.toArray n i t u2 Tf (by rw [bO];omega)) ⟨e,?_⟩
 refine ⟨.aL,_,I.wO (its':=Wb.ins its i.toNat u2) hH e ?_ (r.ins ru i.toNat) ?_,rfl,q⟩
 ·have hi:¬i<0:=by omega
  have hm:min i.toNat its.length=i.toNat:=by omega
  simp only [hi,if_false,bO,hm];apply Array.toList_inj.mp;unfold Wb.ins;simp;exact nV (by rw [sg];omega)
 ·rw [Wb.ug];omega
def LC(K:PySem.W.Frag):V→List V→Hp→VK→Prop:=λx vs H Q=>∃(l:Addr)(xs:List V)(y:V)(j:Nat)(z:V),x= .ref l∧vs= [y]∧H l=some (.lst xs)∧gb y=true∧xs.all gb=true∧xs[j]? =some z∧oe z y=true∧
 (∀(m:Nat) z,m<j→xs[m]? =some z→oe z y=false)∧Q (.int j) H
theorem mU:Bd X "list.index" (LC X.K):=by
 intro pins s σ H x vs v us Q I rx rv h;obtain ⟨l,xs,y,j,z,rfl,rfl,hH,fy,fs,hz,ez,yb,q⟩:=h;cases rx;obtain ⟨u,rfl,ru⟩:=rv.one;obtain ⟨fI,its,n,r,hl,e⟩:=I.lP hH;obtain ⟨w,hw,oQ⟩:=r.get hz
 have hj:j<its.toArray.size:=by
  obtain ⟨h1,_⟩:=cu.mp hw;simpa using h1
 have flat:∀(m:Nat) z,xs[m]? =some z→gb z=true:=λm z h=>(List.all_eq_true.mp fs) z (di h)
 have ZI:its.toArray[j]=w:=by
  obtain ⟨h1,h2⟩:=cu.mp hw;simpa using h2
 have bx:=kq
 have x9:j<xs.length:=by
  obtain ⟨h1,_⟩:=cu.mp hz;exact h1
 refine call_meets F.slot_list_index ⟨_,e,rfl⟩ F.entry_list_index (F.args_list_index_2 _ _) (SeqAt.list_indexAt l its.toArray n none #[] u (nr y) j hj (by omega) ?_ ?_) ⟨e,λw hw=>iH ru fy r fs w (by simpa using hw),?_⟩
 ·rw [ZI,sT oQ (flat j z hz)];exact ez
 ·intro m hm OY
  have BM:m<its.length:=by simpa using hm
  obtain ⟨zm,Pf⟩:∃zm,xs[m]? =some zm:=⟨_,cK (by omega)⟩
  obtain ⟨wm,ZJ,rwm⟩:=r.get Pf
  have Yo:its.toArray[m]=wm:=by
   obtain ⟨h1,h2⟩:=cu.mp ZJ;simpa using h2
  rw [Yo,sT rwm (flat m zm Pf)];exact yb m zm OY Pf
 ·exact ⟨.int j,H,I.tok _,⟨_,rfl⟩,q⟩
end
mutual
inductive Dp (K:PySem.W.Frag) (H:Hp):V→PyData→Prop
 |aL:Dp K H .aL .none
 |bl (b:Bool):Dp K H (.bl b) (.bool b)
 |int (i:Int):Dp K H (.int i) (.int i)
 |str (x:Str) (h:PyData.strOk x=true):Dp K H (.str x) (.str x)
 |lst {a:Addr} {xs:List V} {ds:List PyData}:aG K H a xs→eD K H xs ds→Dp K H (.ref a) (.list ds)
 |tup {a:Addr} {xs:List V} {ds:List PyData}:cJ K H a xs→eD K H xs ds→Dp K H (.ref a) (.tuple ds)
inductive eD (K:PySem.W.Frag) (H:Hp):List V→List PyData→Prop
 |nil:eD K H [] []
 |cons {v:V} {vs:List V} {d:PyData} {ds:List PyData}:Dp K H v d→eD K H vs ds→eD K H (v::vs) (d::ds)
end
section
variable {X:Cx} {pins:List (Addr×Obj)} {σ:St} {H:Hp} {s:Shared}
mutual
theorem Dp.reads(I:Inv X pins σ H s):∀{v:V}{d:PyData}{u:Value},Dp X.K H v d→RelV v u→(∃as,Reads s.heap u d as)∧d.canLay0=true
 |_,_,_, .aL,r=>by cases r;exact ⟨⟨_, .none⟩,rfl⟩
 |_,_,_, .bl b,r=>by cases r;exact ⟨⟨_, .bool b⟩,rfl⟩
 |_,_,_, .int i,r=>by obtain ⟨t,rfl⟩:=r;exact ⟨⟨_, .int i t⟩,rfl⟩
 |_,_,_, .str x h,r=>by obtain ⟨t,rfl⟩:=r;exact ⟨⟨_, .str x t⟩,by simpa [PyData.canLay0] using h⟩
 |_,_,_, .lst h a,r=>by
  cases r;obtain ⟨its,rv,pl,hz⟩:=I.list h;obtain ⟨⟨as,ra⟩,c⟩:=eD.reads I a rv;obtain ⟨o,ho,hc,n,hd⟩:=pl.isList;exact ⟨⟨_, .list ho hc hd (by simpa using ra)⟩,by simpa [PyData.canLay0] using c⟩
 |_,_,_, .tup h a,r=>by
  cases r;obtain ⟨its,rv,pl,hz⟩:=I.tuple h;obtain ⟨⟨as,ra⟩,c⟩:=eD.reads I a rv;obtain ⟨o,ho,hc,n,hd⟩:=pl;exact ⟨⟨_, .tuple ho hc hd (by simpa using ra)⟩,by simpa [PyData.canLay0] using c⟩
theorem eD.reads(I:Inv X pins σ H s):∀{vs:List V}{ds:List PyData}{us:List Value},eD X.K H vs ds→Vals vs us→(∃as,ReadsAll s.heap us ds as)∧PyData.canLayAll0 ds=true
 |_,_,_, .nil, .nil=>⟨⟨_, .nil⟩,by simp [PyData.canLayAll0]⟩
 |_,_,_, .cons a as, .cons r rs=>by
  obtain ⟨⟨x,h1⟩,c1⟩:=Dp.reads I a r;obtain ⟨⟨y,h2⟩,c2⟩:=eD.reads I as rs;exact ⟨⟨_, .cons h1 h2⟩,by simp [PyData.canLayAll0,c1,c2]⟩
end
end
section
variable {X:Cx}
def VV(K:PySem.W.Frag):R2:=λx y H Q=>∃d e,Dp K H x d∧Dp K H y e∧d.depth≤64∧Q (.bl (PyData.eqv d e)) H
def VW(K:PySem.W.Frag):R2:=λx y H Q=>∃d e,Dp K H x d∧Dp K H y e∧d.depth≤64∧Q (.bl (!PyData.eqv d e)) H
theorem Lg(hu:X.A.units+64<cLine):OpR X (compareOp .Eq) (VV X.K):=by
 intro pins s σ H x y v u Q I rx ry h;obtain ⟨d,e,hd,he,hz,q⟩:=h;obtain ⟨⟨as,r1⟩,c1⟩:=hd.reads I rx;obtain ⟨⟨bs,r2⟩,c2⟩:=he.reads I ry;exact SeqAt.compareEq_reads r1 r2 c1 c2 (by have:=Nat.min_le_left d.depth e.depth;omega) ⟨.bl _,H,I,rfl,q⟩
theorem yN(hu:X.A.units+64<cLine):OpR X (compareOp .NotEq) (VW X.K):=by
 intro pins s σ H x y v u Q I rx ry h;obtain ⟨d,e,hd,he,hz,q⟩:=h;obtain ⟨⟨as,r1⟩,c1⟩:=hd.reads I rx;obtain ⟨⟨bs,r2⟩,c2⟩:=he.reads I ry;exact SeqAt.compareNe_reads r1 r2 c1 c2 (by have:=Nat.min_le_left d.depth e.depth;omega) ⟨.bl _,H,I,rfl,q⟩
end
def nD(n:Nat):PyData:= .int n
def kS(d:Nat×Nat):PyData:= .tuple [.int d.1, .int d.2]
theorem wj(a b:Nat×Nat):PyData.eqv (kS a) (kS b)=true↔a=b:=by
 unfold kS;obtain ⟨a1,a2⟩:=a;obtain ⟨b1,b2⟩:=b;simp [PyData.eqv,PyData.eqvAll];omega
theorem nE{α:Type}{f:α→PyData}{k:Nat}(hf:∀a,(f a).depth≤k):∀xs:List α,PyData.depthAll (xs.map f)≤k
 | []=>by simp [PyData.depthAll]
 |a::xs=>by
  have:=hf a
  have ih:=nE hf xs;simp [PyData.depthAll];omega
theorem rp(a:Nat×Nat):(kS a).depth≤2:=by simp [kS,PyData.depth,PyData.depthAll]
end L2
namespace L2
open PySem PySem.Spec PyProof.Rows
section
variable {X:Cx}
theorem xF:cT X (.builtin "isinstance") (λxs H Q=>∃(x:V)(n:String)(t:Value)(b:Bool),xs= [x, .ty n]∧jc X.K H x t∧PySem.W.kitOne X.K t (.type n)=some b∧Q (.bl b) H):=by
 intro pins s σ H xs us Q I rv h;obtain ⟨x,n,t,b,rfl,ty,e,q⟩:=h;obtain ⟨u1,u2,rfl,r1,r2⟩:=rv.two;cases r2;exact BY I r1 ty e λtk=>⟨.bl b,H,I.tok _,rfl,q⟩
end
theorem tQ(elt t0 i0 t1 i1:Expr)(f0 f1:List Expr)(scope:Scope)(pos:Pos)(it acc:Value)(env:Env):
  compTurn (.ListComp elt [⟨t0,i0,f0,0⟩,⟨t1,i1,f1,0⟩] scope pos) 0 it acc env=(do
   standAt i0.pos
   match ←pyNext it with
   |none=>pure (.done .next)
   |some v=>
    letOwnedTupleGo t0 it v
    assign t0 env v
    let ok ←forIn f0 true λc r=>if r=true then do let ok ←isTrue c env (eval c env);pure (ForInStep.yield ok) else pure (ForInStep.yield r)
    if ok=true then
     let x ←eval i1 env
     standAt i1.pos
     let x ←foldedSetIterable i1 env x
     let HL ←holding [x] (pyIter x)
     let _ ←runOwn (.compStart (.ListComp elt [⟨t0,i0,f0,0⟩,⟨t1,i1,f1,0⟩] scope pos) 1 HL acc env) env
     again (.compLoop (.ListComp elt [⟨t0,i0,f0,0⟩,⟨t1,i1,f1,0⟩] scope pos) 0 it acc env)
    else again (.compLoop (.ListComp elt [⟨t0,i0,f0,0⟩,⟨t1,i1,f1,0⟩] scope pos) 0 it acc env)):=by rfl
theorem tR(elt t0 i0 t1 i1:Expr)(f0 f1:List Expr)(scope:Scope)(pos:Pos)(it acc:Value)(env:Env):
  compTurn (.ListComp elt [⟨t0,i0,f0,0⟩,⟨t1,i1,f1,0⟩] scope pos) 1 it acc env=(do
   standAt i1.pos
   match ←pyNext it with
   |none=>pure (.done .next)
   |some v=>
    letOwnedTupleGo t1 it v
    assign t1 env v
    let ok ←forIn f1 true λc r=>if r=true then do let ok ←isTrue c env (eval c env);pure (ForInStep.yield ok) else pure (ForInStep.yield r)
    if ok=true then
     (do let _ ←call (.builtin "list.append") [acc,←eval elt env])
     again (.compLoop (.ListComp elt [⟨t0,i0,f0,0⟩,⟨t1,i1,f1,0⟩] scope pos) 1 it acc env)
    else again (.compLoop (.ListComp elt [⟨t0,i0,f0,0⟩,⟨t1,i1,f1,0⟩] scope pos) 1 it acc env)):=by rfl
section
variable {X XC:Cx} {elt i0 t0 i1 t1:Expr} {f0 f1:List Expr} {scope:Scope} {pos:Pos} {wi gr:TI} {g g1:TG} {tt eO:TT} {te:TE} {src:List (Option Nat)} {NC:List Str}
theorem sq{it acc:Value}{env:Env}{R:Result→Shared→Prop}{s:Shared}{A:Around}
  (h0:codeAny (model X.prog X.w) A (.compLoop (.ListComp elt [⟨t0,i0,f0,0⟩,⟨t1,i1,f1,0⟩] scope pos) 1 it acc env) R s)
  (hp:∀(Q:Value→Shared→Prop)(E:Value→Shared→Prop),Q it s→wpAny (model X.prog X.w) A (pyIter it) Q E s):
  codeAny (model X.prog X.w) A (.compStart (.ListComp elt [⟨t0,i0,f0,0⟩,⟨t1,i1,f1,0⟩] scope pos) 1 it acc env) R s:=by
 refine codeAny_of_tree ?_;show wpAny _ _ ((compStart (.ListComp elt [⟨t0,i0,f0,0⟩,⟨t1,i1,f1,0⟩] scope pos) 1 it acc env).onRaise (λx=>do noteFrame x env;standAt theWindowsPlace)) _ _ s
 refine wpAny_notedAt ?_;unfold compStart;show wpAny _ _ (ask>>=_) _ _ s;refine wpAny_bind (wpAny_askSetting (wpAny_ite ?_))
 split
 ·first
   |exact wpAny_bind (wpAny_pure (wpAny_pure ⟨rfl,h0⟩))
   |exact wpAny_pure ⟨rfl,h0⟩
 ·refine wpAny_bind (wpAny_rule ?_)
  show wpAny _ _ (standAt i1.pos>>=_) _ _ s;exact wpAny_bind (wpAny_standAt (wpAny_bind (hp _ _ (wpAny_pure ⟨rfl,h0⟩))))
theorem zD{pins:List (Addr×Obj)}{s:Shared}{σ:St}{H:Hp}{it D:Addr}{fp:List Addr}{tn:Nat→Heap→Prop}{J:It}{R:Result→Shared→Prop}{N:St→Hp→Prop}
  (Kz:XC.xe=λ_ _=>False) (hc:XC.calm=true) (I:Inv XC pins σ H s) (T:Turn XC.prog XC.w XC.K t1 J fp it tn) (st:tn 0 s.heap) (f2:∀b∈fp,fO XC pins H b)
  (hg:PG XC t1 g1) (ht:nX XC f1 eO) (he:PE XC elt te)
  (hW:∃W:Nat→Nat→St→Hp→Prop,(∃m,W 0 m σ H)∧∀i m cy H2,W i m cy H2→(J.stop i H2∧N cy H2)∨
   (J.go i H2∧∃N1:St→Hp→Prop,(∀av H',N1 av H'→∃m',m'<m∧W (i+1) m' av H')∧∀x H3,J.yld i H2 x H3→g1 x cy H3 λcS H4=>eO cS H4 λb H5=>
    if b=true then te cS H5 λv H6=>∃ys,H6 D=some (.lst ys)∧ys.length<sizeLine∧N1 cS (upd H6 D (.lst (ys++ [v]))) else N1 cS H5))
  (hR:∀av H' s',Inv XC pins av H' s'→N av H'→R (.ok .next) s'):
  codeAny (model XC.prog XC.w) XC.A (.compStart (.ListComp elt [⟨t0,i0,f0,0⟩,⟨t1,i1,f1,0⟩] scope pos) 1 (.ref it) (.ref D) XC.env) R s:=by
 obtain ⟨W,⟨m0,w0⟩,turn⟩:=hW
 have ja:∀{α:Type}{t:Sem α}{Q:α→Shared→Prop}{E:Value→Shared→Prop}{s:Shared},wpAny (model XC.prog XC.w) XC.A t Q XC.xe s→wpAny (model XC.prog XC.w) XC.A t Q E s:=λ {α t Q E s} h=>
  wpAny_mono h (λ_ _ q=>q) λ_ _ f=>by rw [Kz] at f;exact f.elim
 have stat:∀{H':Hp},(∀b∈fp,H' b=none)→∀b∈fp,fO XC pins H' b:=λhn b hb=>⟨hn b hb,(f2 b hb).2⟩
 have loop:codeAny (model XC.prog XC.w) XC.A (.compLoop (.ListComp elt [⟨t0,i0,f0,0⟩,⟨t1,i1,f1,0⟩] scope pos) 1 (.ref it) (.ref D) XC.env) R s:=by
  refine codeAny_loop rfl (λn s'=>∃i av H',Inv XC pins av H' s'∧tn i s'.heap∧(∀b∈fp,H' b=none)∧W i n av H') (λn s' hI=>?_) m0 ⟨0,σ,H,I,st,λb hb=>(f2 b hb).1,w0⟩;obtain ⟨i,av,H',I5,sO,oh,w5⟩:=hI;show wpAny _ XC.A ((compTurn (.ListComp elt [⟨t0,i0,f0,0⟩,⟨t1,i1,f1,0⟩] scope pos) 1 (.ref it) (.ref D) XC.env).onRaise (λx=>do noteFrame x XC.env;theTreesLotGoes x)) _ _ s'
  refine wpAny_noted ?_;rw [tR];refine wpAny_bind (wpAny_standAt (wpAny_bind ?_))
  rcases turn i n av H' w5 with ⟨stop,qn⟩ | ⟨go,N1,hN,step⟩
  ·refine thn (T.done XC rfl rfl rfl hc i pins s' av H' _ I5 (stat oh) sO stop) λr s6 ⟨hr,I6⟩=>?_
   subst hr;exact wpAny_pure (hR av H' s6 I6 qn)
  ·refine thn (T.item XC rfl rfl rfl hc i pins s' av H' _ I5 (stat oh) sO go) λr s6 ⟨u,hr,h6⟩=>?_
   subst hr;refine wpAny_bind (thn h6 λ_ s7 ⟨x,H7,I7,r7,y7,u5,Hd⟩=>?_);have FX:=I7.pinned (stat Hd) (T.obj _ _ u5)
   have nextT:∀{fX:St}{H8:Hp}{s8:Shared},Inv XC (pins++kE fp s7.heap) fX H8 s8→N1 fX H8→∃m,m<n∧∃i av H',Inv XC pins av H' s8∧tn i s8.heap∧(∀b∈fp,H' b=none)∧W i m av H':=λ {fX H8 s8} I8 n8=>by
    obtain ⟨m',hm,w8⟩:=hN fX H8 n8;refine ⟨m',hm,i+1,fX,H8,I8.iJ,T.keep _ _ _ u5 λb hb o e=>(I8.pin (b,o) (cL _ (cL _ (dH hb e)))).1,λb hb=>?_,w8⟩;obtain ⟨o,e,d⟩:=T.obj _ _ u5 b hb;exact (I8.pin (b,o) (cL _ (cL _ (dH hb e)))).2.1
   refine wpAny_bind (ja (thn (hg _ s7 av H7 x u _ FX r7 (step x H7 y7)) λ_ s8 ⟨fX,H8,I8,q8⟩=>?_));refine wpAny_bind (ja (thn (ht _ s8 fX H8 _ I8 q8) λb s9 ⟨H9,I9,q9⟩=>?_));cases b with
   |false=>
    rw [if_neg dE] at q9;exact wpAny_pure ⟨rfl,nextT I9 q9⟩
   |true=>
    rw [if_pos rfl] at q9;refine wpAny_bind (wpAny_bind (ja (thn (he _ s9 fX H9 _ I9 q9) λy yS ⟨v,xB,Nt,P6,ys,hD,hz,P4⟩=>?_)));refine wpAny_bind (ja (thn (fL _ yS fX xB (.ref D) [v] _ [y] (λ_ H'=>N1 fX H') Nt rfl (.cons P6 .nil) ⟨_,ys,v,rfl,rfl,hD,hz,P4⟩) λ_ CC ⟨_,Ei,FW,_,P5⟩=>?_));exact wpAny_pure (wpAny_pure ⟨rfl,nextT FW P5⟩)
 exact sq (X:=XC) loop λQ E q=>T.self _ 0 _ _ _ st q
def tIn(g1:TG)(eO:TT)(te:TE)(D:Addr)(J:It)(N:St→Hp→Prop):St→Hp→Prop:=λσ H=>
 ∃W:Nat→Nat→St→Hp→Prop,(∃m,W 0 m σ H)∧∀i m cy H2,W i m cy H2→(J.stop i H2∧N cy H2)∨
  (J.go i H2∧∃N1:St→Hp→Prop,(∀av H',N1 av H'→∃m',m'<m∧W (i+1) m' av H')∧∀x H3,J.yld i H2 x H3→g1 x cy H3 λcS H4=>eO cS H4 λb H5=>
   if b=true then te cS H5 λv H6=>∃ys,H6 D=some (.lst ys)∧ys.length<sizeLine∧N1 cS (upd H6 D (.lst (ys++ [v]))) else N1 cS H5)
def WJ(g:TG)(tt:TT)(gr:TI)(g1:TG)(eO:TT)(te:TE)(D:Addr)(J:It)(Q:VK)(σ:St)(H:Hp):Prop:=
 ∃W:Nat→Nat→St→Hp→Prop,(∃m,W 0 m σ H)∧∀i m cy H2,W i m cy H2→
  (J.stop i H2∧Q (.ref D) H2)∨
  (J.go i H2∧∃N:St→Hp→Prop,(∀av H',N av H'→∃m',m'<m∧W (i+1) m' av H')∧∀x H3,J.yld i H2 x H3→g x cy H3 λcS H4=>tt cS H4 λb H5=>
   if b=true then gr cS H5 λJ1 H6=>tIn g1 eO te D J1 N cS H6 else N cS H5)
def Nl(wi:TI)(g:TG)(tt:TT)(gr:TI)(g1:TG)(eO:TT)(te:TE)(src:List (Option Nat)):TE:=λσ H Q=>wi σ H λJ H1=>∀D,H1 D=none→WJ g tt gr g1 eO te D J Q (mw src σ) (upd H1 D (.lst []))
theorem Lm(hc:X.calm=true)(c:bH X scope)(fP:dm scope X.N src NC)(hi:PI X t0 i0 wi)
  (hg:∀ex s H,PG (dO X scope NC ex s H) t0 g) (ht:∀ex s H,nX (dO X scope NC ex s H) f0 tt) (vK:∀ex s H,PI (dO X scope NC ex s H) t1 i1 gr) (OQ:∀ex s H,PG (dO X scope NC ex s H) t1 g1)
  (O7:∀ex s H,nX (dO X scope NC ex s H) f1 eO) (he:∀ex s H,PE (dO X scope NC ex s H) elt te)
  (hs:∀x,foldedSetIterable i0 X.env x=pure x:=by intro _;rfl) (E4:∀env x,foldedSetIterable i1 env x=pure x:=by intro _ _;rfl):
  PE X (.ListComp elt [⟨t0,i0,f0,0⟩,⟨t1,i1,f1,0⟩] scope pos) (Nl wi g tt gr g1 eO te src):=by
 intro pins s σ H Q I h;rw [eval_ListComp];refine wpAny_comprehension_free (use:=none) rfl hs (gF (c.cells I.ok)) c.kind c.names (thn (hi pins s σ H _ I h) λv s1 h1=>thn h1 λz8 s2 h2=>?_);obtain ⟨it,fp,tn,J,H2,rfl,I2,T,kI,f2,hW⟩:=h2;obtain ⟨W,⟨m0,w0⟩,turn⟩:=hW s2.heap.objs.size I2.fresh;have I3:Inv X pins σ (upd H2 s2.heap.objs.size (.lst [])) {s2 with heap:=s2.heap.push {cls:= .type "list",data:= .seq ([]:List Value).toArray}}:=I2.Ia (its:= []) (t':=s2.toks) .nil (cZ _)
 have Pq:∀b∈fp,b<s2.heap.objs.size:=λb hb=>by
  obtain ⟨o,e,_⟩:=T.obj _ _ kI b hb;exact Heap.lt_size e
 have f3:∀b∈fp,fO X pins (upd H2 s2.heap.objs.size (.lst [])) b:=λb hb=>⟨by rw [ab (cm (Pq b hb))];exact (f2 b hb).1,(f2 b hb).2⟩
 refine wpAny_newObj_type ?_
 suffices key:∀s3:Shared,Inv X pins σ (upd H2 s2.heap.objs.size (.lst [])) s3→(∀b o,s2.heap.get? b=some o→s3.heap.get? b=some o)→
   wpAny (model X.prog X.w) X.A (newFunctionEnv scope X.env.globals (iM X.env scope.names []) [] X.env.qual none .none (some X.env)) (λrj AL=>
    codeAny (model X.prog X.w) X.A (.compStart (.ListComp elt [⟨t0,i0,f0,0⟩,⟨t1,i1,f1,0⟩] scope pos) 0 (.ref it) (.ref s2.heap.objs.size) {rj with scope:=relabel scope X.env}) (compPost (model X.prog X.w) X.A X.xe none (EP X pins σ Q) (.ref s2.heap.objs.size) rj.locals) AL) X.xe s3 from
  key _ I3 λb o e=>Heap.get?_push_of_some _ e
 intro s3 I3 Qp;have sN:tn 0 s3.heap:=T.keep _ _ _ kI λb _ o e=>Qp b o e
 have B8:∀b∈fp,b<s3.heap.objs.size:=λb hb=>by
  obtain ⟨o,e,_⟩:=T.obj _ _ sN b hb;exact Heap.lt_size e
 generalize SO:upd H2 s2.heap.objs.size (.lst [])=H3 at I3 f3 w0;refine wpAny_newFunctionEnv c.nocell (by intro y hy;simp at hy) (λh1 yc yg=>?_) c.kind
 have I4:=v8 (src:=src) (NC:=NC) (ex:=fp) (tk:=s3.toks+([]:List (Str×Value)).length) I3 c fP f3 B8 yc yg;have Jx:tn 0 h1:=T.keep _ _ _ sN λb hb o e=>yg.extBut b o (cm (B8 b hb)) (Heap.get?_push_of_some _ e);generalize hX:dO X scope NC fp s3 H3=XC at I4
 have stat:∀{H':Hp},(∀b∈fp,H' b=none)→∀b∈fp,fO XC [] H' b:=λ {H'} hn b hb=>by
  subst hX;refine ⟨hn b hb,cm (B8 b hb),λz=>?_, .inl hb,λx d e=>?_,λp hp=>absurd (show p∈([]:List (Addr×Obj)) from hp) (by simp)⟩
  ·exact (I4.ok.exfs b hb) z
  ·exact (I4.ok.exf b hb).2 x d e
 have EV:XC.calm=true:=by subst hX;exact hc
 have eP:XC.prog=X.prog:=by subst hX;rfl
 have ew:XC.w=X.w:=by subst hX;rfl
 have eK:XC.K=X.K:=by subst hX;rfl
 have eA:XC.A=X.A:=by subst hX;rfl
 have Kz:XC.xe=λ_ _=>False:=by subst hX;rfl
 have OR:PG XC t0 g:=by subst hX;exact hg _ _ _
 have O8:nX XC f0 tt:=by subst hX;exact ht _ _ _
 have Zb:PI XC t1 i1 gr:=by subst hX;exact vK _ _ _
 have Th:PG XC t1 g1:=by subst hX;exact OQ _ _ _
 have TY:nX XC f1 eO:=by subst hX;exact O7 _ _ _
 have OL:PE XC elt te:=by subst hX;exact he _ _ _
 have ja:∀{α:Type}{t:Sem α}{Q:α→Shared→Prop}{E:Value→Shared→Prop}{s:Shared},wpAny (model XC.prog XC.w) XC.A t Q XC.xe s→wpAny (model X.prog X.w) X.A t Q E s:=λ {α t Q E s} h=>by
  rw [←eP,←ew,←eA];exact wpAny_mono h (λ_ _ q=>q) λ_ _ f=>by rw [Kz] at f;exact f.elim
 have loop:codeAny (model X.prog X.w) X.A (.compLoop (.ListComp elt [⟨t0,i0,f0,0⟩,⟨t1,i1,f1,0⟩] scope pos) 0 (.ref it) (.ref s2.heap.objs.size) XC.env) (compPost (model X.prog X.w) X.A X.xe none (EP X pins σ Q) (.ref s2.heap.objs.size) s3.heap.objs.size)
   {s3 with heap:=h1,toks:=s3.toks+([]:List (Str×Value)).length}:=by
  refine codeAny_loop rfl (λn s'=>∃i av H',Inv XC [] av H' s'∧tn i s'.heap∧(∀b∈fp,H' b=none)∧W i n av H') (λn s' hI=>?_) m0 ⟨0,_,_,I4,Jx,λb hb=>(f3 b hb).1,w0⟩;obtain ⟨i,av,H',I5,sO,oh,w5⟩:=hI;show wpAny _ X.A ((compTurn (.ListComp elt [⟨t0,i0,f0,0⟩,⟨t1,i1,f1,0⟩] scope pos) 0 (.ref it) (.ref s2.heap.objs.size) XC.env).onRaise (λx=>do noteFrame x XC.env;theTreesLotGoes x)) _ _ s'
  refine wpAny_noted ?_;rw [tQ];refine wpAny_bind (wpAny_standAt (wpAny_bind ?_))
  rcases turn i n av H' w5 with ⟨stop,qn⟩ | ⟨go,N,hN,step⟩
  ·have hd:=T.done XC eP ew eK EV i [] s' av H' (notedBy (model X.prog X.w) X.A XC.env λe s'=>compPost (model X.prog X.w) X.A X.xe none (EP X pins σ Q) (.ref s2.heap.objs.size) s3.heap.objs.size (.error e) s') I5 (stat oh) sO stop
   rw [eA] at hd;refine thn hd λr s6 ⟨hr,I6⟩=>?_;subst hr;refine wpAny_pure ?_;subst hX;obtain ⟨m,hn,_⟩:=I6.loc;exact ⟨m,hn,λh' sb=>⟨.ref s2.heap.objs.size,H',comp_back I3 f3 I6 sb,rfl,qn⟩⟩
  ·have hd:=T.item XC eP ew eK EV i [] s' av H' (notedBy (model X.prog X.w) X.A XC.env λe s'=>compPost (model X.prog X.w) X.A X.xe none (EP X pins σ Q) (.ref s2.heap.objs.size) s3.heap.objs.size (.error e) s') I5 (stat oh) sO go
   rw [eA] at hd;refine thn hd λr s6 ⟨u,hr,h6⟩=>?_;subst hr;refine wpAny_bind (thn h6 λ_ s7 ⟨x,H7,I7,r7,y7,u5,Hd⟩=>?_);have FX:=I7.pinned (stat Hd) (T.obj _ _ u5)
   have nextT:∀{fX:St}{H8:Hp}{s8:Shared},Inv XC ([]++kE fp s7.heap) fX H8 s8→N fX H8→∃m,m<n∧∃i av H',Inv XC [] av H' s8∧tn i s8.heap∧(∀b∈fp,H' b=none)∧W i m av H':=λ {fX H8 s8} I8 n8=>by
    obtain ⟨m',hm,w8⟩:=hN fX H8 n8;refine ⟨m',hm,i+1,fX,H8,I8.iJ,T.keep _ _ _ u5 λb hb o e=>(I8.pin (b,o) (cL _ (cL _ (dH hb e)))).1,λb hb=>?_,w8⟩;obtain ⟨o,e,d⟩:=T.obj _ _ u5 b hb;exact (I8.pin (b,o) (cL _ (cL _ (dH hb e)))).2.1
   refine wpAny_bind (ja (thn (OR _ s7 av H7 x u _ FX r7 (step x H7 y7)) λ_ s8 ⟨fX,H8,I8,q8⟩=>?_));refine wpAny_bind (ja (thn (O8 _ s8 fX H8 _ I8 q8) λb s9 ⟨H9,I9,q9⟩=>?_));cases b with
   |false=>
    rw [if_neg dE] at q9;exact wpAny_pure ⟨by subst hX;rfl,nextT I9 q9⟩
   |true=>
    rw [if_pos rfl] at q9;refine wpAny_bind (ja (thn (Zb _ s9 fX H9 _ I9 q9) λv1 yS YC=>?_));refine wpAny_bind (wpAny_standAt (wpAny_bind (wpAny_of_eq (E4 _ v1) (wpAny_bind (wpAny_holding (ja (thn YC λz8 CC YD=>?_)))))));obtain ⟨HL,fp1,tn1,J1,Ei,rfl,FW,T1,Wu,Yp,Zc⟩:=YD;refine wpAny_bind (wpAny_runOwn ?_);have tr:∀(cd:Code)(R:Result→Shared→Prop),codeAny (model XC.prog XC.w) XC.A cd R CC→codeAny (model X.prog X.w) X.A cd R CC:=λcd R h=>by rw [eP,ew,eA] at h;exact h
    exact tr _ _ (zD Kz EV FW T1 Wu Yp Th TY OL Zc λav H' s' W4 K3=>wpAny_pure ⟨by subst hX;rfl,nextT W4 K3⟩)
 subst hX;exact codeAny_compStart_list loop (T.self _ 0 _ _ _ Jx loop)
end
end L2
namespace KS
open PySem PySem.W PyProof.Rows
section
variable {prog:Program} {w:World} {A:Around} {E:Value→Shared→Prop} {s:Shared}
theorem AH{a:Addr}{vs:List Value}{n:Nat}{G:PySem.Fin→Shared→Prop}(ho:s.heap.get? a=some (seqObj "list" vs.toArray n))(h2:vs.length<2)
  (h:G (.done (.ret .none)) {s with heap:=sortedHeap s.heap a vs vs.toArray}):wpAny (model prog w) A (Builtin.«list.sort» ⟨[.ref a],[]⟩) G E s:=by
 rw [list_sort_plain];have la:a<s.heap.objs.size:=Heap.lt_size ho;refine wpAny_bind (listItems_at ho rfl (wpAny_bind (listUpdate_at ho rfl ?_)));obtain ⟨e1,vN⟩:∃k,(s.heap.update a (Obj.mapSeq λ_=> #[])).get? a=some (seqObj "list" #[] k):=⟨_,get?_update_seq ho (λ_=> #[])⟩;refine wpAny_bind (seqEpoch_at vN rfl (wpAny_bind (wpAny_newTuple (wpAny_bind (wpAny_newList (wpAny_holding ?_))))));have Hz:(((s.heap.update a (Obj.mapSeq λ_=> #[])).push (seqObj "tuple" vs.toArray 0)).push (seqObj "list" #[] 0)).get? a=some (seqObj "list" #[] e1):=Heap.get?_push_of_some _ (Heap.get?_push_of_some _ vN);show wpAny (model prog w) A _ G E {s with heap:=((s.heap.update a (Obj.mapSeq λ_=> #[])).push (seqObj "tuple" vs.toArray 0)).push (seqObj "list" #[] 0)}
 dsimp only;have lz:vs.toArray.size<2:=by simpa using h2
 rw [if_pos lz,if_pos lz];refine wpAny_bind (wpAny_pure ?_);rw [StateT.run_pure];refine wpAny_bind (wpAny_pure ?_);dsimp only
 have ez:(arrOf (SortSt.mk' general' (vs.toArray.zip vs.toArray) #[] 7 none)).map (·.2)=vs.toArray:=by
  show (vs.toArray.zip vs.toArray).map (·.2)=vs.toArray;apply Array.toList_inj.mp;simp [List.map_snd_zip]
 refine wpAny_bind (seqEpoch_at Hz rfl (wpAny_bind (listUpdate_at Hz rfl ?_ (hsz2:=by rw [ez];rw [sizeLine_eq];omega))))
 simp only [bne_self_eq_false,fB,if_false];have h':=h;unfold sortedHeap at h';rw [ez];exact wpAny_pure h'
theorem nP{l:Addr}{vs:List Value}{G:Value→Shared→Prop}(hl:s.heap.IsList l vs.toArray)(h2:vs.length<2)(h:G (.ref (s.heap.objs.size+1)) {s with heap:=sortedAll s.heap vs vs.toArray}):
  wpAny (model prog w) A (call (.builtin "sorted") [.ref l]) G E s:=by
 refine Calls.call_function_entry kind_sorted plain_sorted entry_sorted (args_sorted1 (.ref l)) ?_;unfold Builtin.«sorted»;have l2:vs.length≤sizeLine:=by rw [sizeLine_eq];omega
 refine wpAny_bind (m:=checkCount "sorted" 1 1 _) (wpAny_pure (wpAny_bind (collect_list hl (wpAny_bind (wpAny_newList ?_ l2)) l2)));have z1:((s.heap.push (seqObj "list" #[] 0)).update s.heap.objs.size (Obj.mapSeq (·++vs.toArray))).objs.size=s.heap.objs.size+1:=by rw [Heap.size_update,size_push']
 have z2:(((s.heap.push (seqObj "list" #[] 0)).update s.heap.objs.size (Obj.mapSeq (·++vs.toArray))).push (seqObj "list" vs.toArray 0)).get? (s.heap.objs.size+1)=some (seqObj "list" vs.toArray 0):=by
  rw [←z1];exact Heap.get?_push_size _ rfl
 show wpAny (model prog w) _ _ _ E {s with heap:=((s.heap.push (seqObj "list" #[] 0)).update s.heap.objs.size (Obj.mapSeq (·++vs.toArray))).push (seqObj "list" vs.toArray 0)}
 rw [z1];exact wpAny_bind (wpAny_holding (wpAny_call_entry slot_list_sort ⟨_,z2,rfl⟩ entry_list_sort (AH z2 h2 ⟨_,rfl,wpAny_pure ⟨_,rfl,h⟩⟩) (args_list_sort _)))
end
end KS
namespace L2
open PySem PySem.Spec PyProof.Rows
section
variable {X:Cx} {pins:List (Addr×Obj)} {σ:St} {H:Hp} {s:Shared} {h':Heap}
end
def gk(k:Nat×Nat):List V:= [.int (k.1:Nat), .int (k.2:Nat)]
def nY(H:Hp)(L:List (Addr×(Nat×Nat))):Prop:=∀p∈L,H p.1=some (.tup (gk p.2))
def iQ(a b:Nat×Nat):Bool:=if a.1=b.1 then decide (a.2<b.2) else decide (a.1<b.1)
theorem qI(x y:Nat×Nat):iQ x y=true↔x.1<y.1∨(x.1=y.1∧x.2<y.2):=by
 unfold iQ
 by_cases e:x.1=y.1
 ·rw [if_pos e,decide_eq_true_iff]
  omega
 ·rw [if_neg e,decide_eq_true_iff]
  omega
theorem Fd(x y z:Nat×Nat)(h:iQ x z=true):iQ x y=true∨iQ y z=true:=by
 rw [qI] at*;rw [qI];omega
theorem HW(x y z:Nat×Nat)(h:iQ x y=true)(h':iQ y z=true):iQ x z=true:=by
 rw [qI] at*;omega
theorem uq{a b:Nat×Nat}(h:iQ b a=false):Wb.lexLe a b:=by
 unfold iQ at h;unfold Wb.lexLe
 by_cases e:b.1=a.1
 ·rw [if_pos e] at h
  have:=of_decide_eq_false h
  right;omega
 ·rw [if_neg e] at h
  have:=of_decide_eq_false h
  left;omega
theorem KN{prog:Program}{w:World}{A:Around}{E:Value→Shared→Prop}{s:Shared}{x y:Addr}{a1 a2 b1 b2:Int}{t1 t2 u1 u2:Tok}{C:Bool→Shared→Prop}
  (hx:IsTup s.heap x [.int a1 t1, .int a2 t2].toArray) (hy:IsTup s.heap y [.int b1 u1, .int b2 u2].toArray)
  (h:C (if a1=b1 then decide (a2<b2) else decide (a1<b1)) s):wpAny (model prog w) A (keyLt' (tuples' true) (.ref x) (.ref y)) C E s:=by
 obtain ⟨ox,Zr,_,nx,dx⟩:=hx;obtain ⟨oy,Zs,_,ny,dy⟩:=hy;refine PySem.W.kat_lt Zr dx Zs dy ?_;refine PySem.W.kat_cons (SeqAt.EqAt.int_int a1 t1 b1 u1 prog w _ _ ?_)
 by_cases e1:a1=b1
 ·rw [if_pos e1] at h
  rw [show (a1==b1)=true by simpa using e1]
  refine PySem.W.kat_yes (PySem.W.kat_cons (SeqAt.EqAt.int_int a2 t2 b2 u2 prog w _ _ ?_))
  by_cases e2:a2=b2
  ·rw [show (a2==b2)=true by simpa using e2]
   refine PySem.W.kat_yes (PySem.W.kat_nil ?_);rw [show decide (a2<b2)=false by simp;omega] at h
   simpa using h
  ·rw [show (a2==b2)=false by simpa using e2]
   refine PySem.W.kat_no (PySem.W.kat_one _ _ ?_);exact lt_int h
 ·rw [if_neg e1] at h
  rw [show (a1==b1)=false by simpa using e1]
  exact PySem.W.kat_no (oneLt_int h)
section
variable {X:Cx}
theorem oU:∀{as:List Addr}{us:List Value},Vals (as.map V.ref) us→us=as.map Value.ref
 | [],_, .nil=>rfl
 |a::as,_, .cons r t=>by cases r;rw [oU t];rfl
theorem oO:∀as:List Addr,Vals (as.map V.ref) (as.map Value.ref)
 | []=> .nil
 |a::as=> .cons rfl (oO as)
theorem Fp{pins:List (Addr×Obj)}{σ:St}{H:Hp}{s:Shared}{a:Addr}{k:Nat×Nat}(I:Inv X pins σ H s)(h:H a=some (.tup (gk k))):
  ∃t u,IsTup s.heap a [.int (k.1:Nat) t, .int (k.2:Nat) u].toArray:=by
 obtain ⟨its,r,p,_⟩:=I.tuple (cJ.of h);obtain ⟨u1,u2,rfl,⟨t,rfl⟩,⟨u,rfl⟩⟩:=Vals.two r;exact ⟨t,u,p⟩
end
end L2
set_option maxHeartbeats 4000000
namespace L2
open PySem
theorem bH.of{X:Cx}{scope:Scope}(sc:Scope)(e:X.env.scope=sc)(k:scope.kind= .function)(a:∀x∈scope.names,x.2= .local→scope.names.lookup x.1=some .local)(b:∀x∈scope.names,x.2≠ .cell)
  (c:∀x∈scope.names,x.2= .free→sc.names.lookup x.1=some .cell∨sc.names.lookup x.1=some .free):bH X scope:=⟨k,a,b,λx hx hf=>by rw [←e] at c;exact c x hx hf⟩
theorem wx{K:PySem.W.Frag}{a:Addr}{xs:List V}{g:TG}{tb:TS}{D:Ends}{σ:St}{H:Hp}(Pv:Nat→St→Hp→Prop)(h0:Pv 0 σ H)(hl:∀i σ H,i≤xs.length→Pv i σ H→aG K H a xs)
  (hs:∀(i:Nat) x t σ H,xs[i]? =some x→H t=none→Pv i σ H→g (.ref t) σ (upd H t (.tup [.int (i:Int),x])) λcy H2=>tb {D with nx:=Pv (i+1),ct:=Pv (i+1),bk:=D.nx} cy H2) (hd:∀σ H,Pv xs.length σ H→D.nx σ H):
  ∃W:Nat→Nat→St→Hp→Prop,(∃m,W 0 m σ H)∧∀i m σ H,W i m σ H→
   ((Ej K a).stop i H∧D.nx σ H)∨((Ej K a).go i H∧∃N:St→Hp→Prop,(∀av H',N av H'→∃m',m'<m∧W (i+1) m' av H')∧∀x H',(Ej K a).yld i H x H'→g x σ H' λcy H2=>tb {D with nx:=N,ct:=N,bk:=D.nx} cy H2):=by
 refine ⟨λi m σ H=>m=xs.length-i∧i≤xs.length∧Pv i σ H,⟨xs.length,by simp,cZ _,h0⟩,?_⟩
 rintro i m σ H ⟨rfl,hi,p⟩;have q:=hl i σ H hi p
 by_cases bx:i<xs.length
 ·refine .inr ⟨⟨xs,xs[i],q,by simp [bx]⟩,Pv (i+1),λav H' p'=>⟨xs.length-(i+1),by omega,rfl,bx,p'⟩,λx H' y=>?_⟩
  obtain ⟨t,v,rfl,ht,rfl,hv⟩:=y;exact hs i v t σ H (hv xs q) ht p
 ·have e:i=xs.length:=by omega
  subst e;exact .inl ⟨⟨xs,q,aV _⟩,hd σ H p⟩
theorem wF{X:Cx}{K:PySem.W.Frag}(e:X.K=K:=by rfl):xC X (DU K):=by rw [←e];exact bp
theorem Aa{X:Cx}{K:PySem.W.Frag}(e:X.K=K:=by rfl):xC X (Ni K):=by rw [←e];exact DH
theorem Ck{X:Cx}{K:PySem.W.Frag}(e:X.K=K:=by rfl):OpR X (compareOp .NotIn) (LB K true):=by rw [←e];exact nK
structure bP (K:PySem.W.Frag) (mg:Str→Option Value) (x:Str) (st:Stmt) (ps:List Str) where
 f:Addr
 fd:FuncData
 F:vD K x x st f fd
 b:Binds K fd ps []
 m:mg x=some (.ref f)
theorem ay{H:Hp}{p:Addr}(h:H p=none)(o:HO):aC H (upd H p o):=λb u q=>by rw [ab (ah q h)];exact q
theorem small{n:Nat}(h:n≤1000):n≤sizeLine:=Nat.le_of_lt (bq h)
end L2
namespace TS
open PySem PyProof.Rows
def dQ:Bool→Keyed→Array Keyed→Nat→Nat→Nat→StateT SortSt Sem (Option Nat):=sortPriv%PySem.Builtin.gallop
def mT:Array Keyed→Array Keyed→StateT SortSt Sem (Array Keyed):=sortPriv%PySem.Builtin.mergeLo
def mS:Array Keyed→Array Keyed→StateT SortSt Sem (Array Keyed):=sortPriv%PySem.Builtin.mergeHi
def setMinGallop':Nat→StateT SortSt Sem Unit:=sortPriv%PySem.Builtin.setMinGallop
def iL(left:Bool)(key:Keyed)(arr:Array Keyed)(base i:Nat):StateT SortSt Sem (Option Bool):=do
 let x ←elem' arr (base+i)
 if left then lt' x key else return (←lt' key x).map (!·)
theorem zQ(left:Bool)(key:Keyed)(arr:Array Keyed)(base n hint:Nat):dQ left key arr base n hint=(do
 let mut lastofs:=0
 let mut ofs:=1
 let mut lo:=0
 let mut hi:=0
 let some right ←iL left key arr base hint|return none
 if right then
  let pR:=n-hint
  for _ in [0:n] do
   if ofs≥pR then break
   let some more ←iL left key arr base (hint+ofs) |return none
   if !more then break
   lastofs:=ofs
   ofs:=2*ofs+1
  lo:=hint+lastofs+1
  hi:=hint+min ofs pR
 else
  let pR:=hint+1
  for _ in [0:n] do
   if ofs≥pR then break
   let some found ←iL left key arr base (hint-ofs) |return none
   if found then break
   lastofs:=ofs
   ofs:=2*ofs+1
  lo:=hint+1-min ofs pR
  hi:=hint-lastofs
 for _ in [0:n] do
  if lo≥hi then break
  let m:=lo+(hi-lo) / 2
  let some more ←iL left key arr base m|return none
  if more then lo:=m+1 else hi:=m
 return some hi):=rfl
def fS(O:KeyOrd)(key:Keyed→O.α)(S:Keyed→Prop)(k0:SortKind)(M:Model)(A:Around)(E:Value→Shared→Prop)(s:Shared):Prop:=
 ∀(x y:Keyed)(st:SortSt)(Q:Option Bool→SortSt→Prop),S x→S y→kindOf st=k0→Q (some (O.blt (key x) (key y))) st→wpS M A E s (lt' x y) Q st
section
variable {O:KeyOrd} {key:Keyed→O.α} {S:Keyed→Prop} {k0:SortKind} {M:Model} {A:Around} {E:Value→Shared→Prop} {s:Shared} {st:SortSt}
def cU(O:KeyOrd)(key:Keyed→O.α)(left:Bool)(k x:Keyed):Bool:=if left then O.blt (key x) (key k) else !O.blt (key k) (key x)
theorem aS{arr:Array Keyed}{i:Nat}{x:Keyed}{Q:Keyed→SortSt→Prop}(h:arr[i]? =some x)(q:Q x st):wpS M A E s (elem' arr i) Q st:=by
 rw [elem'_eq,h];exact wpS_pure q
theorem jq(C:fS O key S k0 M A E s){left:Bool}{k x:Keyed}{arr:Array Keyed}{base i:Nat}{Q:Option Bool→SortSt→Prop}(hx:arr[base+i]? =some x)(sk:S k)(sx:S x)(hk:kindOf st=k0)
  (q:Q (some (cU O key left k x)) st):wpS M A E s (iL left k arr base i) Q st:=by
 unfold iL;refine wpS_bind (aS hx ?_);unfold cU at q;cases left with
 |true=>exact C _ _ _ _ sx sk hk q
 |false=>exact wpS_bind (C _ _ _ _ sk sx hk (wpS_pure q))
structure Seg (S:Keyed→Prop) (arr:Array Keyed) (base n:Nat) (g:Nat→Keyed):Prop where
 at_:∀i,i<n→arr[base+i]? =some (g i)
 mem:∀i,i<n→S (g i)
theorem fR(C:fS O key S k0 M A E s){left:Bool}{k:Keyed}{arr:Array Keyed}{base n hint:Nat}{g:Nat→Keyed}{Q:Option Nat→SortSt→Prop}(G:Seg S arr base n g)(sk:S k)(hk:kindOf st=k0)(hh:hint<n)
  (mono:∀i j,i≤j→j<n→cU O key left k (g j)=true→cU O key left k (g i)=true)
  (q:∀p,p≤n→(∀i,i<p→cU O key left k (g i)=true)→(∀i,p≤i→i<n→cU O key left k (g i)=false)→Q (some p) st):wpS M A E s (dQ left k arr base n hint) Q st:=by
 rw [zQ];refine wpS_bind (jq C (G.at_ _ hh) sk (G.mem _ hh) hk ?_)
 have Ca:∀i j,i≤j→j<n→cU O key left k (g i)=false→cU O key left k (g j)=false:=λi j cV hj h=>by
  cases e:cU O key left k (g j) with
  |false=>rfl
  |true=>rw [mono i j cV hj e] at h;cases h
 have fin:∀lo hi,lo≤hi→hi≤n→(∀i,i<lo→cU O key left k (g i)=true)→(∀i,hi≤i→i<n→cU O key left k (g i)=false)→
   wpS M A E s (do
    let mut lo:=lo
    let mut hi:=hi
    for _ in [0:n] do
     if lo≥hi then break
     let m:=lo+(hi-lo) / 2
     let some more ←iL left k arr base m|return none
     if more then lo:=m+1 else hi:=m
    return some hi) Q st:=by
  intro lo hi hle hn h1 h2;dsimp only
  refine wpS_bind (wpS_mono (wpS_forRange (I:=λx c ag=>ag=st∧∃lo hi,c=(none,lo,hi)∧lo≤hi∧hi≤n∧hi-lo≤n-x∧(∀i,i<lo→cU O key left k (g i)=true)∧(∀i,hi≤i→i<n→cU O key left k (g i)=false))
   (Q:=λc ag=>ag=st∧∃hi,c=(none,hi,hi)∧hi≤n∧(∀i,i<hi→cU O key left k (g i)=true)∧(∀i,hi≤i→i<n→cU O key left k (g i)=false)) ?step ?fin ⟨rfl,lo,hi,rfl,hle,hn,by omega,h1,h2⟩) ?post)
  case fin=>
   rintro c ag ⟨rfl,lo,hi,rfl,a1,a2,a3,a4,a5⟩
   have:lo=hi:=by omega
   subst this;exact ⟨rfl,lo,rfl,a2,a4,a5⟩
  case step=>
   rintro x c ag _ hx ⟨rfl,lo,hi,rfl,a1,a2,a3,a4,a5⟩;dsimp only
   by_cases lJ:lo≥hi
   ·rw [if_pos lJ]
    have:lo=hi:=by omega
    subst this;exact wpS_pure ⟨rfl,lo,rfl,a2,a4,a5⟩
   ·rw [if_neg lJ]
    have hm:lo+(hi-lo) / 2<n:=by omega
    refine wpS_bind (jq C (G.at_ _ hm) sk (G.mem _ hm) hk ?_);cases e:cU O key left k (g (lo+(hi-lo) / 2)) with
    |true=>
     dsimp only;rw [if_pos rfl];exact wpS_pure ⟨rfl,_,_,rfl,by omega,a2,by omega,λi hi=>mono _ _ (by omega) hm e,a5⟩
    |false=>
     dsimp only;rw [if_neg (by decide)]
     exact wpS_pure ⟨rfl,_,_,rfl,by omega,by omega,by omega,a4,λi h1 h2=>Ca _ _ h1 h2 e⟩
  case post=>
   rintro c ag ⟨rfl,hi,rfl,b1,b2,b3⟩;exact wpS_pure (q _ b1 b2 b3)
 dsimp only;cases e0:cU O key left k (g hint) with
 |true=>
  rw [if_pos rfl]
  refine wpS_bind (wpS_mono (wpS_forRange (I:=λx c ag=>ag=st∧∃la o,c=(none,la,o)∧la<o∧x<o∧hint+la<n∧cU O key left k (g (hint+la))=true)
   (Q:=λc ag=>ag=st∧∃la o,c=(none,la,o)∧la<o∧hint+la<n∧cU O key left k (g (hint+la))=true∧(n-hint≤o∨(hint+o<n∧cU O key left k (g (hint+o))=false))) ?step ?fin2 ⟨rfl,0,1,rfl,by omega,by omega,by omega,e0⟩) ?post)
  case fin2=>
   rintro c ag ⟨rfl,la,o,rfl,a1,a2,a3,a4⟩;exact ⟨rfl,la,o,rfl,a1,a3,a4, .inl (by omega)⟩
  case step=>
   rintro x c ag _ hx ⟨rfl,la,o,rfl,a1,a2,a3,a4⟩;dsimp only
   by_cases lJ:o≥n-hint
   ·rw [if_pos lJ]
    exact wpS_pure ⟨rfl,la,o,rfl,a1,a3,a4, .inl lJ⟩
   ·rw [if_neg lJ]
    have hm:hint+o<n:=by omega
    refine wpS_bind (jq C (G.at_ _ hm) sk (G.mem _ hm) hk ?_);cases e:cU O key left k (g (hint+o)) with
    |true=>
     dsimp only;rw [if_neg (by decide)]
     exact wpS_pure ⟨rfl,_,_,rfl,by omega,by omega,hm,e⟩
    |false=>
     dsimp only;rw [if_pos (by decide)]
     exact wpS_pure ⟨rfl,la,o,rfl,a1,a3,a4, .inr ⟨hm,e⟩⟩
  case post=>
   rintro c ag ⟨rfl,la,o,rfl,b1,b2,b3,b4⟩;refine fin (hint+la+1) (hint+min o (n-hint)) (by omega) (by omega) (λi hi=>mono _ _ (by omega) b2 b3) (λi h1 h2=>?_)
   rcases b4 with b4| ⟨b4,b5⟩
   ·omega
   ·exact Ca _ _ (by omega) h2 b5
 |false=>
  rw [if_neg (by decide)]
  refine wpS_bind (wpS_mono (wpS_forRange (I:=λx c ag=>ag=st∧∃la o,c=(none,la,o)∧la<o∧x<o∧la≤hint∧cU O key left k (g (hint-la))=false)
   (Q:=λc ag=>ag=st∧∃la o,c=(none,la,o)∧la<o∧la≤hint∧cU O key left k (g (hint-la))=false∧(hint+1≤o∨(o≤hint∧cU O key left k (g (hint-o))=true))) ?step ?fin2 ⟨rfl,0,1,rfl,by omega,by omega,by omega,e0⟩) ?post)
  case fin2=>
   rintro c ag ⟨rfl,la,o,rfl,a1,a2,a3,a4⟩;exact ⟨rfl,la,o,rfl,a1,a3,a4, .inl (by omega)⟩
  case step=>
   rintro x c ag _ hx ⟨rfl,la,o,rfl,a1,a2,a3,a4⟩;dsimp only
   by_cases lJ:o≥hint+1
   ·rw [if_pos lJ]
    exact wpS_pure ⟨rfl,la,o,rfl,a1,a3,a4, .inl lJ⟩
   ·rw [if_neg lJ]
    have hm:hint-o<n:=by omega
    refine wpS_bind (jq C (G.at_ _ hm) sk (G.mem _ hm) hk ?_);cases e:cU O key left k (g (hint-o)) with
    |true=>
     dsimp only;rw [if_pos rfl];exact wpS_pure ⟨rfl,la,o,rfl,a1,a3,a4, .inr ⟨by omega,e⟩⟩
    |false=>
     dsimp only;rw [if_neg (by decide)]
     exact wpS_pure ⟨rfl,_,_,rfl,by omega,by omega,by omega,e⟩
  case post=>
   rintro c ag ⟨rfl,la,o,rfl,b1,b2,b3,b4⟩;refine fin (hint+1-min o (hint+1)) (hint-la) (by omega) (by omega) (λi hi=>?_) (λi h1 h2=>Ca _ _ h1 h2 b3)
   rcases b4 with b4| ⟨b4,b5⟩
   ·omega
   ·exact mono _ _ (by omega) (by omega) b5
end
section
variable {O:KeyOrd} {key:Keyed→O.α} {S:Keyed→Prop} {k0:SortKind} {M:Model} {A:Around} {E:Value→Shared→Prop} {s:Shared} {st bz:SortSt}
def ky(O:KeyOrd)(key:Keyed→O.α)(xs:Array Keyed)(i:Nat):O.α:=key (xs[i]?.getD (.none, .none))
theorem gH{xs ys:Array Keyed}{i j:Nat}(h:xs[i]? =ys[j]?):ky O key xs i=ky O key ys j:=by unfold ky;rw [h]
def iu(O:KeyOrd)(key:Keyed→O.α)(xs:Array Keyed)(a b:Nat):Prop:=∀i j,a≤i→i≤j→j<b→O.kle (ky O key xs i) (ky O key xs j)
def Eh(O:KeyOrd)(key:Keyed→O.α)(xs:Array Keyed)(a b:Nat):Prop:=∀i j,a≤i→i≤j→j<b→O.kle (ky O key xs j) (ky O key xs i)
structure fU (bz st:SortSt) (lo hi:Nat):Prop where
 perm:(arrOf st).Perm (arrOf bz)
 kind:kindOf st=kindOf bz
 failed:failedOf st=failedOf bz
 pend:pendingOf st=pendingOf bz
 out:∀i,i<lo∨hi≤i→(arrOf st)[i]? =(arrOf bz)[i]?
theorem fU.refl(st:SortSt)(lo hi:Nat):fU st st lo hi:=⟨.refl _,rfl,rfl,rfl,λ_ _=>rfl⟩
theorem fU.trans{yY kI:SortSt}{lo hi:Nat}(a:fU bz yY lo hi)(b:fU yY kI lo hi):fU bz kI lo hi:=
 ⟨b.perm.trans a.perm,b.kind.trans a.kind,b.failed.trans a.failed,b.pend.trans a.pend,λi h=>(b.out i h).trans (a.out i h)⟩
theorem fU.size{lo hi:Nat}(a:fU bz st lo hi):(arrOf st).size=(arrOf bz).size:=a.perm.size_eq
theorem fU.mirror{lo hi i j:Nat}(eW:lo≤i)(hj:j≤hi)(hs:j≤(arrOf st).size):fU st (setArr st (mirror (arrOf st) i j ((j-i) / 2))) lo hi:=
 ⟨mirror_perm _ _ _ _,rfl,rfl,rfl,λk h=>by
  show (PyProof.Rows.mirror (arrOf st) i j ((j-i) / 2))[k]? =_;rw [getElem?_mirror_all hs,if_neg (by omega)]⟩
theorem fU.bubble{lo hi src d:Nat}(hd:d≤src)(h1:lo≤src-d)(h2:src<hi)(hs:src<(arrOf st).size):fU st (setArr st (bubble (arrOf st) src d)) lo hi:=
 ⟨bubble_perm _ _ _,rfl,rfl,rfl,λk h=>by
  show (PyProof.Rows.bubble (arrOf st) src d)[k]? =_;rw [getElem?_bubble hs d hd,if_neg (by omega),if_neg (by omega)]⟩
theorem oE{xs:Array Keyed}{i j:Nat}(hj:j≤xs.size)(k:Nat):ky O key (mirror xs i j ((j-i) / 2)) k=if i≤k∧k<j then ky O key xs (i+j-1-k) else ky O key xs k:=by
 have e:=getElem?_mirror_all (i:=i) hj k
 by_cases h1:i≤k∧k<j
 ·rw [if_pos h1] at e ⊢;exact gH e
 ·rw [if_neg h1] at e ⊢;exact gH e
theorem fu{xs:Array Keyed}{i j:Nat}(hj:j≤xs.size)(heq:∀k,i≤k→k<j→ky O key xs k=ky O key xs (j-1))(k:Nat):ky O key (mirror xs i j ((j-i) / 2)) k=ky O key xs k:=by
 rw [oE hj]
 split
 ·rw [heq _ (by omega) (by omega),heq k (by omega) (by omega)]
 ·rfl
theorem ui{xs:Array Keyed}{src d:Nat}(hs:src<xs.size)(hd:d≤src)(k:Nat):
  ky O key (bubble xs src d) k=if k=src-d then ky O key xs src else if src-d<k∧k≤src then ky O key xs (k-1) else ky O key xs k:=by
 have e:=getElem?_bubble hs d hd k
 by_cases h1:k=src-d
 ·rw [if_pos h1] at e ⊢;exact gH e
 ·rw [if_neg h1] at e ⊢
  by_cases h2:src-d<k∧k≤src
  ·rw [if_pos h2] at e ⊢;exact gH e
  ·rw [if_neg h2] at e ⊢;exact gH e
structure Ok (S:Keyed→Prop) (k0:SortKind) (st:SortSt):Prop where
 mem:∀p,p∈(arrOf st).toList→S p
 kind:kindOf st=k0
theorem Ok.step{lo hi:Nat}(o:Ok S k0 bz)(a:fU bz st lo hi):Ok S k0 st:=
 ⟨λp hp=>o.mem p ((Ed.mp a.perm).mem_iff.mp hp),a.kind.trans o.kind⟩
theorem Ok.at{i:Nat}(o:Ok S k0 st)(hi:i<(arrOf st).size):(arrOf st)[i]? =some ((arrOf st)[i]?.getD (.none, .none))∧S ((arrOf st)[i]?.getD (.none, .none)):=by
 have e:(arrOf st)[i]? =some (arrOf st)[i]:=getElem?_pos _ i hi;rw [e];exact ⟨rfl,o.mem _ (by simp)⟩
theorem mE(C:fS O key S k0 M A E s){i j:Nat}{Q:Option Bool→SortSt→Prop}(o:Ok S k0 st)(hi:i<(arrOf st).size)(hj:j<(arrOf st).size)
  (q:Q (some (O.blt (ky O key (arrOf st) i) (ky O key (arrOf st) j))) st):wpS M A E s (ltAt' i j) Q st:=by
 rw [ltAt'_eq];obtain ⟨e1,s1⟩:=o.at hi;obtain ⟨e2,s2⟩:=o.at hj;refine wpS_bind (wpS_get (wpS_bind (aS e1 (wpS_bind (aS e2 (C _ _ _ _ s1 s2 o.kind q))))))
theorem wpS_binarySort(C:fS O key S k0 M A E s){lo n ok:Nat}{Q:Bool→SortSt→Prop}(o:Ok S k0 st)(hn:lo+n≤(arrOf st).size)(hok:ok≤n)(hs:iu O key (arrOf st) lo (lo+ok))
  (h:∀ag,fU st ag lo (lo+n)→iu O key (arrOf ag) lo (lo+n)→Q true ag):wpS M A E s (binarySort' lo n ok) Q st:=by
 rw [binarySort'_eq]
 refine wpS_bind (wpS_mono (wpS_forRange (I:=λk c ag=>c=(none,())∧fU st ag lo (lo+n)∧iu O key (arrOf ag) lo (lo+min k n))
  (Q:=λc ag=>c=(none,())∧fU st ag lo (lo+n)∧iu O key (arrOf ag) lo (lo+n)) ?step ?fin ?init) ?post)
 case post=>
  rintro c ag ⟨rfl,i7,fg⟩;exact wpS_pure (h ag i7 fg)
 case init=>
  refine ⟨rfl, .refl _ _ _,λi j hi cV hj=>?_⟩
  by_cases h1:ok=0
  ·have:i=j:=by omega
   subst this;exact KeyOrd.kle_refl _
  ·exact hs i j hi cV (by omega)
 case fin=>
  rintro c ag ⟨hc,i7,fg⟩;refine ⟨hc,i7,?_⟩
  rwa [show min (max (max ok 1) n) n=n by omega] at fg
 case step=>
  rintro k c ag hak hkn ⟨rfl,i7,fg⟩;rw [show min k n=k by omega] at fg
  have o':=o.step i7;have fI:=i7.size;have hk:lo+k<(arrOf ag).size:=by omega
  refine wpS_bind (wpS_mono (wpS_forRange (I:=λx c cq=>cq=ag∧∃l r,c=(none,l,r)∧l≤r∧r≤k∧r-l≤k-x∧
    (∀i,i<l→O.kle (ky O key (arrOf ag) (lo+i)) (ky O key (arrOf ag) (lo+k)))∧(∀i,r≤i→i<k→O.klt (ky O key (arrOf ag) (lo+k)) (ky O key (arrOf ag) (lo+i))))
   (Q:=λc cq=>cq=ag∧∃l r,c=(none,l,r)∧l≤k∧
    (∀i,i<l→O.kle (ky O key (arrOf ag) (lo+i)) (ky O key (arrOf ag) (lo+k)))∧(∀i,l≤i→i<k→O.klt (ky O key (arrOf ag) (lo+k)) (ky O key (arrOf ag) (lo+i)))) ?istep ?ifin ?iinit) ?ipost)
  case iinit=>exact ⟨rfl,0,k,rfl,by omega,by omega,by omega,λi hi=>by omega,λi h1 h2=>by omega⟩
  case ifin=>
   rintro c cq ⟨rfl,l,r,rfl,Zj,O4,hm,zV,BI⟩
   have:l=r:=by omega
   subst this;exact ⟨rfl,l,l,rfl,O4,zV,BI⟩
  case istep=>
   rintro x c cq _ hxk ⟨rfl,l,r,rfl,Zj,O4,hm,zV,BI⟩;dsimp only
   by_cases lJ:l≥r
   ·rw [if_pos lJ]
    have:l=r:=by omega
    subst this;exact wpS_pure ⟨rfl,l,l,rfl,O4,zV,BI⟩
   ·rw [if_neg lJ]
    refine wpS_bind (mE C o' hk (by omega) ?_)
    cases lK:O.blt (ky O key (arrOf cq) (lo+k)) (ky O key (arrOf cq) (lo+(l+r) / 2))
    case true=>
     simp only [if_true];refine wpS_pure ⟨rfl,l,(l+r) / 2,rfl,by omega,by omega,by omega,zV,λi h1 h2=>?_⟩
     exact KeyOrd.klt_of_klt_of_kle lK (fg _ _ (by omega) (by omega) (by omega))
    case false=>
     simp only [fB,if_false];refine wpS_pure ⟨rfl,(l+r) / 2+1,r,rfl,by omega,by omega,by omega,λi h1=>?_,BI⟩
     exact KeyOrd.kle_trans (fg (lo+i) (lo+(l+r) / 2) (by omega) (by omega) (by omega)) (show O.kle _ _ from lK)
  case ipost=>
   rintro c cq ⟨rfl,l,r,rfl,hlk,zV,BI⟩;show wpS _ _ _ _ (do moveDown' (lo+k) (lo+l);pure (ForInStep.yield (none,()))) _ _
   rw [moveDown'_eq];have ed:lo+k-(lo+l)=k-l:=by omega
   refine wpS_bind (wpS_modify (wpS_pure ⟨rfl,i7.trans (fU.bubble (by omega) (by omega) (by omega) hk),?_⟩))
   rw [show min (k+1) n=k+1 by omega]
   intro i j hi cV hj;show O.kle (ky O key (bubble (arrOf cq) (lo+k) (lo+k-(lo+l))) i) (ky O key (bubble (arrOf cq) (lo+k) (lo+k-(lo+l))) j);rw [ui hk (by omega),ui hk (by omega),show lo+k-(lo+k-(lo+l))=lo+l by omega]
   have Tw:∀a,lo≤a→a<lo+l→O.kle (ky O key (arrOf cq) a) (ky O key (arrOf cq) (lo+k)):=λa h1 h2=>by
    have:=zV (a-lo) (by omega);rwa [show lo+(a-lo)=a by omega] at this
   have Tn:∀a,lo+l≤a→a<lo+k→O.klt (ky O key (arrOf cq) (lo+k)) (ky O key (arrOf cq) a):=λa h1 h2=>by
    have:=BI (a-lo) (by omega) (by omega);rwa [show lo+(a-lo)=a by omega] at this
   repeat' split
   all_goals first
    | (exfalso;omega)
    |exact KeyOrd.kle_refl _
    |exact Tw _ (by omega) (by omega)
    |exact KeyOrd.kle_of_klt (Tn _ (by omega) (by omega))
    |exact fg _ _ (by omega) (by omega) (by omega)
end
def zq(lo a aQ:Nat):StateT SortSt Sem AscSt:=
 forIn [a:aQ] ((none,a):AscSt) λ_ __s=>do
  let __x ←ltAt' (lo+__s.snd) (lo+__s.snd-1)
  match __x with
  |some uY=>if uY=true then pure (ForInStep.done (none,__s.snd)) else pure (ForInStep.yield (none,__s.snd+1))
  |_=>pure (ForInStep.done (some none,__s.snd))
def tailL(lo n aQ:Nat):StateT SortSt Sem (Option Nat):=do
 reverseSlice' lo (lo+n)
 let __s ←zq lo n aQ
 match __s.fst with
 |some r=>pure r
 |none=>pure (some __s.snd)
def xM(lo n aQ:Nat):StateT SortSt Sem DescSt:=
 forIn [n:aQ] ((none,n,0):DescSt) λ_ __s=>do
  let __x ←ltAt' (lo+__s.snd.fst) (lo+__s.snd.fst-1)
  match __x with
  |some uY=>
   if uY=true then
    if __s.snd.snd>0 then do
     reverseSlice' (lo+__s.snd.fst-(__s.snd.snd+1)) (lo+__s.snd.fst)
     pure (ForInStep.yield (none,__s.snd.fst+1,0))
    else pure (ForInStep.yield (none,__s.snd.fst+1,0))
   else do
    let __x ←ltAt' (lo+__s.snd.fst-1) (lo+__s.snd.fst)
    match __x with
    |some KR=>
     if KR=true then pure (ForInStep.done (none,__s.snd.fst,__s.snd.snd))
     else pure (ForInStep.yield (none,__s.snd.fst+1,__s.snd.snd+1))
    |_=>pure (ForInStep.done (some none,__s.snd.fst,__s.snd.snd))
  |_=>pure (ForInStep.done (some none,__s.snd.fst,__s.snd.snd))
def descP(lo n aQ:Nat):StateT SortSt Sem (Option Nat):=do
 liftM (rule "list.sort.descending-run")
 let __s ←xM lo (n+1) aQ
 match __s.fst with
 |some r=>pure r
 |none=>
  if __s.snd.snd>0 then do
   reverseSlice' (lo+__s.snd.fst-(__s.snd.snd+1)) (lo+__s.snd.fst)
   tailL lo __s.snd.fst aQ
  else tailL lo __s.snd.fst aQ
theorem vI(lo aQ:Nat):countRun' lo aQ=(do
  let __s ←zq lo 1 aQ
  match __s.fst with
  |some r=>pure r
  |none=>
   if (__s.snd==aQ)=true then pure (some __s.snd)
   else if __s.snd>1 then do
    let __x ←ltAt' lo (lo+__s.snd-1)
    match __x with
    |some Nj=>if Nj=true then pure (some __s.snd) else do
      reverseSlice' lo (lo+__s.snd)
      descP lo __s.snd aQ
    |_=>pure none
   else descP lo __s.snd aQ):=by
 rw [countRun'_eq];dsimp only;unfold descP tailL xM zq
 congr 1
 funext __s
 obtain ⟨r,n⟩:=__s;cases r with
 |some r=>rfl
 |none=>
  dsimp only
  split
  ·rfl
  ·split
   ·congr 1
    funext x
    cases x with
    |none=>rfl
    |some Nj=>
     dsimp only
     split
     ·rfl
     ·congr 1
      funext _r
      (congr 1;funext _u;congr 1;congr 1;funext s2;obtain ⟨r2,n2,q2⟩:=s2;cases r2 with
 |some r2=>rfl
 |none=>(dsimp only;split;(congr 1;funext _v;(congr 1;funext _w;congr 1;(funext s3;obtain ⟨r3,n3⟩:=s3;cases r3<;>rfl)));(congr 1;funext _w;congr 1;(funext s3;obtain ⟨r3,n3⟩:=s3;cases r3<;>rfl))))
   ·(congr 1;funext _u;congr 1;congr 1;funext s2;obtain ⟨r2,n2,q2⟩:=s2;cases r2 with
 |some r2=>rfl
 |none=>(dsimp only;split;(congr 1;funext _v;(congr 1;funext _w;congr 1;(funext s3;obtain ⟨r3,n3⟩:=s3;cases r3<;>rfl)));(congr 1;funext _w;congr 1;(funext s3;obtain ⟨r3,n3⟩:=s3;cases r3<;>rfl))))
section
variable {O:KeyOrd} {key:Keyed→O.α} {S:Keyed→Prop} {k0:SortKind} {prog:Program} {w:World} {A:Around} {E:Value→Shared→Prop} {s:Shared} {st bz:SortSt}
theorem xf(C:fS O key S k0 (model prog w) A E s){lo a aQ:Nat}{Q:AscSt→SortSt→Prop}(o:Ok S k0 st)(hn:lo+aQ≤(arrOf st).size)(ha:1≤a)(YR:a≤aQ)(hs:iu O key (arrOf st) lo (lo+a))
  (h:∀n,a≤n→n≤aQ→iu O key (arrOf st) lo (lo+n)→(n=aQ∨O.klt (ky O key (arrOf st) (lo+n)) (ky O key (arrOf st) (lo+n-1)))→Q (none,n) st):
  wpS (model prog w) A E s (zq lo a aQ) Q st:=by
 unfold zq;refine wpS_forRange (I:=λx c ag=>ag=st∧c=(none,x)∧iu O key (arrOf st) lo (lo+x)) ?step ?fin ⟨rfl,rfl,hs⟩
 case fin=>
  rintro c ag ⟨rfl,rfl,fg⟩;rw [show max a aQ=aQ by omega] at fg ⊢
  exact h aQ YR (aV _) fg (.inl rfl)
 case step=>
  rintro x c ag SW ZK ⟨rfl,rfl,fg⟩;dsimp only;refine wpS_bind (mE C o (by omega) (by omega) ?_)
  cases lK:O.blt (ky O key (arrOf ag) (lo+x)) (ky O key (arrOf ag) (lo+x-1))
  case true=>
   simp only [if_true];exact wpS_pure (h x SW (by omega) fg (.inr lK))
  case false=>
   simp only [fB,if_false];refine wpS_pure ⟨rfl,rfl,λi j hi cV hj=>?_⟩
   by_cases Ht:j<lo+x
   ·exact fg i j hi cV Ht
   ·have x9:j=lo+x:=by omega
    subst x9
    by_cases eW:i=lo+x
    ·subst eW;exact KeyOrd.kle_refl _
    ·exact KeyOrd.kle_trans (fg i (lo+x-1) hi (by omega) (by omega)) lK
theorem qk{i j:Nat}{Q:Unit→SortSt→Prop}(h:Q () (setArr st (mirror (arrOf st) i j ((j-i) / 2)))):wpS (model prog w) A E s (reverseSlice' i j) Q st:=by
 rw [reverseSlice'_eq];exact wpS_modify h
theorem vo(C:fS O key S k0 (model prog w) A E s){lo n aQ:Nat}{Q:Option Nat→SortSt→Prop}(o:Ok S k0 st)(hn:lo+aQ≤(arrOf st).size)(h1:1≤n)(ya:n≤aQ)(hs:Eh O key (arrOf st) lo (lo+n))
  (h:∀m ag,fU st ag lo (lo+aQ)→1≤m→m≤aQ→iu O key (arrOf ag) lo (lo+m)→Q (some m) ag):wpS (model prog w) A E s (tailL lo n aQ) Q st:=by
 unfold tailL;have fI:lo+n≤(arrOf st).size:=by omega
 refine wpS_bind (qk ?_);have hB:fU st (setArr st (mirror (arrOf st) lo (lo+n) ((lo+n-lo) / 2))) lo (lo+aQ):=fU.mirror (aV _) (by omega) fI
 refine wpS_bind (xf C (o.step hB) (by rw [hB.size];exact hn) h1 ya ?_ λm Zk E3 ZC _=>wpS_pure (h m _ hB (by omega) E3 ZC))
 intro i j hi cV hj;show O.kle (ky O key (mirror (arrOf st) lo (lo+n) ((lo+n-lo) / 2)) i) (ky O key (mirror (arrOf st) lo (lo+n) ((lo+n-lo) / 2)) j);rw [oE fI,oE fI,if_pos (by omega),if_pos (by omega)]
 exact hs _ _ (by omega) (by omega) (by omega)
theorem CV(C:fS O key S k0 (model prog w) A E s){lo n aQ:Nat}{Q:DescSt→SortSt→Prop}(o:Ok S k0 st)(hn:lo+aQ≤(arrOf st).size)(h1:1≤n)(ya:n≤aQ)(hs:Eh O key (arrOf st) lo (lo+n))
  (h:∀m lQ ag,fU st ag lo (lo+aQ)→n≤m→m≤aQ→Eh O key (arrOf ag) lo (lo+m)→lQ+1≤m→(∀i,lo+m-(lQ+1)≤i→i<lo+m→ky O key (arrOf ag) i=ky O key (arrOf ag) (lo+m-1))→Q (none,m,lQ) ag):
  wpS (model prog w) A E s (xM lo n aQ) Q st:=by
 unfold xM
 refine wpS_forRange (I:=λx c ag=>∃lQ,c=(none,x,lQ)∧fU st ag lo (lo+aQ)∧Eh O key (arrOf ag) lo (lo+x)∧lQ+1≤x∧
   (∀i,lo+x-(lQ+1)≤i→i<lo+x→ky O key (arrOf ag) i=ky O key (arrOf ag) (lo+x-1))) ?step ?fin ⟨0,rfl, .refl _ _ _,hs,by omega,λi h1 h2=>by congr 1;omega⟩
 case fin=>
  rintro c ag ⟨lQ,rfl,i7,fg,hq,he⟩;rw [show max n aQ=aQ by omega] at fg hq he ⊢
  exact h aQ lQ ag i7 ya (aV _) fg hq he
 case step=>
  rintro x c ag SW ZK ⟨lQ,rfl,i7,fg,hq,he⟩;dsimp only;have o':=o.step i7;have hz:=i7.size;have fI:lo+x≤(arrOf ag).size:=by omega
  refine wpS_bind (mE C o' (by omega) (by omega) ?_)
  cases lK:O.blt (ky O key (arrOf ag) (lo+x)) (ky O key (arrOf ag) (lo+x-1))
  case true=>
   simp only [if_true]
   have Jz:∀xs:Array Keyed,(∀k,ky O key xs k=ky O key (arrOf ag) k)→Eh O key xs lo (lo+(x+1)):=by
    intro xs hk i j hi cV hj;rw [hk,hk]
    by_cases Ht:j<lo+x
    ·exact fg i j hi cV Ht
    ·have x9:j=lo+x:=by omega
     subst x9
     by_cases eW:i=lo+x
     ·subst eW;exact KeyOrd.kle_refl _
     ·exact KeyOrd.kle_trans (KeyOrd.kle_of_klt lK) (fg i (lo+x-1) hi (by omega) (by omega))
   by_cases zW:lQ>0
   ·rw [if_pos zW]
    refine wpS_bind (qk (wpS_pure ⟨0,rfl,i7.trans (fU.mirror (by omega) (by omega) fI),Jz _ (fu fI he),by omega,λi h1 h2=>by congr 1;omega⟩))
   ·rw [if_neg zW]
    exact wpS_pure ⟨0,rfl,i7,Jz _ (λ_=>rfl),by omega,λi h1 h2=>by congr 1;omega⟩
  case false=>
   simp only [fB,if_false];refine wpS_bind (mE C o' (by omega) (by omega) ?_)
   cases Hw:O.blt (ky O key (arrOf ag) (lo+x-1)) (ky O key (arrOf ag) (lo+x))
   case true=>
    simp only [if_true];exact wpS_pure (h x lQ ag i7 (by omega) (by omega) fg hq he)
   case false=>
    simp only [fB,if_false];have MK:ky O key (arrOf ag) (lo+x)=ky O key (arrOf ag) (lo+x-1):=O.total _ _ lK Hw;refine wpS_pure ⟨lQ+1,rfl,i7,λi j hi cV hj=>?_,by omega,λi h1 h2=>?_⟩
    ·by_cases Ht:j<lo+x
     ·exact fg i j hi cV Ht
     ·have x9:j=lo+x:=by omega
      subst x9
      by_cases eW:i=lo+x
      ·subst eW;exact KeyOrd.kle_refl _
      ·rw [MK];exact fg i (lo+x-1) hi (by omega) (by omega)
    ·rw [show lo+(x+1)-1=lo+x by omega]
     by_cases Zd:i=lo+x
     ·subst Zd;rfl
     ·rw [MK];exact he i (by omega) (by omega)
theorem vf(C:fS O key S k0 (model prog w) A E s){lo n aQ:Nat}{Q:Option Nat→SortSt→Prop}(o:Ok S k0 st)(hn:lo+aQ≤(arrOf st).size)(ya:n+1≤aQ)(hs:Eh O key (arrOf st) lo (lo+(n+1)))
  (h:∀m ag,fU st ag lo (lo+aQ)→1≤m→m≤aQ→iu O key (arrOf ag) lo (lo+m)→Q (some m) ag):wpS (model prog w) A E s (descP lo n aQ) Q st:=by
 unfold descP;refine wpS_bind (wpS_lift (wpAny_rule ⟨rfl,?_⟩));refine wpS_bind (CV C o hn (by omega) ya hs λm lQ ag i7 Zk E3 fg hq he=>?_)
 dsimp only;have hz:=i7.size;have fI:lo+m≤(arrOf ag).size:=by omega
 by_cases zW:lQ>0
 ·rw [if_pos zW]
  have Ox:fU ag (setArr ag (mirror (arrOf ag) (lo+m-(lQ+1)) (lo+m) ((lo+m-(lo+m-(lQ+1))) / 2))) lo (lo+aQ):=fU.mirror (by omega) (by omega) fI
  refine wpS_bind (qk (vo C (o.step (i7.trans Ox)) (by rw [Ox.size];omega) (by omega) E3 ?_ λm' cq hS=>h m' cq ((i7.trans Ox).trans hS)))
  intro i j hi cV hj;show O.kle (ky O key (mirror (arrOf ag) _ _ _) j) (ky O key (mirror (arrOf ag) _ _ _) i);rw [fu fI he,fu fI he];exact fg i j hi cV hj
 ·rw [if_neg zW]
  exact vo C (o.step i7) (by omega) (by omega) E3 fg λm' cq hS=>h m' cq (i7.trans hS)
theorem wpS_countRun(C:fS O key S k0 (model prog w) A E s){lo aQ:Nat}{Q:Option Nat→SortSt→Prop}(o:Ok S k0 st)(hn:lo+aQ≤(arrOf st).size)(h1:1≤aQ)
  (h:∀m ag,fU st ag lo (lo+aQ)→1≤m→m≤aQ→iu O key (arrOf ag) lo (lo+m)→Q (some m) ag):wpS (model prog w) A E s (countRun' lo aQ) Q st:=by
 rw [vI];refine wpS_bind (xf C o hn (aV 1) h1 (λi j hi cV hj=>by have:i=j:=(by omega);subst this;exact KeyOrd.kle_refl _) λn Ks vM Kx Zq=>?_)
 dsimp only
 by_cases ya:n=aQ
 ·rw [if_pos (by simpa using ya)]
  exact wpS_pure (h n st (.refl _ _ _) Ks vM Kx)
 ·rw [if_neg (by simpa using ya)]
  have bx:O.klt (ky O key (arrOf st) (lo+n)) (ky O key (arrOf st) (lo+n-1)):=Zq.resolve_left ya
  by_cases Tj:n>1
  ·rw [if_pos Tj]
   refine wpS_bind (mE C o (by omega) (by omega) ?_)
   cases O5:O.blt (ky O key (arrOf st) lo) (ky O key (arrOf st) (lo+n-1))
   case true=>
    simp only [if_true];exact wpS_pure (h n st (.refl _ _ _) Ks vM Kx)
   case false=>
    simp only [fB,if_false];have fI:lo+n≤(arrOf st).size:=by omega
    have ic:∀k,lo≤k→k<lo+n→ky O key (arrOf st) k=ky O key (arrOf st) (lo+n-1):=by
     intro k sv hk;have a1:=Kx lo k (by omega) sv hk
     have a2:=Kx k (lo+n-1) sv (by omega) (by omega)
     exact KeyOrd.kle_antisymm a2 (KeyOrd.kle_trans O5 a1)
    have hB:fU st (setArr st (mirror (arrOf st) lo (lo+n) ((lo+n-lo) / 2))) lo (lo+aQ):=fU.mirror (aV _) (by omega) fI
    refine wpS_bind (qk (vf C (o.step hB) (by rw [hB.size];omega) (by omega) ?_ λm' cq hS=>h m' cq (hB.trans hS)))
    intro i j hi cV hj;show O.kle (ky O key (mirror (arrOf st) _ _ _) j) (ky O key (mirror (arrOf st) _ _ _) i);rw [fu fI ic,fu fI ic]
    by_cases Zf:j<lo+n
    ·rw [ic i hi (by omega),ic j (by omega) Zf];exact KeyOrd.kle_refl _
    ·have x9:j=lo+n:=by omega
     subst x9
     by_cases eW:i=lo+n
     ·subst eW;exact KeyOrd.kle_refl _
     ·rw [ic i hi (by omega)];exact KeyOrd.kle_of_klt bx
  ·rw [if_neg Tj]
   have TB:n=1:=by omega
   subst TB;refine vf C o hn (by omega) ?_ h
   intro i j hi cV hj
   by_cases eW:i=j
   ·subst eW;exact KeyOrd.kle_refl _
   ·have Za:i=lo:=by omega
    have Ze:j=lo+1:=by omega
    subst Za;subst Ze;exact KeyOrd.kle_of_klt bx
end
section lists
variable (O:KeyOrd) (key:Keyed→O.α)
def LE(x y:Keyed):Prop:=O.kle (key x) (key y)
structure MI (l o ra rb:List Keyed):Prop where
 perm:(o++(ra++rb)).Perm l
 so:o.Pairwise (LE O key)
 sa:ra.Pairwise (LE O key)
 sb:rb.Pairwise (LE O key)
 le:∀x∈o,∀y∈ra++rb,LE O key x y
def Res(l r:List Keyed):Prop:=r.Perm l∧r.Pairwise (LE O key)
variable {O key}
theorem MI.kr{l o xs ra rb:List Keyed}(m:MI O key l o (xs++ra) rb)(h:∀x∈xs,∀y∈rb,LE O key x y):MI O key l (o++xs) ra rb:=by
 obtain ⟨sx,sr,sxr⟩:=zh.mp m.sa;refine ⟨by simpa [kU] using m.perm,zh.mpr ⟨m.so,sx,λx hx y hy=>m.le x hx y (by simp [hy])⟩,sr,m.sb,λx hx y hy=>?_⟩
 rcases b9.mp hx with z|z
 ·refine m.le x z y ?_
  rcases b9.mp hy with u|u<;>simp [u]
 ·rcases b9.mp hy with u|u
  ·exact sxr x z y u
  ·exact h x z y u
theorem MI.swap{l o ra rb:List Keyed}(m:MI O key l o ra rb):MI O key l o rb ra:=
 ⟨(List.Perm.append_left o r9).trans m.perm,m.so,m.sb,m.sa,λx hx y hy=>m.le x hx y (by rcases b9.mp hy with u|u<;>simp [u])⟩
theorem MI.ku{l o xs ra rb:List Keyed}(m:MI O key l o ra (xs++rb))(h:∀x∈xs,∀y∈ra,LE O key x y):MI O key l (o++xs) ra rb:=(m.swap.kr h).swap
theorem MI.zN{l o ra:List Keyed}(m:MI O key l o ra []):Res O key l (o++ra):=
 ⟨by simpa using m.perm,zh.mpr ⟨m.so,m.sa,λx hx y hy=>m.le x hx y (by simp [hy])⟩⟩
theorem MI.yl{l o ra rb:List Keyed}(m:MI O key l o ra rb)(h:∀y∈rb,∀x∈ra,LE O key y x):Res O key l (o++rb++ra):=by
 have m':MI O key l o ra (rb++ []):=by rw [j4];exact m
 exact (m'.ku h).zN
end lists
def yu(a b:Array Keyed)(mg ac bc ia:Nat)(out:Array Keyed)(ib:Nat):StateT SortSt Sem (ForInStep (Option (Array Keyed)×Array Keyed×Nat×Nat×Nat×Nat×Nat)):=do
 let __do_lift ←elem' a ia
 let out:Array Keyed:=out.push __do_lift
 let ia:Nat:=ia+1
 if (ia+1==a.size)=true then pure (ForInStep.done (some (out++b.extract ib b.size++a.extract ia a.size),out,ia,ib,mg,ac,bc))
 else if (decide (ac<7)&&decide (bc<7))=true then pure (ForInStep.done (none,out,ia,ib,mg,ac,bc))
 else pure (ForInStep.yield (none,out,ia,ib,mg,ac,bc))
def qL(a b:Array Keyed)(mg ac bc ib:Nat)(out:Array Keyed)(ia:Nat):StateT SortSt Sem (ForInStep (Option (Array Keyed)×Array Keyed×Nat×Nat×Nat×Nat×Nat)):=do
 let __do_lift ←elem' b ib
 let out:Array Keyed:=out.push __do_lift
 let ib:Nat:=ib+1
 if (ib==b.size)=true then pure (ForInStep.done (some (out++a.extract ia a.size++b.extract ib b.size),out,ia,ib,mg,ac,bc))
 else do
  let __do_lift ←elem' a ia
  let __x ←dQ true __do_lift b ib (b.size-ib) 0
  match __x with
  |some k=>
   if k>0 then
    if (ib+k==b.size)=true then pure (ForInStep.done (some (out++b.extract ib (ib+k)++a.extract ia a.size++b.extract (ib+k) b.size),out++b.extract ib (ib+k),ia,ib+k,mg,ac,k))
    else yu a b mg ac k ia (out++b.extract ib (ib+k)) (ib+k)
   else yu a b mg ac k ia out ib
  |_=>pure (ForInStep.done (some (out++a.extract ia a.size++b.extract ib b.size),out,ia,ib,mg,ac,bc))
def oH(a b:Array Keyed)(bc ac ia ib:Nat)(out:Array Keyed)(mg:Nat):StateT SortSt Sem (ForInStep (Option (Array Keyed)×Array Keyed×Nat×Nat×Nat×Nat×Nat)):=do
 setMinGallop' mg
 let __do_lift ←elem' b ib
 let __x ←dQ false __do_lift a ia (a.size-ia) 0
 match __x with
 |some k=>
  if k>0 then
   if (ia+k+1==a.size)=true then pure (ForInStep.done (some (out++a.extract ia (ia+k)++b.extract ib b.size++a.extract (ia+k) a.size),out++a.extract ia (ia+k),ia+k,ib,mg,k,bc))
   else if (ia+k==a.size)=true then pure (ForInStep.done (some (out++a.extract ia (ia+k)++a.extract (ia+k) a.size++b.extract ib b.size),out++a.extract ia (ia+k),ia+k,ib,mg,k,bc))
   else qL a b mg k bc ib (out++a.extract ia (ia+k)) (ia+k)
  else qL a b mg k bc ib out ia
 |_=>pure (ForInStep.done (some (out++a.extract ia a.size++b.extract ib b.size),out,ia,ib,mg,ac,bc))
def yw(a b:Array Keyed)(__s:Option (Array Keyed)×Array Keyed×Nat×Nat×Nat×Nat×Nat):StateT SortSt Sem (ForInStep (Option (Array Keyed)×Array Keyed×Nat×Nat×Nat×Nat×Nat)):=
 if __s.2.2.2.2.1>1 then oH a b __s.2.2.2.2.2.2 __s.2.2.2.2.2.1 __s.2.2.1 __s.2.2.2.1 __s.2.1 (__s.2.2.2.2.1-1) else oH a b __s.2.2.2.2.2.2 __s.2.2.2.2.2.1 __s.2.2.1 __s.2.2.2.1 __s.2.1 __s.2.2.2.2.1
def yv(a b:Array Keyed)(mg:Nat)(__s:Option (Array Keyed)×Array Keyed×Nat×Nat×Nat×Nat):StateT SortSt Sem (ForInStep (Option (Array Keyed)×Array Keyed×Nat×Nat×Nat×Nat)):=do
 let y ←elem' b __s.2.2.2.1
 let x ←elem' a __s.2.2.1
 let __x ←lt' y x
 match __x with
 |some Bi=>
  if Bi=true then do
   let y ←elem' b __s.2.2.2.1
   if (__s.2.2.2.1+1==b.size)=true then pure (ForInStep.done (some (__s.2.1.push y++a.extract __s.2.2.1 a.size++b.extract (__s.2.2.2.1+1) b.size),__s.2.1.push y,__s.2.2.1,__s.2.2.2.1+1,0,__s.2.2.2.2.2+1))
   else if __s.2.2.2.2.2+1≥mg then pure (ForInStep.done (none,__s.2.1.push y,__s.2.2.1,__s.2.2.2.1+1,0,__s.2.2.2.2.2+1))
   else pure (ForInStep.yield (none,__s.2.1.push y,__s.2.2.1,__s.2.2.2.1+1,0,__s.2.2.2.2.2+1))
  else do
   let x ←elem' a __s.2.2.1
   if (__s.2.2.1+1+1==a.size)=true then pure (ForInStep.done (some (__s.2.1.push x++b.extract __s.2.2.2.1 b.size++a.extract (__s.2.2.1+1) a.size),__s.2.1.push x,__s.2.2.1+1,__s.2.2.2.1,__s.2.2.2.2.1+1,0))
   else if __s.2.2.2.2.1+1≥mg then pure (ForInStep.done (none,__s.2.1.push x,__s.2.2.1+1,__s.2.2.2.1,__s.2.2.2.2.1+1,0))
   else pure (ForInStep.yield (none,__s.2.1.push x,__s.2.2.1+1,__s.2.2.2.1,__s.2.2.2.2.1+1,0))
 |_=>pure (ForInStep.done (some (__s.2.1++a.extract __s.2.2.1 a.size++b.extract __s.2.2.2.1 b.size),__s.2.1,__s.2.2.1,__s.2.2.2.1,__s.2.2.2.2.1,__s.2.2.2.2.2))
def pP(a b:Array Keyed)(__s:Option (Array Keyed)×Array Keyed×Nat×Nat×Nat):StateT SortSt Sem (ForInStep (Option (Array Keyed)×Array Keyed×Nat×Nat×Nat)):=do
 let __t ←forIn [0:a.size+b.size] (none,__s.2.1,__s.2.2.1,__s.2.2.2.1,0,0) λ_ c=>yv a b __s.2.2.2.2 c
 match __t.1 with
 |some r=>pure (ForInStep.done (some r,__t.2.1,__t.2.2.1,__t.2.2.2.1,__s.2.2.2.2))
 |none=>do
  liftM (rule "list.sort.gallop")
  let __u ←forIn [0:a.size+b.size] (none,__t.2.1,__t.2.2.1,__t.2.2.2.1,__s.2.2.2.2+1,__t.2.2.2.2.1,__t.2.2.2.2.2) λ_ c=>yw a b c
  match __u.1 with
  |some r=>pure (ForInStep.done (some r,__u.2.1,__u.2.2.1,__u.2.2.2.1,__u.2.2.2.2.1))
  |none=>do
   setMinGallop' (__u.2.2.2.2.1+1)
   pure (ForInStep.yield (none,__u.2.1,__u.2.2.1,__u.2.2.2.1,__u.2.2.2.2.1+1))
theorem cD{α β:Type}{m m':StateT SortSt Sem α}{f f':α→StateT SortSt Sem β}(h:m=m')(g:∀x,f x=f' x):m>>=f=m'>>=f':=by rw [h,show f=f' from funext g]
theorem xS{β:Type}{n:Nat}{c0:β}{f f':Nat→β→StateT SortSt Sem (ForInStep β)}(h:∀i c,f i c=f' i c):forIn [0:n] c0 f=forIn [0:n] c0 f':=by rw [show f=f' from funext λi=>funext (h i)]
theorem eL{α:Type}{c:Prop} [Decidable c] {x y x' y':α} (h:c→x=x') (g:¬c→y=y'):(if c then x else y)=if c then x' else y':=by
 by_cases e:c
 ·rw [if_pos e,if_pos e];exact h e
 ·rw [if_neg e,if_neg e];exact g e
theorem vT(a b:Array Keyed):mT a b=(do
 rule "list.sort.merge-lo"
 let total:=a.size+b.size
 let done (out:Array Keyed) (ia ib:Nat):=out++a.extract ia a.size++b.extract ib b.size
 let pL (out:Array Keyed) (ia ib:Nat):=out++b.extract ib b.size++a.extract ia a.size
 let mut out:Array Keyed:= #[←elem' b 0]
 let mut ia:=0
 let mut ib:=1
 if ib==b.size then return done out ia ib
 if ia+1==a.size then return pL out ia ib
 let mut minGallop:=gallopOf (←get)
 for _ in [0:total] do
  let mut acount:=0
  let mut bcount:=0
  for _ in [0:total] do
   let some Bi ←lt' (←elem' b ib) (←elem' a ia) |return done out ia ib
   if Bi then
    out:=out.push (←elem' b ib);ib:=ib+1;bcount:=bcount+1;acount:=0
    if ib==b.size then return done out ia ib
    if bcount≥minGallop then break
   else
    out:=out.push (←elem' a ia);ia:=ia+1;acount:=acount+1;bcount:=0
    if ia+1==a.size then return pL out ia ib
    if acount≥minGallop then break
  rule "list.sort.gallop"
  minGallop:=minGallop+1
  for _ in [0:total] do
   if minGallop>1 then minGallop:=minGallop-1
   setMinGallop' minGallop
   let some k ←dQ false (←elem' b ib) a ia (a.size-ia) 0|return done out ia ib
   acount:=k
   if k>0 then
    out:=out++a.extract ia (ia+k);ia:=ia+k
    if ia+1==a.size then return pL out ia ib
    if ia==a.size then return done out ia ib
   out:=out.push (←elem' b ib);ib:=ib+1
   if ib==b.size then return done out ia ib
   let some k ←dQ true (←elem' a ia) b ib (b.size-ib) 0|return done out ia ib
   bcount:=k
   if k>0 then
    out:=out++b.extract ib (ib+k);ib:=ib+k
    if ib==b.size then return done out ia ib
   out:=out.push (←elem' a ia);ia:=ia+1
   if ia+1==a.size then return pL out ia ib
   if acount<7&&bcount<7 then break
  minGallop:=minGallop+1
  setMinGallop' minGallop
 unsupported "internal:list.sort.merge-bound"):=rfl
theorem yA(a b:Array Keyed):mT a b=(do
 liftM (rule "list.sort.merge-lo")
 let y ←elem' b 0
 if (1==b.size)=true then pure (#[y]++a.extract 0 a.size++b.extract 1 b.size)
 else if (0+1==a.size)=true then pure (#[y]++b.extract 1 b.size++a.extract 0 a.size)
 else do
  let __do_lift ←get
  let __s ←forIn [0:a.size+b.size] (none, #[y],0,1,gallopOf __do_lift) λ_ c=>pP a b c
  match __s.1 with
  |some r=>pure r
  |none=>liftM (unsupported (α:=Array Keyed) "internal:list.sort.merge-bound")):=by
 rw [vT];dsimp only;refine cD rfl λ_=>cD rfl λy=>?_;refine congrArg (ite _ _) (congrArg (ite _ _) ?_);refine cD rfl λg=>cD (xS λ_ c=>?_) λu=>?_
 ·unfold pP
  refine cD (xS λ_ t=>?_) λt=>?_
  ·unfold yv
   refine cD rfl λ_=>cD rfl λ_=>cD rfl λz=>?_;cases z<;>rfl
  ·obtain ⟨t1,t2⟩:=t
   cases t1 with
   |some r=>rfl
   |none=>
    dsimp only;refine cD rfl λ_=>cD (xS λ_ u=>?_) λu=>?_
    ·unfold yw
     have jp:∀mg,oH a b u.2.2.2.2.2.2 u.2.2.2.2.2.1 u.2.2.1 u.2.2.2.1 u.2.1 mg=oH a b u.2.2.2.2.2.2 u.2.2.2.2.2.1 u.2.2.1 u.2.2.2.1 u.2.1 mg:=λ_=>rfl;refine eL (λ_=>?_) (λ_=>?_)
     all_goals
      unfold oH;refine cD rfl λ_=>cD rfl λ_=>cD rfl λz=>?_;cases z with
      |none=>rfl
      |some k=>
       dsimp only;refine eL (λ_=>?_) (λ_=>?_)
       ·refine eL (λ_=>rfl) (λ_=>eL (λ_=>rfl) (λ_=>?_))
        unfold qL;refine cD rfl λ_=>eL (λ_=>rfl) (λ_=>cD rfl λ_=>cD rfl λz=>?_);cases z with
        |none=>rfl
        |some k=>rfl
       ·unfold qL
        refine cD rfl λ_=>eL (λ_=>rfl) (λ_=>cD rfl λ_=>cD rfl λz=>?_);cases z with
        |none=>rfl
        |some k=>rfl
    ·obtain ⟨u1,u2⟩:=u
     cases u1<;>rfl
 ·obtain ⟨u1,u2⟩:=u
  cases u1<;>rfl
structure GS (st ag:SortSt):Prop where
 arr:arrOf ag=arrOf st
 kind:kindOf ag=kindOf st
 failed:failedOf ag=failedOf st
 pend:pendingOf ag=pendingOf st
theorem GS.refl(st:SortSt):GS st st:=⟨rfl,rfl,rfl,rfl⟩
theorem GS.trans{a b c:SortSt}(x:GS a b)(y:GS b c):GS a c:=⟨y.arr.trans x.arr,y.kind.trans x.kind,y.failed.trans x.failed,y.pend.trans x.pend⟩
theorem qc(g:Nat):setMinGallop' g=modify λs=>SortSt.mk' (kindOf s) (arrOf s) (pendingOf s) g (failedOf s):=rfl
theorem ext_toList(xs:Array Keyed)(i j:Nat):(xs.extract i j).toList=(xs.toList.drop i).take (j-i):=by
 rw [Array.toList_extract]
theorem jM(xs:Array Keyed)(i:Nat):(xs.extract i xs.size).toList=xs.toList.drop i:=by
 rw [ext_toList,nV (by simp)]
theorem drop_cons{xs:Array Keyed}{i:Nat}{x:Keyed}(h:xs[i]? =some x):xs.toList.drop i=x::xs.toList.drop (i+1):=by
 have h':xs.toList[i]? =some x:=by rw [←h];simp
 obtain ⟨bx,e⟩:=cu.mp h';rw [ql bx,e]
theorem lC(l:List Keyed)(i k:Nat):l.drop i=(l.drop i).take k++l.drop (i+k):=by
 rw [←List.drop_drop,iY]
theorem dB{l:List Keyed}{i k:Nat}{x:Keyed}(h:x∈(l.drop i).take k):∃j,j<k∧i+j<l.length∧l[i+j]? =some x:=by
 obtain ⟨j,hj⟩:=gz h;rw [zj] at hj
 split at hj
 ·rename_i c
  rw [xk] at hj;exact ⟨j,c,(cu.mp hj).1,hj⟩
 ·cases hj
theorem fJ{l:List Keyed}{i:Nat}{x:Keyed}(h:x∈l.drop i):∃j,i+j<l.length∧l[i+j]? =some x:=by
 obtain ⟨j,hj⟩:=gz h;rw [xk] at hj;exact ⟨j,(cu.mp hj).1,hj⟩
section
variable {O:KeyOrd} {key:Keyed→O.α} {S:Keyed→Prop} {k0:SortKind} {M:Model} {A:Around} {E:Value→Shared→Prop} {s:Shared} {st bz:SortSt}
theorem nh{g:Nat}{Q:Unit→SortSt→Prop}(h:∀ag,GS st ag→Q () ag):wpS M A E s (setMinGallop' g) Q st:=by
 rw [qc];exact wpS_modify (h _ ⟨rfl,rfl,rfl,rfl⟩)
structure kZ (O:KeyOrd) (key:Keyed→O.α) (S:Keyed→Prop) (a b:Array Keyed):Prop where
 ma:∀x∈a.toList,S x
 mb:∀x∈b.toList,S x
 sa:a.toList.Pairwise (LE O key)
 sb:b.toList.Pairwise (LE O key)
 na:1≤a.size
 nb:1≤b.size
 first:∀y,b[0]? =some y→∀x∈a.toList,LE O key y x
 last:∀x,a[a.size-1]? =some x→∀y∈b.toList,LE O key y x
theorem kZ.yl{a b:Array Keyed}(T:kZ O key S a b){ia ib:Nat}(h:ia+1=a.size):∀y∈b.toList.drop ib,∀x∈a.toList.drop ia,LE O key y x:=λy hy x hx=>by
 obtain ⟨j,hj,e⟩:=fJ hx;rw [cg] at hj
 have:ia+j=a.size-1:=by omega
 rw [this] at e;exact T.last x (by rw [←e];simp) y (List.mem_of_mem_drop hy)
theorem fi{l:List Keyed}(h:l.Pairwise (LE O key)){i j:Nat}{x y:Keyed}(cV:i≤j)(hx:l[i]? =some x)(hy:l[j]? =some y):LE O key x y:=by
 by_cases e:i=j
 ·subst e
  rw [hx] at hy;cases hy;exact KeyOrd.kle_refl _
 ·obtain ⟨h1,e1⟩:=cu.mp hx
  obtain ⟨h2,e2⟩:=cu.mp hy;rw [←e1,←e2];exact vv.mp h i j h1 h2 (by omega)
theorem m9{xs:Array Keyed}(m:∀x∈xs.toList,S x){i n:Nat}(h:i+n≤xs.size):Seg S xs i n (λj=>xs[i+j]?.getD (.none, .none)):=
 ⟨λj hj=>by
  have:i+j<xs.size:=by omega
  rw [getElem?_pos xs (i+j) this];rfl,λj hj=>by
  have:i+j<xs.size:=by omega
  rw [getElem?_pos xs (i+j) this];exact m _ (by simp)⟩
theorem aW{xs:Array Keyed}{i:Nat}(h:i<xs.size):∃x,xs[i]? =some x∧x∈xs.toList∧xs.toList[i]? =some x:=by
 refine ⟨xs[i],getElem?_pos xs i h,by simp,?_⟩
 rw [e7];exact getElem?_pos xs i h
theorem jQ{xs:Array Keyed}{i:Nat}{x:Keyed}(h:xs[i]? =some x):xs.toList[i]? =some x:=by rw [e7];exact h
theorem je{xs:Array Keyed}{i:Nat}{x:Keyed}(h:xs.toList[i]? =some x):xs[i]? =some x:=by rw [←e7];exact h
structure IV (O:KeyOrd) (key:Keyed→O.α) (a b out:Array Keyed) (ia ib:Nat):Prop where
 mi:MI O key (a.toList++b.toList) out.toList (a.toList.drop ia) (b.toList.drop ib)
 ha:ia<a.size
 hb:ib<b.size
theorem IV.qT{a b out:Array Keyed}{ia ib:Nat}{y:Keyed}(v:MI O key (a.toList++b.toList) out.toList (a.toList.drop ia) (b.toList.drop ib))(hy:b[ib]? =some y)(h:∀x∈a.toList.drop ia,LE O key y x):
  MI O key (a.toList++b.toList) (out.push y).toList (a.toList.drop ia) (b.toList.drop (ib+1)):=by
 rw [drop_cons hy] at v;rw [xn];exact MI.ku (xs:= [y]) v λx hx=>by rw [bN.mp hx];exact h
theorem IV.qS{a b out:Array Keyed}{ia ib:Nat}{x:Keyed}(v:MI O key (a.toList++b.toList) out.toList (a.toList.drop ia) (b.toList.drop ib))(hx:a[ia]? =some x)(h:∀y∈b.toList.drop ib,LE O key x y):
  MI O key (a.toList++b.toList) (out.push x).toList (a.toList.drop (ia+1)) (b.toList.drop ib):=by
 rw [drop_cons hx] at v;rw [xn];exact MI.kr (xs:= [x]) v λx hx=>by rw [bN.mp hx];exact h
theorem IV.ku{a b out:Array Keyed}{ia ib k:Nat}(v:MI O key (a.toList++b.toList) out.toList (a.toList.drop ia) (b.toList.drop ib))(h:∀y∈(b.toList.drop ib).take k,∀x∈a.toList.drop ia,LE O key y x):
  MI O key (a.toList++b.toList) (out++b.extract ib (ib+k)).toList (a.toList.drop ia) (b.toList.drop (ib+k)):=by
 rw [lC b.toList ib k] at v;rw [ik,ext_toList,show ib+k-ib=k by omega]
 exact MI.ku v h
theorem IV.kr{a b out:Array Keyed}{ia ib k:Nat}(v:MI O key (a.toList++b.toList) out.toList (a.toList.drop ia) (b.toList.drop ib))(h:∀x∈(a.toList.drop ia).take k,∀y∈b.toList.drop ib,LE O key x y):
  MI O key (a.toList++b.toList) (out++a.extract ia (ia+k)).toList (a.toList.drop (ia+k)) (b.toList.drop ib):=by
 rw [lC a.toList ia k] at v;rw [ik,ext_toList,show ia+k-ia=k by omega]
 exact MI.kr v h
theorem IV.qA{a b out:Array Keyed}{ia ib:Nat}(v:MI O key (a.toList++b.toList) out.toList (a.toList.drop ia) (b.toList.drop ib))(h:ib=b.size):Res O key (a.toList++b.toList) (out++a.extract ia a.size++b.extract ib b.size).toList:=by
 have e:b.toList.drop ib= []:=vw (by rw [cg];omega)
 rw [ik,ik,jM,jM,e,j4];rw [e] at v;exact v.zN
theorem IV.qz{a b out:Array Keyed}{ia ib:Nat}(v:MI O key (a.toList++b.toList) out.toList (a.toList.drop ia) (b.toList.drop ib))(h:ia=a.size):Res O key (a.toList++b.toList) (out++a.extract ia a.size++b.extract ib b.size).toList:=by
 have e:a.toList.drop ia= []:=vw (by rw [cg];omega)
 rw [ik,ik,jM,jM,e,j4];rw [e] at v;exact v.swap.zN
theorem IV.last{a b out:Array Keyed}(T:kZ O key S a b){ia ib:Nat}(v:MI O key (a.toList++b.toList) out.toList (a.toList.drop ia) (b.toList.drop ib))(h:ia+1=a.size):Res O key (a.toList++b.toList) (out++b.extract ib b.size++a.extract ia a.size).toList:=by
 rw [ik,ik,jM,jM];exact v.yl (T.yl h)
end
section
variable {O:KeyOrd} {key:Keyed→O.α} {S:Keyed→Prop} {k0:SortKind} {M:Model} {A:Around} {E:Value→Shared→Prop} {s:Shared} {st bz:SortSt} {a b:Array Keyed}
def Inv(O:KeyOrd)(key:Keyed→O.α)(a b:Array Keyed)(n:Nat)(out:Array Keyed)(ia ib:Nat):Prop:=MI O key (a.toList++b.toList) out.toList (a.toList.drop ia) (b.toList.drop ib)∧ia+1<a.size∧ib<b.size∧n≤ia+ib
def Fin{ρ:Type}(O:KeyOrd)(key:Keyed→O.α)(a b:Array Keyed)(n:Nat)(c:Option (Array Keyed)×Array Keyed×Nat×Nat×ρ):Prop:=
 (∃r,c.1=some r∧Res O key (a.toList++b.toList) r.toList)∨(c.1=none∧Inv O key a b n c.2.1 c.2.2.1 c.2.2.2.1)
def Out{ρ:Type}(O:KeyOrd)(key:Keyed→O.α)(a b:Array Keyed)(n:Nat)(r:ForInStep (Option (Array Keyed)×Array Keyed×Nat×Nat×ρ)):Prop:=match r with
 | .done c=>Fin O key a b n c
 | .yield c=>c.1=none∧Inv O key a b n c.2.1 c.2.2.1 c.2.2.2.1
def QE{ρ:Type}(O:KeyOrd)(key:Keyed→O.α)(a b:Array Keyed)(n:Nat)(r:ForInStep (Option (Array Keyed)×Array Keyed×Nat×Nat×ρ)):Prop:=match r with
 | .done c=>∃r,c.1=some r∧Res O key (a.toList++b.toList) r.toList
 | .yield c=>c.1=none∧Inv O key a b n c.2.1 c.2.2.1 c.2.2.2.1
theorem vm{n mg ac bc ia ib:Nat}{out:Array Keyed}(T:kZ O key S a b)(g:GS bz st)(v:MI O key (a.toList++b.toList) out.toList (a.toList.drop ia) (b.toList.drop ib))(ha:ia+1<a.size)(hb:ib<b.size)(hn:n≤ia+ib)
  (hx:∀x,a[ia]? =some x→∀y∈b.toList.drop ib,LE O key x y):wpS M A E s (yu a b mg ac bc ia out ib) (λr ag=>GS bz ag∧Out O key a b n r) st:=by
 unfold yu;obtain ⟨x,ex,mx,_⟩:=aW (xs:=a) (i:=ia) (by omega)
 refine wpS_bind (aS ex ?_);have v':=IV.qS v ex (hx x ex);dsimp only
 by_cases h1:ia+1+1=a.size
 ·rw [if_pos (by simpa using h1)]
  exact wpS_pure ⟨g, .inl ⟨_,rfl,IV.last T v' h1⟩⟩
 ·rw [if_neg (by simpa using h1)]
  have iv:Inv O key a b n (out.push x) (ia+1) ib:=⟨v',by omega,hb,by omega⟩
  by_cases h2:(decide (ac<7)&&decide (bc<7))=true
  ·rw [if_pos h2]
   exact wpS_pure ⟨g, .inr ⟨rfl,iv⟩⟩
  ·rw [if_neg h2]
   exact wpS_pure ⟨g,rfl,iv⟩
theorem vk(C:fS O key S k0 M A E s)(hk:kindOf st=k0){n mg ac bc ia ib:Nat}{out:Array Keyed}(T:kZ O key S a b)(g:GS bz st)(v:MI O key (a.toList++b.toList) out.toList (a.toList.drop ia) (b.toList.drop ib))(ha:ia+1<a.size)(hb:ib<b.size)(hn:n≤ia+ib)
  (hy:∀y,b[ib]? =some y→∀x∈a.toList.drop ia,LE O key y x):wpS M A E s (qL a b mg ac bc ib out ia) (λr ag=>GS bz ag∧Out O key a b n r) st:=by
 unfold qL;obtain ⟨y,ey,my,_⟩:=aW (xs:=b) (i:=ib) hb;refine wpS_bind (aS ey ?_);have v':=IV.qT v ey (hy y ey);dsimp only
 by_cases h1:ib+1=b.size
 ·rw [if_pos (by simpa using h1)]
  exact wpS_pure ⟨g, .inl ⟨_,rfl,IV.qA v' h1⟩⟩
 ·rw [if_neg (by simpa using h1)]
  obtain ⟨x,ex,mx,lx⟩:=aW (xs:=a) (i:=ia) (by omega)
  refine wpS_bind (aS ex ?_)
  have xle:∀z∈a.toList.drop ia,LE O key x z:=λz hz=>by
   obtain ⟨j,_,ej⟩:=fJ hz;exact fi T.sa (by omega) lx ej
  have zw:∀j z,ib+1+j<b.size→b.toList[ib+1+j]? =some z→b[ib+1+j]?.getD (Value.none,Value.none)=z:=λj z hj e=>by rw [je e];rfl
  refine wpS_bind (fR C (m9 T.mb (i:=ib+1) (n:=b.size-(ib+1)) (by omega)) (T.ma x mx) hk (by omega) (λi j cV hj h=>?_) λp hp pt pf=>?_)
  ·obtain ⟨yi,e1,_,l1⟩:=aW (xs:=b) (i:=ib+1+i) (by omega)
   obtain ⟨yj,e2,_,l2⟩:=aW (xs:=b) (i:=ib+1+j) (by omega)
   unfold cU at h ⊢;rw [if_pos rfl] at h ⊢;rw [e2] at h;rw [e1];exact KeyOrd.klt_of_kle_of_klt (fi T.sb (by omega) l1 l2) h
  ·have lo:∀y∈(b.toList.drop (ib+1)).take p,∀x∈a.toList.drop ia,LE O key y x:=λz hz u hu=>by
    obtain ⟨j,hj,hl,ej⟩:=dB hz;rw [cg] at hl
    have:=pt j hj
    unfold cU at this;rw [if_pos rfl,zw j z hl ej] at this;exact KeyOrd.kle_trans (KeyOrd.kle_of_klt this) (xle u hu)
   have hi:∀x',a[ia]? =some x'→∀y∈b.toList.drop (ib+1+p),LE O key x' y:=λx' nv z hz=>by
    rw [ex] at nv;cases nv;obtain ⟨j,hl,ej⟩:=fJ hz;rw [cg] at hl
    have:=pf (p+j) (by omega) (by omega)
    unfold cU at this;rw [if_pos rfl,zw (p+j) z (by omega) (by rw [←ej];congr 1;omega)] at this
    exact this
   dsimp only
   by_cases ua:p>0
   ·rw [if_pos ua]
    have v2:=IV.ku v' lo
    by_cases h2:ib+1+p=b.size
    ·rw [if_pos (by simpa using h2)]
     exact wpS_pure ⟨g, .inl ⟨_,rfl,IV.qA v2 h2⟩⟩
    ·rw [if_neg (by simpa using h2)]
     exact vm T g v2 ha (by omega) (by omega) hi
   ·rw [if_neg ua]
    have:p=0:=by omega
    subst this;exact vm T g v' ha (by omega) (by omega) hi
theorem vj(C:fS O key S k0 M A E s)(hk:kindOf st=k0){n mg ac bc ia ib:Nat}{out:Array Keyed}(T:kZ O key S a b)(g:GS bz st)(iv:Inv O key a b n out ia ib):wpS M A E s (oH a b bc ac ia ib out mg) (λr ag=>GS bz ag∧Out O key a b n r) st:=by
 obtain ⟨v,ha,hb,hn⟩:=iv;unfold oH;refine wpS_bind (nh λyY g1=>?_);have vL:kindOf yY=k0:=g1.kind.trans hk;have g':=g.trans g1;obtain ⟨y,ey,my,ly⟩:=aW (xs:=b) (i:=ib) hb;refine wpS_bind (aS ey ?_)
 have yle:∀z∈b.toList.drop ib,LE O key y z:=λz hz=>by
  obtain ⟨j,_,ej⟩:=fJ hz;exact fi T.sb (by omega) ly ej
 have nB:∀j z,ia+j<a.size→a.toList[ia+j]? =some z→a[ia+j]?.getD (Value.none,Value.none)=z:=λj z hj e=>by rw [je e];rfl
 refine wpS_bind (fR C (m9 T.ma (i:=ia) (n:=a.size-ia) (by omega)) (T.mb y my) vL (by omega) (λi j cV hj h=>?_) λp hp pt pf=>?_)
 ·obtain ⟨xi,e1,_,l1⟩:=aW (xs:=a) (i:=ia+i) (by omega)
  obtain ⟨xj,e2,_,l2⟩:=aW (xs:=a) (i:=ia+j) (by omega)
  unfold cU at h ⊢;rw [if_neg (by decide)] at h ⊢
  rw [e2] at h;rw [e1];have h':O.kle (key xj) (key y):=by unfold KeyOrd.kle;simpa using h
  have:=KeyOrd.kle_trans (fi T.sa (by omega) l1 l2) h'
  unfold KeyOrd.kle at this;simpa using this
 ·have lo:∀x∈(a.toList.drop ia).take p,∀y∈b.toList.drop ib,LE O key x y:=λz hz u hu=>by
   obtain ⟨j,hj,hl,ej⟩:=dB hz;rw [cg] at hl
   have:=pt j hj
   unfold cU at this;rw [if_neg (by decide),nB j z hl ej] at this
   have h':O.kle (key z) (key y):=by unfold KeyOrd.kle;simpa using this
   exact KeyOrd.kle_trans h' (yle u hu)
  have hi:∀y',b[ib]? =some y'→∀x∈a.toList.drop (ia+p),LE O key y' x:=λy' lE z hz=>by
   rw [ey] at lE;cases lE;obtain ⟨j,hl,ej⟩:=fJ hz;rw [cg] at hl
   have:=pf (p+j) (by omega) (by omega)
   unfold cU at this;rw [if_neg (by decide),nB (p+j) z (by omega) (by rw [←ej];congr 1;omega)] at this
   exact KeyOrd.kle_of_klt (show O.blt _ _=true by simpa using this)
  dsimp only
  by_cases ua:p>0
  ·rw [if_pos ua]
   have v2:=IV.kr v lo
   by_cases h2:ia+p+1=a.size
   ·rw [if_pos (by simpa using h2)]
    exact wpS_pure ⟨g', .inl ⟨_,rfl,IV.last T v2 h2⟩⟩
   ·rw [if_neg (by simpa using h2)]
    by_cases h3:ia+p=a.size
    ·rw [if_pos (by simpa using h3)]
     exact wpS_pure ⟨g', .inl ⟨_,rfl,IV.qz v2 h3⟩⟩
    ·rw [if_neg (by simpa using h3)]
     exact vk C vL T g' v2 (by omega) hb (by omega) hi
  ·rw [if_neg ua]
   have:p=0:=by omega
   subst this;exact vk C vL T g' v ha hb hn hi
theorem C0(C:fS O key S k0 M A E s)(hk:kindOf st=k0){n:Nat}(T:kZ O key S a b)(g:GS bz st)(c:Option (Array Keyed)×Array Keyed×Nat×Nat×Nat×Nat×Nat)(iv:Inv O key a b n c.2.1 c.2.2.1 c.2.2.2.1):
  wpS M A E s (yw a b c) (λr ag=>GS bz ag∧Out O key a b n r) st:=by
 unfold yw
 by_cases h:c.2.2.2.2.1>1
 ·rw [if_pos h];exact vj C hk T g iv
 ·rw [if_neg h];exact vj C hk T g iv
theorem CZ(C:fS O key S k0 M A E s)(hk:kindOf st=k0){n mg:Nat}(T:kZ O key S a b)(g:GS bz st)(c:Option (Array Keyed)×Array Keyed×Nat×Nat×Nat×Nat)(iv:Inv O key a b n c.2.1 c.2.2.1 c.2.2.2.1):
  wpS M A E s (yv a b mg c) (λr ag=>GS bz ag∧Out O key a b (n+1) r) st:=by
 obtain ⟨c1,out,ia,ib,ac,bc⟩:=c;obtain ⟨v,ha,hb,hn⟩:=iv;dsimp only at v ha hb hn;unfold yv;dsimp only;obtain ⟨y,ey,my,ly⟩:=aW (xs:=b) (i:=ib) hb;obtain ⟨x,ex,mx,lx⟩:=aW (xs:=a) (i:=ia) (by omega)
 refine wpS_bind (aS ey (wpS_bind (aS ex (wpS_bind (C _ _ _ _ (T.mb y my) (T.ma x mx) hk ?_)))));cases e:O.blt (key y) (key x) with
 |true=>
  dsimp only;rw [if_pos rfl];refine wpS_bind (aS ey ?_)
  have v':=IV.qT v ey λz hz=>by
   obtain ⟨j,_,ej⟩:=fJ hz;exact KeyOrd.kle_trans (KeyOrd.kle_of_klt e) (fi T.sa (by omega) lx ej)
  by_cases h1:ib+1=b.size
  ·rw [if_pos (by simpa using h1)]
   exact wpS_pure ⟨g, .inl ⟨_,rfl,IV.qA v' h1⟩⟩
  ·rw [if_neg (by simpa using h1)]
   have iv:Inv O key a b (n+1) (out.push y) ia (ib+1):=⟨v',by omega,by omega,by omega⟩
   by_cases h2:bc+1≥mg
   ·rw [if_pos h2];exact wpS_pure ⟨g, .inr ⟨rfl,iv⟩⟩
   ·rw [if_neg h2];exact wpS_pure ⟨g,rfl,iv⟩
 |false=>
  dsimp only;rw [if_neg (by decide)]
  refine wpS_bind (aS ex ?_)
  have v':=IV.qS v ex λz hz=>by
   obtain ⟨j,_,ej⟩:=fJ hz;exact KeyOrd.kle_trans e (fi T.sb (by omega) ly ej)
  by_cases h1:ia+1+1=a.size
  ·rw [if_pos (by simpa using h1)]
   exact wpS_pure ⟨g, .inl ⟨_,rfl,IV.last T v' h1⟩⟩
  ·rw [if_neg (by simpa using h1)]
   have iv:Inv O key a b (n+1) (out.push x) (ia+1) ib:=⟨v',by omega,by omega,by omega⟩
   by_cases h2:ac+1≥mg
   ·rw [if_pos h2];exact wpS_pure ⟨g, .inr ⟨rfl,iv⟩⟩
   ·rw [if_neg h2];exact wpS_pure ⟨g,rfl,iv⟩
theorem Inv.le{n m:Nat}{out:Array Keyed}{ia ib:Nat}(h:Inv O key a b n out ia ib)(hm:m≤n):Inv O key a b m out ia ib:=⟨h.1,h.2.1,h.2.2.1,j5 hm h.2.2.2⟩
theorem y6(C:fS O key S k0 M A E s)(hk:kindOf st=k0){n:Nat}(T:kZ O key S a b)(g:GS bz st)(sv:kindOf bz=k0)(c:Option (Array Keyed)×Array Keyed×Nat×Nat×Nat)(iv:Inv O key a b n c.2.1 c.2.2.1 c.2.2.2.1):
  wpS M A E s (pP a b c) (λr ag=>GS bz ag∧QE O key a b (n+1) r) st:=by
 have TR:0<a.size+b.size:=by have:=T.na;omega
 unfold pP;refine wpS_bind (wpS_mono (wpS_forRange (I:=λ(x:Nat)(c':Option (Array Keyed)×Array Keyed×Nat×Nat×Nat×Nat)(ag:SortSt)=>GS bz ag∧c'.1=none∧Inv O key a b (n+min x 1) c'.2.1 c'.2.2.1 c'.2.2.2.1) (Q:=λc' ag=>GS bz ag∧Fin O key a b (n+1) c') ?step ?fin ⟨g,rfl,iv.le (by omega)⟩) ?post)
 case fin=>
  rintro c' ag ⟨g',h1,h2⟩;exact ⟨g', .inr ⟨h1,h2.le (by omega)⟩⟩
 case step=>
  rintro x c' ag _ _ ⟨g',h1,h2⟩;refine wpS_mono (CZ C (g'.kind.trans sv) T g' c' h2) λr cq ⟨lF,o⟩=>?_;cases r with
  |done d=>
   refine ⟨lF,?_⟩
   rcases o with o| ⟨o1,o2⟩
   ·exact .inl o
   ·exact .inr ⟨o1,o2.le (by omega)⟩
  |yield d=>exact ⟨lF,o.1,o.2.le (by omega)⟩
 case post=>
  rintro ⟨t1,t2⟩ ag ⟨g',o⟩
  rcases o with ⟨r,e,res⟩ | ⟨e,Pm⟩
  ·dsimp only at e
   subst e;exact wpS_pure ⟨g',r,rfl,res⟩
  ·dsimp only at e
   subst e;dsimp only;refine wpS_bind (wpS_lift (wpAny_rule ⟨rfl,?_⟩));refine wpS_bind (wpS_mono (wpS_forRange (I:=λ(x:Nat)(c':Option (Array Keyed)×Array Keyed×Nat×Nat×Nat×Nat×Nat)(ag:SortSt)=>GS bz ag∧c'.1=none∧Inv O key a b (n+1) c'.2.1 c'.2.2.1 c'.2.2.2.1) (Q:=λc' ag=>GS bz ag∧Fin O key a b (n+1) c') ?step2 ?fin2 ⟨g',rfl,Pm⟩) ?post2)
   case fin2=>
    rintro c' ag ⟨g',h1,h2⟩;exact ⟨g', .inr ⟨h1,h2⟩⟩
   case step2=>
    rintro x c' ag _ _ ⟨g',h1,h2⟩;refine wpS_mono (C0 C (g'.kind.trans sv) T g' c' h2) λr cq ⟨lF,o⟩=>?_;cases r with
    |done d=>exact ⟨lF,o⟩
    |yield d=>exact ⟨lF,o⟩
   case post2=>
    rintro ⟨u1,u2⟩ ag ⟨g',o⟩
    rcases o with ⟨r,e,res⟩ | ⟨e,HP⟩
    ·dsimp only at e
     subst e;exact wpS_pure ⟨g',r,rfl,res⟩
    ·dsimp only at e
     subst e;refine wpS_bind (nh λyY g1=>wpS_pure ⟨g'.trans g1,rfl,HP⟩)
theorem zc(C:fS O key S k0 M A E s)(hk:kindOf st=k0)(T:kZ O key S a b){Q:Array Keyed→SortSt→Prop}(q:∀r ag,GS st ag→Res O key (a.toList++b.toList) r.toList→Q r ag):wpS M A E s (mT a b) Q st:=by
 rw [yA];refine wpS_bind (wpS_lift (wpAny_rule ⟨rfl,?_⟩));obtain ⟨y,ey,my,ly⟩:=aW (xs:=b) (i:=0) T.nb;refine wpS_bind (aS ey ?_);have v0:MI O key (a.toList++b.toList) (#[]:Array Keyed).toList (a.toList.drop 0) (b.toList.drop 0):=⟨by simp,by simp,by simpa using T.sa,by simpa using T.sb,by simp⟩
 have v1:=IV.qT v0 ey (by simpa using T.first y ey)
 have e1:(#[]:Array Keyed).push y= #[y]:=rfl;rw [e1] at v1
 by_cases h1:1=b.size
 ·rw [if_pos (by simpa using h1)]
  exact wpS_pure (q _ _ (GS.refl _) (IV.qA v1 h1))
 ·rw [if_neg (by simpa using h1)]
  by_cases h2:0+1=a.size
  ·rw [if_pos (by simpa using h2)]
   exact wpS_pure (q _ _ (GS.refl _) (IV.last T v1 h2))
  ·rw [if_neg (by simpa using h2)]
   refine wpS_bind (wpS_get ?_);have na:=T.na;have nb:=T.nb;refine wpS_bind (wpS_mono (wpS_forRange (I:=λ(x:Nat)(c':Option (Array Keyed)×Array Keyed×Nat×Nat×Nat)(ag:SortSt)=>GS st ag∧c'.1=none∧Inv O key a b (x+1) c'.2.1 c'.2.2.1 c'.2.2.2.1) (Q:=λc' ag=>GS st ag∧∃r,c'.1=some r∧Res O key (a.toList++b.toList) r.toList) ?step ?fin ⟨GS.refl _,rfl,v1,by show 0+1<a.size;omega,by show 1<b.size;omega,by show 0+1≤0+1;omega⟩) ?post)
   case fin=>
    rintro c' ag ⟨g',h1,h2⟩
    have:=h2.2.2.2
    have:=h2.2.1
    have:=h2.2.2.1
    omega
   case step=>
    rintro x c' ag _ _ ⟨g',h1,h2⟩;refine wpS_mono (y6 C (g'.kind.trans hk) T g' hk c' h2) λr cq ⟨lF,o⟩=>?_;cases r with
    |done d=>exact ⟨lF,o⟩
    |yield d=>exact ⟨lF,o⟩
   case post=>
    rintro ⟨c1,c2⟩ ag ⟨g',r,e,res⟩;dsimp only at e;subst e;exact wpS_pure (q r ag g' res)
end
theorem vS(a b:Array Keyed):mS a b=(do
 rule "list.sort.merge-hi"
 let total:=a.size+b.size
 let done (out:Array Keyed) (na nb:Nat):=a.extract 0 na++b.extract 0 nb++out.reverse
 let mO (out:Array Keyed) (na nb:Nat):=b.extract 0 nb++a.extract 0 na++out.reverse
 let mut na:=a.size-1
 let mut nb:=b.size
 let mut out:Array Keyed:= #[←elem' a na]
 if na==0 then return done out na nb
 if nb==1 then return mO out na nb
 let mut minGallop:=gallopOf (←get)
 for _ in [0:total] do
  let mut acount:=0
  let mut bcount:=0
  for _ in [0:total] do
   let some Bg ←lt' (←elem' b (nb-1)) (←elem' a (na-1)) |return done out na nb
   if Bg then
    na:=na-1;out:=out.push (←elem' a na);acount:=acount+1;bcount:=0
    if na==0 then return done out na nb
    if acount≥minGallop then break
   else
    nb:=nb-1;out:=out.push (←elem' b nb);bcount:=bcount+1;acount:=0
    if nb==1 then return mO out na nb
    if bcount≥minGallop then break
  rule "list.sort.gallop"
  minGallop:=minGallop+1
  for _ in [0:total] do
   if minGallop>1 then minGallop:=minGallop-1
   setMinGallop' minGallop
   let some at_ ←dQ false (←elem' b (nb-1)) a 0 na (na-1) |return done out na nb
   let k:=na-at_
   acount:=k
   if k>0 then
    out:=out++(a.extract at_ na).reverse;na:=at_
    if na==0 then return done out na nb
   nb:=nb-1;out:=out.push (←elem' b nb)
   if nb==1 then return mO out na nb
   let some at_ ←dQ true (←elem' a (na-1)) b 0 nb (nb-1) |return done out na nb
   let k:=nb-at_
   bcount:=k
   if k>0 then
    out:=out++(b.extract at_ nb).reverse;nb:=at_
    if nb==1 then return mO out na nb
    if nb==0 then return done out na nb
   na:=na-1;out:=out.push (←elem' a na)
   if na==0 then return done out na nb
   if acount<7&&bcount<7 then break
  minGallop:=minGallop+1
  setMinGallop' minGallop
 unsupported "internal:list.sort.merge-bound"):=rfl
abbrev S7:=Option (Array Keyed)×Nat×Nat×Array Keyed×Nat×Nat×Nat
abbrev S6:=Option (Array Keyed)×Nat×Nat×Array Keyed×Nat×Nat
abbrev S5:=Option (Array Keyed)×Nat×Nat×Array Keyed×Nat
def hJ(a b out:Array Keyed)(na nb:Nat):Array Keyed:=a.extract 0 na++b.extract 0 nb++out.reverse
def mP(a b out:Array Keyed)(na nb:Nat):Array Keyed:=b.extract 0 nb++a.extract 0 na++out.reverse
def xX(a b:Array Keyed)(mg ac bc na:Nat)(out:Array Keyed)(nb:Nat):StateT SortSt Sem (ForInStep S7):=do
 let x ←elem' a (na-1)
 if (na-1==0)=true then pure (ForInStep.done (some (hJ a b (out.push x) (na-1) nb),na-1,nb,out.push x,mg,ac,bc))
 else if (decide (ac<7)&&decide (bc<7))=true then pure (ForInStep.done (none,na-1,nb,out.push x,mg,ac,bc))
 else pure (ForInStep.yield (none,na-1,nb,out.push x,mg,ac,bc))
def qC(a b:Array Keyed)(mg ac bc nb:Nat)(out:Array Keyed)(na:Nat):StateT SortSt Sem (ForInStep S7):=do
 let y ←elem' b (nb-1)
 if (nb-1==1)=true then pure (ForInStep.done (some (mP a b (out.push y) na (nb-1)),na,nb-1,out.push y,mg,ac,bc))
 else do
  let x ←elem' a (na-1)
  let __x ←dQ true x b 0 (nb-1) (nb-1-1)
  match __x with
  |some p=>
   if nb-1-p>0 then
    if (p==1)=true then pure (ForInStep.done (some (mP a b (out.push y++(b.extract p (nb-1)).reverse) na p),na,p,out.push y++(b.extract p (nb-1)).reverse,mg,ac,nb-1-p))
    else if (p==0)=true then pure (ForInStep.done (some (hJ a b (out.push y++(b.extract p (nb-1)).reverse) na p),na,p,out.push y++(b.extract p (nb-1)).reverse,mg,ac,nb-1-p))
    else xX a b mg ac (nb-1-p) na (out.push y++(b.extract p (nb-1)).reverse) p
   else xX a b mg ac (nb-1-p) na (out.push y) (nb-1)
  |_=>pure (ForInStep.done (some (hJ a b (out.push y) na (nb-1)),na,nb-1,out.push y,mg,ac,bc))
def t7(a b:Array Keyed)(bc ac na nb:Nat)(out:Array Keyed)(mg:Nat):StateT SortSt Sem (ForInStep S7):=do
 setMinGallop' mg
 let y ←elem' b (nb-1)
 let __x ←dQ false y a 0 na (na-1)
 match __x with
 |some p=>
  if na-p>0 then
   if (p==0)=true then pure (ForInStep.done (some (hJ a b (out++(a.extract p na).reverse) p nb),p,nb,out++(a.extract p na).reverse,mg,na-p,bc))
   else qC a b mg (na-p) bc nb (out++(a.extract p na).reverse) p
  else qC a b mg (na-p) bc nb out na
 |_=>pure (ForInStep.done (some (hJ a b out na nb),na,nb,out,mg,ac,bc))
def xZ(a b:Array Keyed)(c:S7):StateT SortSt Sem (ForInStep S7):=
 if c.2.2.2.2.1>1 then t7 a b c.2.2.2.2.2.2 c.2.2.2.2.2.1 c.2.1 c.2.2.1 c.2.2.2.1 (c.2.2.2.2.1-1) else t7 a b c.2.2.2.2.2.2 c.2.2.2.2.2.1 c.2.1 c.2.2.1 c.2.2.2.1 c.2.2.2.2.1
def xY(a b:Array Keyed)(mg:Nat)(c:S6):StateT SortSt Sem (ForInStep S6):=do
 let y ←elem' b (c.2.2.1-1)
 let x ←elem' a (c.2.1-1)
 let __x ←lt' y x
 match __x with
 |some Bg=>
  if Bg=true then do
   let x ←elem' a (c.2.1-1)
   if (c.2.1-1==0)=true then pure (ForInStep.done (some (hJ a b (c.2.2.2.1.push x) (c.2.1-1) c.2.2.1),c.2.1-1,c.2.2.1,c.2.2.2.1.push x,c.2.2.2.2.1+1,0))
   else if c.2.2.2.2.1+1≥mg then pure (ForInStep.done (none,c.2.1-1,c.2.2.1,c.2.2.2.1.push x,c.2.2.2.2.1+1,0))
   else pure (ForInStep.yield (none,c.2.1-1,c.2.2.1,c.2.2.2.1.push x,c.2.2.2.2.1+1,0))
  else do
   let y ←elem' b (c.2.2.1-1)
   if (c.2.2.1-1==1)=true then pure (ForInStep.done (some (mP a b (c.2.2.2.1.push y) c.2.1 (c.2.2.1-1)),c.2.1,c.2.2.1-1,c.2.2.2.1.push y,0,c.2.2.2.2.2+1))
   else if c.2.2.2.2.2+1≥mg then pure (ForInStep.done (none,c.2.1,c.2.2.1-1,c.2.2.2.1.push y,0,c.2.2.2.2.2+1))
   else pure (ForInStep.yield (none,c.2.1,c.2.2.1-1,c.2.2.2.1.push y,0,c.2.2.2.2.2+1))
 |_=>pure (ForInStep.done (some (hJ a b c.2.2.2.1 c.2.1 c.2.2.1),c.2.1,c.2.2.1,c.2.2.2.1,c.2.2.2.2.1,c.2.2.2.2.2))
def pH(a b:Array Keyed)(__s:S5):StateT SortSt Sem (ForInStep S5):=do
 let __t ←forIn [0:a.size+b.size] ((none,__s.2.1,__s.2.2.1,__s.2.2.2.1,0,0):S6) λ_ c=>xY a b __s.2.2.2.2 c
 match __t.1 with
 |some r=>pure (ForInStep.done (some r,__t.2.1,__t.2.2.1,__t.2.2.2.1,__s.2.2.2.2))
 |none=>do
  liftM (rule "list.sort.gallop")
  let __u ←forIn [0:a.size+b.size] ((none,__t.2.1,__t.2.2.1,__t.2.2.2.1,__s.2.2.2.2+1,__t.2.2.2.2.1,__t.2.2.2.2.2):S7) λ_ c=>xZ a b c
  match __u.1 with
  |some r=>pure (ForInStep.done (some r,__u.2.1,__u.2.2.1,__u.2.2.2.1,__u.2.2.2.2.1))
  |none=>do
   setMinGallop' (__u.2.2.2.2.1+1)
   pure (ForInStep.yield (none,__u.2.1,__u.2.2.1,__u.2.2.2.1,__u.2.2.2.2.1+1))
theorem yz(a b:Array Keyed):mS a b=(do
 liftM (rule "list.sort.merge-hi")
 let x ←elem' a (a.size-1)
 if (a.size-1==0)=true then pure (hJ a b #[x] (a.size-1) b.size)
 else if (b.size==1)=true then pure (mP a b #[x] (a.size-1) b.size)
 else do
  let __do_lift ←get
  let __s ←forIn [0:a.size+b.size] ((none,a.size-1,b.size, #[x],gallopOf __do_lift):S5) λ_ c=>pH a b c
  match __s.1 with
  |some r=>pure r
  |none=>liftM (unsupported (α:=Array Keyed) "internal:list.sort.merge-bound")):=by
 rw [vS];dsimp only;refine cD rfl λ_=>cD rfl λy=>?_;refine congrArg (ite _ _) (congrArg (ite _ _) ?_);refine cD rfl λg=>cD (xS λ_ c=>?_) λu=>?_
 ·unfold pH
  refine cD (xS λ_ t=>?_) λt=>?_
  ·unfold xY
   refine cD rfl λ_=>cD rfl λ_=>cD rfl λz=>?_;cases z<;>rfl
  ·obtain ⟨t1,t2⟩:=t
   cases t1 with
   |some r=>rfl
   |none=>
    dsimp only;refine cD rfl λ_=>cD (xS λ_ u=>?_) λu=>?_
    ·unfold xZ
     refine eL (λ_=>?_) (λ_=>?_)
     all_goals
      unfold t7;refine cD rfl λ_=>cD rfl λ_=>cD rfl λz=>?_;cases z with
      |none=>rfl
      |some k=>
       dsimp only;refine eL (λ_=>?_) (λ_=>?_)
       ·refine eL (λ_=>rfl) (λ_=>?_)
        unfold qC;refine cD rfl λ_=>eL (λ_=>rfl) (λ_=>cD rfl λ_=>cD rfl λz=>?_);cases z with
        |none=>rfl
        |some k=>rfl
       ·unfold qC
        refine cD rfl λ_=>eL (λ_=>rfl) (λ_=>cD rfl λ_=>cD rfl λz=>?_);cases z with
        |none=>rfl
        |some k=>rfl
    ·obtain ⟨u1,u2⟩:=u
     cases u1<;>rfl
 ·obtain ⟨u1,u2⟩:=u
  cases u1<;>rfl
def MB(O:KeyOrd):KeyOrd:={α:=O.α,blt:=λa b=>O.blt b a,irrefl:=O.irrefl,trans:=λa b c h1 h2=>O.trans _ _ _ h2 h1,negTrans:=λa b c h=>(O.negTrans c b a h).symm,total:=λa b h1 h2=>O.total a b h2 h1}
section
variable {O:KeyOrd} {key:Keyed→O.α} {S:Keyed→Prop} {k0:SortKind} {M:Model} {A:Around} {E:Value→Shared→Prop} {s:Shared} {st bz:SortSt} {a b:Array Keyed}
abbrev MJ(O:KeyOrd)(key:Keyed→O.α)(a b out:Array Keyed)(na nb:Nat):Prop:=MI (MB O) key (a.toList++b.toList) out.toList (a.toList.take na).reverse (b.toList.take nb).reverse
theorem qU{l r:List Keyed}(h:Res (MB O) key l r.reverse):Res O key l r:=
 ⟨(List.reverse_perm r).symm.trans h.1,by
   have:=List.pairwise_reverse.mp h.2
   exact this.imp λh=>h⟩
theorem wk(xs:Array Keyed)(n:Nat):(xs.extract 0 n).toList=xs.toList.take n:=by rw [ext_toList];simp
theorem xc{xs:Array Keyed}{n:Nat}{x:Keyed}(hn:1≤n)(h:xs[n-1]? =some x):(xs.toList.take n).reverse=x::(xs.toList.take (n-1)).reverse:=by
 have h':=jQ h;obtain ⟨bx,e⟩:=cu.mp h'
 have:xs.toList.take n=xs.toList.take (n-1)++ [x]:=by
  have:=JK bx
  rw [show n-1+1=n by omega,e] at this
  exact this
 rw [this,vx];rfl
theorem mz(l:List Keyed){p n:Nat}(h:p≤n):l.take n=l.take p++(l.drop p).take (n-p):=by
 conv=>lhs;rw [←iY p (l.take n)]
 rw [List.take_take,show min p n=p by omega,List.drop_take]
theorem fK{l:List Keyed}{n:Nat}{x:Keyed}(h:x∈l.take n):∃j,j<n∧j<l.length∧l[j]? =some x:=by
 have:=dB (l:=l) (i:=0) (k:=n) (x:=x) (by simpa using h)
 obtain ⟨j,h1,h2,h3⟩:=this;exact ⟨j,h1,by simpa using h2,by simpa using h3⟩
theorem MJ.qS{out:Array Keyed}{na nb:Nat}{x:Keyed}(v:MJ O key a b out na nb)(hn:1≤na)(hx:a[na-1]? =some x)(h:∀y∈b.toList.take nb,LE O key y x):MJ O key a b (out.push x) (na-1) nb:=by
 unfold MJ at v ⊢;rw [xc hn hx] at v;rw [xn];exact MI.kr (xs:= [x]) v λz hz y hy=>by rw [bN.mp hz];exact h y (sh.mp hy)
theorem MJ.qT{out:Array Keyed}{na nb:Nat}{y:Keyed}(v:MJ O key a b out na nb)(hn:1≤nb)(hy:b[nb-1]? =some y)(h:∀x∈a.toList.take na,LE O key x y):MJ O key a b (out.push y) na (nb-1):=by
 unfold MJ at v ⊢;rw [xc hn hy] at v;rw [xn];exact MI.ku (xs:= [y]) v λz hz x hx=>by rw [bN.mp hz];exact h x (sh.mp hx)
theorem MJ.kr{out:Array Keyed}{na nb p:Nat}(v:MJ O key a b out na nb)(hp:p≤na)(h:∀x∈(a.toList.drop p).take (na-p),∀y∈b.toList.take nb,LE O key y x):MJ O key a b (out++(a.extract p na).reverse) p nb:=by
 unfold MJ at v ⊢;rw [mz a.toList hp,vx] at v;rw [ik,A5,ext_toList];exact MI.kr v λx hx y hy=>h x (sh.mp hx) y (sh.mp hy)
theorem MJ.ku{out:Array Keyed}{na nb p:Nat}(v:MJ O key a b out na nb)(hp:p≤nb)(h:∀y∈(b.toList.drop p).take (nb-p),∀x∈a.toList.take na,LE O key x y):MJ O key a b (out++(b.extract p nb).reverse) na p:=by
 unfold MJ at v ⊢;rw [mz b.toList hp,vx] at v;rw [ik,A5,ext_toList];exact MI.ku v λx hx y hy=>h x (sh.mp hx) y (sh.mp hy)
theorem MJ.qz{out:Array Keyed}{nb:Nat}(v:MJ O key a b out 0 nb):Res O key (a.toList++b.toList) (hJ a b out 0 nb).toList:=by
 refine qU ?_;unfold hJ MJ at*;rw [ik,ik,wk,wk,A5,xy,xv,vx,List.reverse_reverse];rw [xy,List.reverse_nil] at v;exact v.swap.zN
theorem MJ.qA{out:Array Keyed}{na:Nat}(v:MJ O key a b out na 0):Res O key (a.toList++b.toList) (hJ a b out na 0).toList:=by
 refine qU ?_;unfold hJ MJ at*;rw [ik,ik,wk,wk,A5,xy,j4,vx,List.reverse_reverse];rw [xy,List.reverse_nil] at v;exact v.zN
theorem MJ.first(T:kZ O key S a b){out:Array Keyed}{na:Nat}(v:MJ O key a b out na 1):Res O key (a.toList++b.toList) (mP a b out na 1).toList:=by
 refine qU ?_;have h:=v.swap.yl λx hx y hy=>?_
 ·unfold mP
  rw [ik,ik,wk,wk,A5,vx,List.reverse_reverse,vx,←kU];exact h
 ·obtain ⟨j,h1,_,e⟩:=fK (sh.mp hy)
  have:j=0:=by omega
  subst this;exact T.first y (je e) x (List.mem_of_mem_take (sh.mp hx))
def ni(O:KeyOrd)(key:Keyed→O.α)(a b:Array Keyed)(n:Nat)(na nb:Nat)(out:Array Keyed):Prop:=MJ O key a b out na nb∧1≤na∧na≤a.size∧2≤nb∧nb≤b.size∧n+na+nb≤a.size+b.size
def Nw{ρ:Type}(O:KeyOrd)(key:Keyed→O.α)(a b:Array Keyed)(n:Nat)(c:Option (Array Keyed)×Nat×Nat×Array Keyed×ρ):Prop:=
 (∃r,c.1=some r∧Res O key (a.toList++b.toList) r.toList)∨(c.1=none∧ni O key a b n c.2.1 c.2.2.1 c.2.2.2.1)
def FY{ρ:Type}(O:KeyOrd)(key:Keyed→O.α)(a b:Array Keyed)(n:Nat)(r:ForInStep (Option (Array Keyed)×Nat×Nat×Array Keyed×ρ)):Prop:=match r with
 | .done c=>Nw O key a b n c
 | .yield c=>c.1=none∧ni O key a b n c.2.1 c.2.2.1 c.2.2.2.1
def QC{ρ:Type}(O:KeyOrd)(key:Keyed→O.α)(a b:Array Keyed)(n:Nat)(r:ForInStep (Option (Array Keyed)×Nat×Nat×Array Keyed×ρ)):Prop:=match r with
 | .done c=>∃r,c.1=some r∧Res O key (a.toList++b.toList) r.toList
 | .yield c=>c.1=none∧ni O key a b n c.2.1 c.2.2.1 c.2.2.2.1
theorem vi{n mg ac bc na nb:Nat}{out:Array Keyed}(g:GS bz st)(v:MJ O key a b out na nb)(h1:1≤na)(h2:na≤a.size)(h3:2≤nb)(h4:nb≤b.size)(hn:n+na+nb≤a.size+b.size)
  (hx:∀x,a[na-1]? =some x→∀y∈b.toList.take nb,LE O key y x):wpS M A E s (xX a b mg ac bc na out nb) (λr ag=>GS bz ag∧FY O key a b n r) st:=by
 unfold xX;obtain ⟨x,ex,mx,_⟩:=aW (xs:=a) (i:=na-1) (by omega)
 refine wpS_bind (aS ex ?_);have v':=MJ.qS v h1 ex (hx x ex)
 by_cases e:na-1=0
 ·rw [if_pos (by simpa using e)]
  rw [e] at v' ⊢;exact wpS_pure ⟨g, .inl ⟨_,rfl,v'.qz⟩⟩
 ·rw [if_neg (by simpa using e)]
  have iv:ni O key a b n (na-1) nb (out.push x):=⟨v',by omega,by omega,h3,h4,by omega⟩
  by_cases h2:(decide (ac<7)&&decide (bc<7))=true
  ·rw [if_pos h2]
   exact wpS_pure ⟨g, .inr ⟨rfl,iv⟩⟩
  ·rw [if_neg h2]
   exact wpS_pure ⟨g,rfl,iv⟩
theorem vh(C:fS O key S k0 M A E s)(hk:kindOf st=k0){n mg ac bc na nb:Nat}{out:Array Keyed}(T:kZ O key S a b)(g:GS bz st)(v:MJ O key a b out na nb)(h1:1≤na)(h2:na≤a.size)(h3:2≤nb)(h4:nb≤b.size)(hn:n+na+nb≤a.size+b.size)
  (hy:∀y,b[nb-1]? =some y→∀x∈a.toList.take na,LE O key x y):wpS M A E s (qC a b mg ac bc nb out na) (λr ag=>GS bz ag∧FY O key a b n r) st:=by
 unfold qC;obtain ⟨y,ey,my,_⟩:=aW (xs:=b) (i:=nb-1) (by omega)
 refine wpS_bind (aS ey ?_);have v':=MJ.qT v (by omega) ey (hy y ey)
 by_cases e:nb-1=1
 ·rw [if_pos (by simpa using e)]
  rw [e] at v' ⊢;exact wpS_pure ⟨g, .inl ⟨_,rfl,MJ.first T v'⟩⟩
 ·rw [if_neg (by simpa using e)]
  obtain ⟨x,ex,mx,lx⟩:=aW (xs:=a) (i:=na-1) (by omega)
  refine wpS_bind (aS ex ?_)
  have xge:∀z∈a.toList.take na,LE O key z x:=λz hz=>by
   obtain ⟨j,hj,_,ej⟩:=fK hz;exact fi T.sa (by omega) ej lx
  have zw:∀j z,b.toList[j]? =some z→b[0+j]?.getD (Value.none,Value.none)=z:=λj z e=>by rw [qr,je e];rfl
  refine wpS_bind (fR C (m9 T.mb (i:=0) (n:=nb-1) (by omega)) (T.ma x mx) hk (by omega) (λi j cV hj h=>?_) λp hp pt pf=>?_)
  ·obtain ⟨yi,e1,_,l1⟩:=aW (xs:=b) (i:=0+i) (by omega)
   obtain ⟨yj,e2,_,l2⟩:=aW (xs:=b) (i:=0+j) (by omega)
   unfold cU at h ⊢;rw [if_pos rfl] at h ⊢;rw [e2] at h;rw [e1];exact KeyOrd.klt_of_kle_of_klt (fi T.sb (by omega) l1 l2) h
  ·have hi:∀y∈(b.toList.drop p).take (nb-1-p),∀x∈a.toList.take na,LE O key x y:=λz hz u hu=>by
    obtain ⟨j,hj,hl,ej⟩:=dB hz
    have:=pf (p+j) (by omega) (by omega)
    unfold cU at this;rw [if_pos rfl,zw (p+j) z ej] at this;exact KeyOrd.kle_trans (xge u hu) this
   have lo:∀x',a[na-1]? =some x'→∀y∈b.toList.take p,LE O key y x':=λx' nv z hz=>by
    rw [ex] at nv;cases nv;obtain ⟨j,hj,_,ej⟩:=fK hz
    have:=pt j hj
    unfold cU at this;rw [if_pos rfl,zw j z ej] at this;exact KeyOrd.kle_of_klt this
   dsimp only
   by_cases ua:nb-1-p>0
   ·rw [if_pos ua]
    have v2:=MJ.ku v' hp hi
    by_cases e1:p=1
    ·rw [if_pos (by simpa using e1)]
     subst e1;exact wpS_pure ⟨g, .inl ⟨_,rfl,MJ.first T v2⟩⟩
    ·rw [if_neg (by simpa using e1)]
     by_cases e2:p=0
     ·rw [if_pos (by simpa using e2)]
      subst e2;exact wpS_pure ⟨g, .inl ⟨_,rfl,v2.qA⟩⟩
     ·rw [if_neg (by simpa using e2)]
      exact vi g v2 h1 h2 (by omega) (by omega) (by omega) lo
   ·rw [if_neg ua]
    have:p=nb-1:=by omega
    subst this;exact vi g v' h1 h2 (by omega) (by omega) (by omega) lo
theorem vg(C:fS O key S k0 M A E s)(hk:kindOf st=k0){n mg ac bc na nb:Nat}{out:Array Keyed}(T:kZ O key S a b)(g:GS bz st)(iv:ni O key a b n na nb out):wpS M A E s (t7 a b bc ac na nb out mg) (λr ag=>GS bz ag∧FY O key a b n r) st:=by
 obtain ⟨v,h1,h2,h3,h4,hn⟩:=iv;unfold t7;refine wpS_bind (nh λyY g1=>?_);have vL:kindOf yY=k0:=g1.kind.trans hk;have g':=g.trans g1;obtain ⟨y,ey,my,ly⟩:=aW (xs:=b) (i:=nb-1) (by omega)
 refine wpS_bind (aS ey ?_)
 have yge:∀z∈b.toList.take nb,LE O key z y:=λz hz=>by
  obtain ⟨j,hj,_,ej⟩:=fK hz;exact fi T.sb (by omega) ej ly
 have nB:∀j z,a.toList[j]? =some z→a[0+j]?.getD (Value.none,Value.none)=z:=λj z e=>by rw [qr,je e];rfl
 refine wpS_bind (fR C (m9 T.ma (i:=0) (n:=na) (by omega)) (T.mb y my) vL (by omega) (λi j cV hj h=>?_) λp hp pt pf=>?_)
 ·obtain ⟨xi,e1,_,l1⟩:=aW (xs:=a) (i:=0+i) (by omega)
  obtain ⟨xj,e2,_,l2⟩:=aW (xs:=a) (i:=0+j) (by omega)
  unfold cU at h ⊢;rw [if_neg (by decide)] at h ⊢
  rw [e2] at h;rw [e1];have h':O.kle (key xj) (key y):=by unfold KeyOrd.kle;simpa using h
  have:=KeyOrd.kle_trans (fi T.sa (by omega) l1 l2) h'
  unfold KeyOrd.kle at this;simpa using this
 ·have hi:∀x∈(a.toList.drop p).take (na-p),∀y∈b.toList.take nb,LE O key y x:=λz hz u hu=>by
   obtain ⟨j,hj,hl,ej⟩:=dB hz
   have:=pf (p+j) (by omega) (by omega)
   unfold cU at this;rw [if_neg (by decide),nB (p+j) z ej] at this
   exact KeyOrd.kle_trans (yge u hu) (KeyOrd.kle_of_klt (show O.blt _ _=true by simpa using this))
  have lo:∀y',b[nb-1]? =some y'→∀x∈a.toList.take p,LE O key x y':=λy' lE z hz=>by
   rw [ey] at lE;cases lE;obtain ⟨j,hj,_,ej⟩:=fK hz
   have:=pt j hj
   unfold cU at this;rw [if_neg (by decide),nB j z ej] at this
   show O.blt _ _=false;simpa using this
  dsimp only
  by_cases ua:na-p>0
  ·rw [if_pos ua]
   have v2:=MJ.kr v hp hi
   by_cases e1:p=0
   ·rw [if_pos (by simpa using e1)]
    subst e1;exact wpS_pure ⟨g', .inl ⟨_,rfl,v2.qz⟩⟩
   ·rw [if_neg (by simpa using e1)]
    exact vh C vL T g' v2 (by omega) (by omega) h3 h4 (by omega) lo
  ·rw [if_neg ua]
   have:p=na:=by omega
   subst this;exact vh C vL T g' v h1 h2 h3 h4 hn lo
theorem CY(C:fS O key S k0 M A E s)(hk:kindOf st=k0){n:Nat}(T:kZ O key S a b)(g:GS bz st)(c:S7)(iv:ni O key a b n c.2.1 c.2.2.1 c.2.2.2.1):
  wpS M A E s (xZ a b c) (λr ag=>GS bz ag∧FY O key a b n r) st:=by
 unfold xZ
 by_cases h:c.2.2.2.2.1>1
 ·rw [if_pos h];exact vg C hk T g iv
 ·rw [if_neg h];exact vg C hk T g iv
theorem CW(C:fS O key S k0 M A E s)(hk:kindOf st=k0){n mg:Nat}(T:kZ O key S a b)(g:GS bz st)(c:S6)(iv:ni O key a b n c.2.1 c.2.2.1 c.2.2.2.1):
  wpS M A E s (xY a b mg c) (λr ag=>GS bz ag∧FY O key a b (n+1) r) st:=by
 obtain ⟨c1,na,nb,out,ac,bc⟩:=c;obtain ⟨v,h1,h2,h3,h4,hn⟩:=iv;dsimp only at v h1 h2 h3 h4 hn;unfold xY;dsimp only;obtain ⟨y,ey,my,ly⟩:=aW (xs:=b) (i:=nb-1) (by omega)
 obtain ⟨x,ex,mx,lx⟩:=aW (xs:=a) (i:=na-1) (by omega)
 refine wpS_bind (aS ey (wpS_bind (aS ex (wpS_bind (C _ _ _ _ (T.mb y my) (T.ma x mx) hk ?_)))));cases e:O.blt (key y) (key x) with
 |true=>
  dsimp only;rw [if_pos rfl];refine wpS_bind (aS ex ?_)
  have v':=MJ.qS v h1 ex λz hz=>by
   obtain ⟨j,hj,_,ej⟩:=fK hz;exact KeyOrd.kle_trans (fi T.sb (by omega) ej ly) (KeyOrd.kle_of_klt e)
  by_cases e1:na-1=0
  ·rw [if_pos (by simpa using e1)]
   rw [e1] at v' ⊢;exact wpS_pure ⟨g, .inl ⟨_,rfl,v'.qz⟩⟩
  ·rw [if_neg (by simpa using e1)]
   have iv:ni O key a b (n+1) (na-1) nb (out.push x):=⟨v',by omega,by omega,h3,h4,by omega⟩
   by_cases h2:ac+1≥mg
   ·rw [if_pos h2];exact wpS_pure ⟨g, .inr ⟨rfl,iv⟩⟩
   ·rw [if_neg h2];exact wpS_pure ⟨g,rfl,iv⟩
 |false=>
  dsimp only;rw [if_neg (by decide)]
  refine wpS_bind (aS ey ?_)
  have v':=MJ.qT v (by omega) ey λz hz=>by
   obtain ⟨j,hj,_,ej⟩:=fK hz;exact KeyOrd.kle_trans (fi T.sa (by omega) ej lx) e
  by_cases e1:nb-1=1
  ·rw [if_pos (by simpa using e1)]
   rw [e1] at v' ⊢;exact wpS_pure ⟨g, .inl ⟨_,rfl,MJ.first T v'⟩⟩
  ·rw [if_neg (by simpa using e1)]
   have iv:ni O key a b (n+1) na (nb-1) (out.push y):=⟨v',by omega,by omega,by omega,by omega,by omega⟩
   by_cases h2:bc+1≥mg
   ·rw [if_pos h2];exact wpS_pure ⟨g, .inr ⟨rfl,iv⟩⟩
   ·rw [if_neg h2];exact wpS_pure ⟨g,rfl,iv⟩
theorem ni.le{n m:Nat}{out:Array Keyed}{na nb:Nat}(h:ni O key a b n na nb out)(hm:m≤n):ni O key a b m na nb out:=⟨h.1,h.2.1,h.2.2.1,h.2.2.2.1,h.2.2.2.2.1,by have:=h.2.2.2.2.2;omega⟩
theorem y4(C:fS O key S k0 M A E s){n:Nat}(T:kZ O key S a b)(g:GS bz st)(sv:kindOf bz=k0)(c:S5)(iv:ni O key a b n c.2.1 c.2.2.1 c.2.2.2.1):
  wpS M A E s (pH a b c) (λr ag=>GS bz ag∧QC O key a b (n+1) r) st:=by
 have TR:0<a.size+b.size:=by have:=T.na;omega
 unfold pH;refine wpS_bind (wpS_mono (wpS_forRange (I:=λ(x:Nat)(c':S6)(ag:SortSt)=>GS bz ag∧c'.1=none∧ni O key a b (n+min x 1) c'.2.1 c'.2.2.1 c'.2.2.2.1) (Q:=λc' ag=>GS bz ag∧Nw O key a b (n+1) c') ?step ?fin ⟨g,rfl,iv.le (by omega)⟩) ?post)
 case fin=>
  rintro c' ag ⟨g',h1,h2⟩;exact ⟨g', .inr ⟨h1,h2.le (by omega)⟩⟩
 case step=>
  rintro x c' ag _ _ ⟨g',h1,h2⟩;refine wpS_mono (CW C (g'.kind.trans sv) T g' c' h2) λr cq ⟨lF,o⟩=>?_;cases r with
  |done d=>
   refine ⟨lF,?_⟩
   rcases o with o| ⟨o1,o2⟩
   ·exact .inl o
   ·exact .inr ⟨o1,o2.le (by omega)⟩
  |yield d=>exact ⟨lF,o.1,o.2.le (by omega)⟩
 case post=>
  rintro ⟨t1,t2⟩ ag ⟨g',o⟩
  rcases o with ⟨r,e,res⟩ | ⟨e,Pm⟩
  ·dsimp only at e
   subst e;exact wpS_pure ⟨g',r,rfl,res⟩
  ·dsimp only at e
   subst e;dsimp only;refine wpS_bind (wpS_lift (wpAny_rule ⟨rfl,?_⟩));refine wpS_bind (wpS_mono (wpS_forRange (I:=λ(x:Nat)(c':S7)(ag:SortSt)=>GS bz ag∧c'.1=none∧ni O key a b (n+1) c'.2.1 c'.2.2.1 c'.2.2.2.1) (Q:=λc' ag=>GS bz ag∧Nw O key a b (n+1) c') ?step2 ?fin2 ⟨g',rfl,Pm⟩) ?post2)
   case fin2=>
    rintro c' ag ⟨g',h1,h2⟩;exact ⟨g', .inr ⟨h1,h2⟩⟩
   case step2=>
    rintro x c' ag _ _ ⟨g',h1,h2⟩;refine wpS_mono (CY C (g'.kind.trans sv) T g' c' h2) λr cq ⟨lF,o⟩=>?_;cases r with
    |done d=>exact ⟨lF,o⟩
    |yield d=>exact ⟨lF,o⟩
   case post2=>
    rintro ⟨u1,u2⟩ ag ⟨g',o⟩
    rcases o with ⟨r,e,res⟩ | ⟨e,HP⟩
    ·dsimp only at e
     subst e;exact wpS_pure ⟨g',r,rfl,res⟩
    ·dsimp only at e
     subst e;refine wpS_bind (nh λyY g1=>wpS_pure ⟨g'.trans g1,rfl,HP⟩)
theorem y9(C:fS O key S k0 M A E s)(hk:kindOf st=k0)(T:kZ O key S a b){Q:Array Keyed→SortSt→Prop}(q:∀r ag,GS st ag→Res O key (a.toList++b.toList) r.toList→Q r ag):wpS M A E s (mS a b) Q st:=by
 rw [yz];refine wpS_bind (wpS_lift (wpAny_rule ⟨rfl,?_⟩));have na:=T.na;have nb:=T.nb;obtain ⟨x,ex,mx,lx⟩:=aW (xs:=a) (i:=a.size-1) (by omega)
 refine wpS_bind (aS ex ?_)
 have v0:MJ O key a b #[] a.size b.size:=by
  refine ⟨?_,by simp,?_,?_,by simp⟩
  ·rw [nV (by simp),nV (by simp)]
   simpa using (List.reverse_perm a.toList).append (List.reverse_perm b.toList)
  ·rw [nV (by simp)]
   exact List.pairwise_reverse.mpr (T.sa.imp λh=>h)
  ·rw [nV (by simp)]
   exact List.pairwise_reverse.mpr (T.sb.imp λh=>h)
 have v1:=MJ.qS v0 na ex λy hy=>T.last x ex y (List.mem_of_mem_take hy);have e1:(#[]:Array Keyed).push x= #[x]:=rfl;rw [e1] at v1
 by_cases h1:a.size-1=0
 ·rw [if_pos (by simpa using h1)]
  rw [h1] at v1 ⊢;exact wpS_pure (q _ _ (GS.refl _) v1.qz)
 ·rw [if_neg (by simpa using h1)]
  by_cases h2:b.size=1
  ·rw [if_pos (by simpa using h2)]
   rw [h2] at v1 ⊢;exact wpS_pure (q _ _ (GS.refl _) (MJ.first T v1))
  ·rw [if_neg (by simpa using h2)]
   refine wpS_bind (wpS_get ?_);refine wpS_bind (wpS_mono (wpS_forRange (I:=λ(x:Nat)(c':S5)(ag:SortSt)=>GS st ag∧c'.1=none∧ni O key a b (x+1) c'.2.1 c'.2.2.1 c'.2.2.2.1) (Q:=λc' ag=>GS st ag∧∃r,c'.1=some r∧Res O key (a.toList++b.toList) r.toList) ?step ?fin ⟨GS.refl _,rfl,v1,by show 1≤a.size-1;omega,by show a.size-1≤a.size;omega,by show 2≤b.size;omega,aV _,by show 0+1+(a.size-1)+b.size≤a.size+b.size;omega⟩) ?post)
   case fin=>
    rintro c' ag ⟨g',h1,h2⟩
    have:=h2.2.2.2.2.2
    have:=h2.2.1
    omega
   case step=>
    rintro x c' ag _ _ ⟨g',h1,h2⟩;refine wpS_mono (y4 C T g' hk c' h2) λr cq ⟨lF,o⟩=>?_;cases r with
    |done d=>exact ⟨lF,o⟩
    |yield d=>exact ⟨lF,o⟩
   case post=>
    rintro ⟨c1,c2⟩ ag ⟨g',r,e,res⟩;dsimp only at e;subst e;exact wpS_pure (q r ag g' res)
end
theorem yy(i:Nat):mergeAt' i=(do
 let s ←get
 let (some (sa,na,power),some (sb,nb,_)):=((pendingOf s)[i]?,(pendingOf s)[i+1]?) |unsupported "internal:list.sort.pending"
 set (setPending s (((pendingOf s).setIfInBounds i (sa,na+nb,power)).eraseIdxIfInBounds (i+1)))
 let some k ←dQ false (←elem' (arrOf s) sb) (arrOf s) sa na 0|return false
 let (sa,na):=(sa+k,na-k)
 if na==0 then return true
 let some nb ←dQ true (←elem' (arrOf s) (sa+na-1)) (arrOf s) sb nb (nb-1) |return false
 if nb==0 then return true
 let x:=(arrOf s).extract sa sb
 let y:=(arrOf s).extract sb (sb+nb)
 let merged ←if na≤nb then mT x y else mS x y
 modify λs=>setArr s (merged.toList.zipIdx.foldl (λa (p,j)=>a.setIfInBounds (sa+j) p) (arrOf s))
 return (failedOf (←get)).isNone):=rfl
theorem og:∀(m:List Keyed)(off b:Nat)(xs:Array Keyed),b+off+m.length≤xs.size→
  ((m.zipIdx off).foldl (λa (p:Keyed×Nat)=>a.setIfInBounds (b+p.2) p.1) xs).size=xs.size∧∀i,((m.zipIdx off).foldl (λa (p:Keyed×Nat)=>a.setIfInBounds (b+p.2) p.1) xs)[i]? =if b+off≤i∧i<b+off+m.length then m[i-(b+off)]? else xs[i]?
 | [],off,b,xs,_=>⟨rfl,λi=>by rw [if_neg (by simp)];rfl⟩
 |x::m,off,b,xs,h=>by
  rw [cv] at h;have ih:=og m (off+1) b (xs.setIfInBounds (b+off) x) (by rw [Array.size_setIfInBounds];omega)
  rw [List.zipIdx_cons,List.foldl_cons];refine ⟨by rw [ih.1,Array.size_setIfInBounds],λi=>?_⟩
  rw [ih.2 i]
  by_cases h1:b+(off+1)≤i∧i<b+(off+1)+m.length
  ·rw [if_pos h1,if_pos (by rw [cv];omega),show i-(b+off)=(i-(b+(off+1)))+1 by omega,qm]
  ·rw [if_neg h1,Array.getElem?_setIfInBounds]
   by_cases h2:b+off=i
   ·rw [if_pos h2,if_pos (by omega),if_pos (by rw [cv];omega),←h2,qs];rfl
   ·rw [if_neg h2,if_neg (by rw [cv];omega)]
def putAt(xs m:Array Keyed)(b:Nat):Array Keyed:=m.toList.zipIdx.foldl (λa (p:Keyed×Nat)=>a.setIfInBounds (b+p.2) p.1) xs
theorem uN{xs m:Array Keyed}{b:Nat}(h:b+m.size≤xs.size)(i:Nat):(putAt xs m b)[i]? =if b≤i∧i<b+m.size then m[i-b]? else xs[i]? :=by
 have:=(og m.toList 0 b xs (by simpa using h)).2 i
 unfold putAt;rw [this];simp
theorem Ax{xs m:Array Keyed}{b:Nat}(h:b+m.size≤xs.size):(putAt xs m b).size=xs.size:=(og m.toList 0 b xs (by simpa using h)).1
theorem Aw{xs m:Array Keyed}{b:Nat}(h:b+m.size≤xs.size)(p:m.toList.Perm ((xs.toList.drop b).take m.size)):(putAt xs m b).Perm xs:=by
 rw [Ed]
 have e:(putAt xs m b).toList=xs.toList.take b++(m.toList++xs.toList.drop (b+m.size)):=by
  apply vA;intro i;rw [e7,uN h,List.getElem?_append,List.getElem?_append,jt,cg,cg,zj,xk,e7,e7,e7]
  repeat' split
  all_goals first|rfl| (exfalso;omega) | (congr 1;omega)
 have e2:xs.toList=xs.toList.take b++((xs.toList.drop b).take m.size++xs.toList.drop (b+m.size)):=by
  conv=>lhs;rw [←iY b xs.toList,lC xs.toList b m.size]
 rw [e]
 conv=>rhs;rw [e2]
 exact List.Perm.append_left _ (p.append_right _)
section
variable {O:KeyOrd} {key:Keyed→O.α} {S:Keyed→Prop} {k0:SortKind} {prog:Program} {w:World} {A:Around} {E:Value→Shared→Prop} {s:Shared} {st bz:SortSt}
theorem JH{M:Model}{ag:SortSt}{Q:PUnit→SortSt→Prop}(h:Q ⟨⟩ ag):wpS M A E s (set ag:StateT SortSt Sem PUnit) Q st:=by
 unfold wpS;rw [StateT.run_set];exact wpAny_pure ⟨rfl,h⟩
theorem eM{xs:Array Keyed}{a b:Nat}(h:iu O key xs a b){i j:Nat}{x y:Keyed}(ha:a≤i)(cV:i≤j)(hj:j<b)(hx:xs[i]? =some x)(hy:xs[j]? =some y):LE O key x y:=by
 have:=h i j ha cV hj
 unfold ky at this;rw [hx,hy] at this;exact this
theorem yX{xs:Array Keyed}{a b:Nat}(hb:b≤xs.size)(h:∀i j x y,a≤i→i≤j→j<b→xs[i]? =some x→xs[j]? =some y→LE O key x y):iu O key xs a b:=λi j ha cV hj=>by
 obtain ⟨x,ex,_,_⟩:=aW (xs:=xs) (i:=i) (by omega)
 obtain ⟨y,ey,_,_⟩:=aW (xs:=xs) (i:=j) (by omega)
 unfold ky;rw [ex,ey];exact h i j x y ha cV hj ex ey
theorem ext_get{xs:Array Keyed}{a b i:Nat}(hb:b≤xs.size)(hi:i<b-a):(xs.extract a b)[i]? =xs[a+i]? :=by
 rw [Array.getElem?_extract,if_pos (by omega)]
theorem ext_mem{xs:Array Keyed}{a b:Nat}{x:Keyed}(h:x∈(xs.extract a b).toList):∃i,a≤i∧i<b∧i<xs.size∧xs[i]? =some x:=by
 rw [ext_toList] at h;obtain ⟨j,h1,h2,h3⟩:=dB h;rw [cg] at h2;exact ⟨a+j,by omega,by omega,h2,je h3⟩
theorem Dx{xs:Array Keyed}{a b:Nat}(h:iu O key xs a b)(hb:b≤xs.size):(xs.extract a b).toList.Pairwise (LE O key):=by
 rw [vv];intro i j hi hj cV;have hs:(xs.extract a b).toList.length=b-a:=by rw [cg,xl];omega
 rw [hs] at hi hj;have gi:=ext_get (xs:=xs) (a:=a) hb hi;have gj:=ext_get (xs:=xs) (a:=a) hb hj;refine eM h (i:=a+i) (j:=a+j) (by omega) (by omega) (by omega) ?_ ?_
 ·rw [←gi,←e7];exact cK _
 ·rw [←gj,←e7];exact cK _
theorem y8(C:fS O key S k0 (model prog w) A E s){i sa na nb pw Fz:Nat}{Q:Bool→SortSt→Prop}(o:Ok S k0 st)(hf:failedOf st=none)(p1:(pendingOf st)[i]? =some (sa,na,pw))(p2:(pendingOf st)[i+1]? =some (sa+na,nb,Fz))(hna:1≤na)(Kt:1≤nb)(fI:sa+na+nb≤(arrOf st).size)
  (s1:iu O key (arrOf st) sa (sa+na)) (s2:iu O key (arrOf st) (sa+na) (sa+na+nb))
  (q:∀ag,(arrOf ag).Perm (arrOf st)→kindOf ag=kindOf st→failedOf ag=none→pendingOf ag=((pendingOf st).setIfInBounds i (sa,na+nb,pw)).eraseIdxIfInBounds (i+1)→(∀j,j<sa∨sa+na+nb≤j→(arrOf ag)[j]? =(arrOf st)[j]?)→iu O key (arrOf ag) sa (sa+(na+nb))→Q true ag):
  wpS (model prog w) A E s (mergeAt' i) Q st:=by
 rw [yy];refine wpS_bind (wpS_get ?_);rw [p1,p2];dsimp only;refine wpS_bind (JH ?_);generalize ((pendingOf st).setIfInBounds i (sa,na+nb,pw)).eraseIdxIfInBounds (i+1)=pn at q;have o':Ok S k0 (setPending st pn):=⟨o.mem,o.kind⟩;have mem:∀x∈(arrOf st).toList,S x:=o.mem;obtain ⟨b0,Oh,mb0,lb0⟩:=aW (xs:=arrOf st) (i:=sa+na) (by omega)
 refine wpS_bind (aS Oh ?_);have nB:∀(j:Nat)(z:Keyed),(arrOf st)[j]? =some z→(arrOf st)[j]?.getD (Value.none,Value.none)=z:=λj z e=>by rw [e];rfl
 refine wpS_bind (fR C (m9 mem (i:=sa) (n:=na) (by omega)) (mem b0 mb0) o'.kind (by omega) (λi j cV hj h=>?_) λk hk kt kf=>?_)
 ·obtain ⟨xi,e1,_,_⟩:=aW (xs:=arrOf st) (i:=sa+i) (by omega)
  obtain ⟨xj,e2,_,_⟩:=aW (xs:=arrOf st) (i:=sa+j) (by omega)
  unfold cU at h ⊢;rw [if_neg (by decide)] at h ⊢
  rw [e2] at h;rw [e1];have h':O.kle (key xj) (key b0):=by unfold KeyOrd.kle;simpa using h
  have:=KeyOrd.kle_trans (eM s1 (by omega) (by omega) (by omega) e1 e2) h'
  unfold KeyOrd.kle at this;simpa using this
 have UD:∀j x,sa≤j→j<sa+k→(arrOf st)[j]? =some x→LE O key x b0:=λj x h1 h2 e=>by
  have:=kt (j-sa) (by omega)
  unfold cU at this;rw [if_neg (by decide),show sa+(j-sa)=j by omega,nB j x e] at this
  show O.blt _ _=false;simpa using this
 have khi:∀j x,sa+k≤j→j<sa+na→(arrOf st)[j]? =some x→LE O key b0 x:=λj x h1 h2 e=>by
  have:=kf (j-sa) (by omega) (by omega)
  unfold cU at this;rw [if_neg (by decide),show sa+(j-sa)=j by omega,nB j x e] at this
  exact KeyOrd.kle_of_klt (show O.blt _ _=true by simpa using this)
 dsimp only;have Md:∀j y,sa+na≤j→j<sa+na+nb→(arrOf st)[j]? =some y→LE O key b0 y:=λj y h1 h2 e=>eM s2 (by omega) h1 h2 Oh e
 by_cases e0:na-k=0
 ·rw [if_pos (by simpa using e0)]
  refine wpS_pure (q _ (.refl _) rfl hf rfl (λ_ _=>rfl) ?_);refine yX (by show sa+(na+nb)≤(arrOf st).size;omega) λi j x y h1 cV hj ex ey=>?_
  by_cases c1:j<sa+na
  ·exact eM s1 h1 cV c1 ex ey
  ·by_cases c2:i<sa+na
   ·exact KeyOrd.kle_trans (UD i x h1 (by omega) ex) (Md j y (by omega) (by omega) ey)
   ·exact eM s2 (by omega) cV (by omega) ex ey
 rw [if_neg (by simpa using e0)]
 have Sr:sa+k+(na-k)-1=sa+na-1:=by omega
 obtain ⟨al,Kh,mal,lal⟩:=aW (xs:=arrOf st) (i:=sa+k+(na-k)-1) (by omega)
 refine wpS_bind (aS Kh ?_);rw [Sr] at Kh;refine wpS_bind (fR C (m9 mem (i:=sa+na) (n:=nb) (by omega)) (mem al mal) o'.kind (by omega) (λi j cV hj h=>?_) λm hm mt mf=>?_)
 ·obtain ⟨yi,e1,_,_⟩:=aW (xs:=arrOf st) (i:=sa+na+i) (by omega)
  obtain ⟨yj,e2,_,_⟩:=aW (xs:=arrOf st) (i:=sa+na+j) (by omega)
  unfold cU at h ⊢;rw [if_pos rfl] at h ⊢;rw [e2] at h;rw [e1];exact KeyOrd.klt_of_kle_of_klt (eM s2 (by omega) (by omega) (by omega) e1 e2) h
 have mlo:∀j y,sa+na≤j→j<sa+na+m→(arrOf st)[j]? =some y→LE O key y al:=λj y h1 h2 e=>by
  have:=mt (j-(sa+na)) (by omega)
  unfold cU at this;rw [if_pos rfl,show sa+na+(j-(sa+na))=j by omega,nB j y e] at this
  exact KeyOrd.kle_of_klt this
 have UH:∀j y,sa+na+m≤j→j<sa+na+nb→(arrOf st)[j]? =some y→LE O key al y:=λj y h1 h2 e=>by
  have:=mf (j-(sa+na)) (by omega) (by omega)
  unfold cU at this;rw [if_pos rfl,show sa+na+(j-(sa+na))=j by omega,nB j y e] at this
  exact this
 have WR:∀j x,sa≤j→j<sa+na→(arrOf st)[j]? =some x→LE O key x al:=λj x h1 h2 e=>eM s1 h1 (by omega) (by omega) e Kh
 dsimp only
 by_cases e1:m=0
 ·rw [if_pos (by simpa using e1)]
  refine wpS_pure (q _ (.refl _) rfl hf rfl (λ_ _=>rfl) ?_);refine yX (by show sa+(na+nb)≤(arrOf st).size;omega) λi j x y h1 cV hj ex ey=>?_
  by_cases c1:j<sa+na
  ·exact eM s1 h1 cV c1 ex ey
  ·by_cases c2:i<sa+na
   ·exact KeyOrd.kle_trans (WR i x h1 c2 ex) (UH j y (by omega) (by omega) ey)
   ·exact eM s2 (by omega) cV (by omega) ex ey
 rw [if_neg (by simpa using e1)]
 have T:kZ O key S ((arrOf st).extract (sa+k) (sa+na)) ((arrOf st).extract (sa+na) (sa+na+m)):=by
  refine ⟨λx hx=>?_,λx hx=>?_,Dx (λi j h1 h2 h3=>s1 i j (by omega) h2 h3) (by omega),Dx (λi j h1 h2 h3=>s2 i j h1 h2 (by omega)) (by omega),by rw [xl];omega,by rw [xl];omega,λy hy x hx=>?_,λx hx y hy=>?_⟩
  ·obtain ⟨i,_,_,_,e⟩:=ext_mem hx
   exact mem x (di (jQ e))
  ·obtain ⟨i,_,_,_,e⟩:=ext_mem hx
   exact mem x (di (jQ e))
  ·rw [ext_get (by omega) (by omega)] at hy
   have E5:(arrOf st)[sa+na]? =some y:=hy;rw [Oh] at E5;cases E5;obtain ⟨i,h1,h2,_,e⟩:=ext_mem hx;exact khi i x h1 h2 e
  ·have hsz2:((arrOf st).extract (sa+k) (sa+na)).size=na-k:=by rw [xl];omega
   rw [hsz2,ext_get (by omega) (by omega)] at hx
   rw [show sa+k+(na-k-1)=sa+na-1 by omega,Kh] at hx;cases hx
   obtain ⟨i,h1,h2,_,e⟩:=ext_mem hy;exact mlo i y h1 h2 e
 have szx:((arrOf st).extract (sa+k) (sa+na)).size=na-k:=by rw [xl];omega
 have szy:((arrOf st).extract (sa+na) (sa+na+m)).size=m:=by rw [xl];omega
 have fin:∀(r:Array Keyed)(ag:SortSt),GS (setPending st pn) ag→Res O key (((arrOf st).extract (sa+k) (sa+na)).toList++((arrOf st).extract (sa+na) (sa+na+m)).toList) r.toList→
   wpS (model prog w) A E s (do
    modify λs=>setArr s (r.toList.zipIdx.foldl (λa (p,j)=>a.setIfInBounds (sa+k+j) p) (arrOf s))
    return (failedOf (←get)).isNone) Q ag:=by
  intro r ag g res;refine wpS_bind (wpS_modify (wpS_bind (wpS_get ?_)));have Tg:failedOf ag=none:=g.failed.trans hf
  have hr:r.size=na-k+m:=by
   have:=res.1.length_eq
   rw [dX,cg,cg,cg,szx,szy] at this;exact this
  have hb:sa+k+r.size≤(arrOf ag).size:=by rw [g.arr];show _≤(arrOf st).size;omega
  have aad:(r.toList.zipIdx.foldl (λa (x:Keyed×Nat)=>match x with| (p,j)=>a.setIfInBounds (sa+k+j) p) (arrOf ag))=putAt (arrOf ag) r (sa+k):=rfl
  show wpS _ _ _ _ (pure (failedOf ag).isNone) Q (setArr ag (putAt (arrOf ag) r (sa+k)));rw [Tg];have ga:arrOf ag=arrOf st:=g.arr;rw [ga] at hb ⊢;have Dz:=λi=>uN hb i;rw [hr] at Dz
  have MY:∀j x,sa+k≤j→j<sa+na+m→(putAt (arrOf st) r (sa+k))[j]? =some x→∃i,sa+k≤i∧i<sa+na+m∧(arrOf st)[i]? =some x:=λj x h1 h2 e=>by
   rw [Dz,if_pos (by omega)] at e
   have hm:=res.1.mem_iff.mp (di (jQ e))
   rcases b9.mp hm with z|z
   ·obtain ⟨i,a1,a2,_,a4⟩:=ext_mem z
    exact ⟨i,a1,by omega,a4⟩
   ·obtain ⟨i,a1,a2,_,a4⟩:=ext_mem z
    exact ⟨i,by omega,a2,a4⟩
  have outs:∀j,j<sa+k∨sa+na+m≤j→(putAt (arrOf st) r (sa+k))[j]? =(arrOf st)[j]? :=λj h=>by rw [Dz,if_neg (by omega)]
  have Ib:∀i x j y,sa≤i→i<sa+k→(arrOf st)[i]? =some x→sa+k≤j→j<sa+na+nb→(arrOf st)[j]? =some y→LE O key x y:=λi x j y a1 a2 a3 a4 a5 a6=>by
   by_cases c:j<sa+na
   ·exact eM s1 a1 (by omega) c a3 a6
   ·exact KeyOrd.kle_trans (UD i x a1 a2 a3) (Md j y (by omega) a5 a6)
  have Kr:∀i x j y,sa≤i→i<sa+na+m→(arrOf st)[i]? =some x→sa+na+m≤j→j<sa+na+nb→(arrOf st)[j]? =some y→LE O key x y:=λi x j y a1 a2 a3 a4 a5 a6=>by
   by_cases c:i<sa+na
   ·exact KeyOrd.kle_trans (WR i x a1 c a3) (UH j y a4 a5 a6)
   ·exact eM s2 (by omega) (by omega) a5 a3 a6
  refine wpS_pure (q _ ?_ g.kind Tg g.pend (λj hj=>outs j (by omega)) ?_)
  ·refine Aw hb ?_
   rw [hr];refine res.1.trans ?_;rw [ext_toList,ext_toList,show sa+na-(sa+k)=na-k by omega,show sa+na+m-(sa+na)=m by omega]
   have:((arrOf st).toList.drop (sa+k)).take (na-k+m)=((arrOf st).toList.drop (sa+k)).take (na-k)++((arrOf st).toList.drop (sa+na)).take m:=by
    rw [mz _ (show na-k≤na-k+m by omega),List.drop_drop,show sa+k+(na-k)=sa+na by omega,show na-k+m-(na-k)=m by omega]
   rw [this]
  ·refine yX (by show sa+(na+nb)≤(putAt (arrOf st) r (sa+k)).size;rw [Ax hb];omega) λi j x y h1 cV hj ex ey=>?_
   have nv:(putAt (arrOf st) r (sa+k))[i]? =some x:=ex;have lE:(putAt (arrOf st) r (sa+k))[j]? =some y:=ey
   by_cases ci:i<sa+k
   ·rw [outs i (.inl ci)] at nv
    by_cases cj:j<sa+k
    ·rw [outs j (.inl cj)] at lE
     exact eM s1 h1 cV (by omega) nv lE
    ·by_cases Rg:j<sa+na+m
     ·obtain ⟨j',b1,b2,b3⟩:=MY j y (by omega) Rg lE
      exact Ib i x j' y h1 ci nv b1 (by omega) b3
     ·rw [outs j (.inr (by omega))] at lE
      exact Ib i x j y h1 ci nv (by omega) (by omega) lE
   ·by_cases XM:i<sa+na+m
    ·by_cases Rg:j<sa+na+m
     ·rw [Dz,if_pos (by omega)] at nv lE
      exact fi res.2 (by omega) (jQ nv) (jQ lE)
     ·obtain ⟨i',b1,b2,b3⟩:=MY i x (by omega) XM nv
      rw [outs j (.inr (by omega))] at lE
      exact Kr i' x j y (by omega) b2 b3 (by omega) (by omega) lE
    ·rw [outs i (.inr (by omega))] at nv
     rw [outs j (.inr (by omega))] at lE
     exact eM s2 (by omega) cV (by omega) nv lE
 by_cases c:na-k≤m
 ·rw [if_pos c]
  exact wpS_bind (zc C o'.kind T λr ag g res=>fin r ag g res)
 ·rw [if_neg c]
  exact wpS_bind (y9 C o'.kind T λr ag g res=>fin r ag g res)
end
abbrev U1:=Option Unit×Unit
def D6(pw:Nat):StateT SortSt Sem (ForInStep U1):=do
 let st ←get
 match (if (pendingOf st).size>1 then (pendingOf st)[(pendingOf st).size-2]? else none) with
 |some (_,_,PN)=>
  if PN≤pw then pure (ForInStep.done (none,()))
  else do
   let ok ←mergeAt' ((pendingOf st).size-2)
   if (!ok)=true then pure (ForInStep.done (some (),())) else pure (ForInStep.yield (none,()))
 |_=>pure (ForInStep.done (none,()))
def kH(size lo n:Nat):StateT SortSt Sem (ForInStep (Option Unit×Nat)):=do
 let st ←get
 match (pendingOf st).back? with
 |some (s1,n1,_)=>do
  let t ←forIn [0:size] ((none,()):U1) λ_ _=>D6 (power' size (2*s1+n1) (2*s1+n1+n1+n) size)
  match t.1 with
  |some r=>pure (ForInStep.done (some r,lo))
  |none=>do
   modify λs=>setPending s ((pendingOf s).modify ((pendingOf s).size-1) λx=>(x.1,x.2.1,power' size (2*s1+n1) (2*s1+n1+n1+n) size))
   modify λs=>setPending s ((pendingOf s).push (lo,n,0))
   pure (ForInStep.yield (none,lo+n))
 |_=>do
  modify λs=>setPending s ((pendingOf s).push (lo,n,0))
  pure (ForInStep.yield (none,lo+n))
def yV(size lo:Nat):StateT SortSt Sem (ForInStep (Option Unit×Nat)):=
 if lo≥size then pure (ForInStep.done (none,lo))
 else do
  let x ←countRun' lo (size-lo)
  match x with
  |some found=>
   if found<minRun' size size 0 then do
    liftM (rule "list.sort.binary-insertion")
    let ok ←binarySort' lo (min (size-lo) (minRun' size size 0)) found
    if (!ok)=true then pure (ForInStep.done (some (),lo)) else kH size lo (min (size-lo) (minRun' size size 0))
   else kH size lo found
  |_=>pure (ForInStep.done (some (),lo))
def CI:StateT SortSt Sem (ForInStep U1):=do
 let st ←get
 if (pendingOf st).size≤1 then pure (ForInStep.done (none,()))
 else do
  let ok ←mergeAt' (if (if (pendingOf st).size-2>0 then (pendingOf st)[(pendingOf st).size-2-1]?.map (·.2.1) else none).any (·<((pendingOf st)[(pendingOf st).size-2+1]?.elim 0 (·.2.1))) then (pendingOf st).size-2-1 else (pendingOf st).size-2)
  if (!ok)=true then pure (ForInStep.done (some (),())) else pure (ForInStep.yield (none,()))
theorem uZ:sortRuns'=(do
 let st ←get
 let c ←forIn [0:(arrOf st).size] ((none,0):Option Unit×Nat) λ_ c=>yV (arrOf st).size c.2
 match c.1 with
 |some r=>pure r
 |none=>do
  let t ←forIn [0:(arrOf st).size] ((none,()):U1) λ_ _=>CI
  match t.1 with
  |some r=>pure r
  |none=>pure ()):=by
 rw [sortRuns'_eq];dsimp only;refine cD rfl λst=>cD (xS λ_ c=>?_) λc=>?_
 ·unfold yV
  refine eL (λ_=>rfl) (λ_=>cD rfl λx=>?_);cases x with
  |none=>rfl
  |some f=>
   dsimp only;have jp:∀n:Nat,kH (arrOf st).size c.2 n=kH (arrOf st).size c.2 n:=λ_=>rfl;refine eL (λ_=>cD rfl λ_=>cD rfl λok=>eL (λ_=>rfl) (λ_=>?_)) (λ_=>?_)
   all_goals
    unfold kH;refine cD rfl λkI=>?_;cases (pendingOf kI).back? with
    |none=>rfl
    |some e=>
     obtain ⟨s1,n1,p1⟩:=e;dsimp only;refine cD (xS λ_ c=>?_) λt=>?_
     ·unfold D6
      refine cD rfl λsN=>?_;cases (if (pendingOf sN).size>1 then (pendingOf sN)[(pendingOf sN).size-2]? else none) with
      |none=>rfl
      |some e=>rfl
     ·obtain ⟨t1,t2⟩:=t
      cases t1<;>rfl
 ·obtain ⟨c1,c2⟩:=c
  cases c1 with
  |some r=>rfl
  |none=>
   dsimp only;refine cD (xS λ_ c=>?_) λt=>?_
   ·rfl
   ·obtain ⟨t1,t2⟩:=t
    cases t1<;>rfl
section
variable {O:KeyOrd} {key:Keyed→O.α} {S:Keyed→Prop} {k0:SortKind} {prog:Program} {w:World} {A:Around} {E:Value→Shared→Prop} {s:Shared} {st bz:SortSt}
def iK(O:KeyOrd)(key:Keyed→O.α)(xs:Array Keyed):Nat→List (Nat×Nat)→Nat→Prop
 |a,[],b=>a=b
 |a,e::r,b=>e.1=a∧1≤e.2∧iu O key xs a (a+e.2)∧iK O key xs (a+e.2) r b
theorem iK.app{xs:Array Keyed}:∀{l1 l2:List (Nat×Nat)}{a b:Nat},iK O key xs a (l1++l2) b↔∃c,iK O key xs a l1 c∧iK O key xs c l2 b
 | [],l2,a,b=>⟨λh=>⟨a,rfl,h⟩,λ⟨c,h1,h2⟩=>by cases h1;exact h2⟩
 |e::l1,l2,a,b=>by
  constructor
  ·rintro ⟨h1,h2,h3,h4⟩
   obtain ⟨c,c1,c2⟩:=iK.app.mp h4;exact ⟨c,⟨h1,h2,h3,c1⟩,c2⟩
  ·rintro ⟨c,⟨h1,h2,h3,c1⟩,c2⟩
   exact ⟨h1,h2,h3,iK.app.mpr ⟨c,c1,c2⟩⟩
theorem iK.le{xs:Array Keyed}:∀{l:List (Nat×Nat)}{a b:Nat},iK O key xs a l b→a+l.length≤b
 | [],a,b,h=>by cases h;simp
 |e::l,a,b,⟨_,h2,_,h4⟩=>by
  have:=iK.le h4
  rw [cv];omega
theorem u4{xs ys:Array Keyed}{a b:Nat}(h:∀i,a≤i→i<b→ys[i]? =xs[i]?)(hs:iu O key xs a b):iu O key ys a b:=λi j h1 h2 h3=>by
 rw [gH (h i h1 (by omega)),gH (h j (by omega) h3)];exact hs i j h1 h2 h3
theorem iK.congr{xs ys:Array Keyed}:∀{l:List (Nat×Nat)}{a b:Nat},(∀i,a≤i→i<b→ys[i]? =xs[i]?)→iK O key xs a l b→iK O key ys a l b
 | [],a,b,_,h=>h
 |e::l,a,b,hc,⟨h1,h2,h3,h4⟩=>by
  have:=iK.le h4
  exact ⟨h1,h2,u4 (λi a1 a2=>hc i a1 (by omega)) h3,iK.congr (λi a1 a2=>hc i (by omega) a2) h4⟩
def pl(st:SortSt):List (Nat×Nat):=(pendingOf st).toList.map λe=>(e.1,e.2.1)
structure SI (O:KeyOrd) (key:Keyed→O.α) (S:Keyed→Prop) (k0:SortKind) (a0:Array Keyed) (st:SortSt) (lo:Nat):Prop where
 ok:Ok S k0 st
 failed:failedOf st=none
 perm:(arrOf st).Perm a0
 cov:iK O key (arrOf st) 0 (pl st) lo
 le:lo≤a0.size
theorem SI.size{a0:Array Keyed}{lo:Nat}(h:SI O key S k0 a0 st lo):(arrOf st).size=a0.size:=h.perm.size_eq
theorem AW(C:fS O key S k0 (model prog w) A E s){a0:Array Keyed}{lo i:Nat}{Q:Bool→SortSt→Prop}(h:SI O key S k0 a0 st lo)(hi:i+1<(pendingOf st).size)
  (q:∀ag,SI O key S k0 a0 ag lo→(pendingOf ag).size=(pendingOf st).size-1→(∀j,lo≤j→(arrOf ag)[j]? =(arrOf st)[j]?)→Q true ag):wpS (model prog w) A E s (mergeAt' i) Q st:=by
 have e1:(pendingOf st)[i]? =some (pendingOf st)[i]:=getElem?_pos _ i (by omega)
 have e2:(pendingOf st)[i+1]? =some (pendingOf st)[i+1]:=getElem?_pos _ (i+1) hi
 have hl:(pendingOf st).toList=(pendingOf st).toList.take i++((pendingOf st)[i]::(pendingOf st)[i+1]::(pendingOf st).toList.drop (i+2)):=by
  conv=>lhs;rw [←iY i (pendingOf st).toList]
  congr 1
  rw [ql (by rw [cg];omega),ql (by rw [cg];omega)]
  rfl
 generalize hx:(pendingOf st)[i]=x at*;generalize hy:(pendingOf st)[i+1]=y at*;obtain ⟨sa,na,pw⟩:=x;obtain ⟨sb,nb,Fz⟩:=y;have hc:=h.cov;unfold pl at hc;rw [hl,dW,fD,fD] at hc;obtain ⟨c,c1,c2⟩:=iK.app.mp hc;obtain ⟨d1,d2,d3,d4,d5,d6,d7⟩:=c2;dsimp only at d1 d2 d3 d4 d5 d6 d7;subst d1;subst d4;have hle:=d7.le;have fI:=h.size;have zV:=h.le;refine y8 C h.ok h.failed e1 e2 d2 d5 (by omega) d3 d6 λag b1 b2 b3 b4 b5 b6=>?_
 have fq:(pendingOf ag).toList=(pendingOf st).toList.take i++((sa,na+nb,pw)::(pendingOf st).toList.drop (i+2)):=by
  rw [b4,Array.toList_eraseIdxIfInBounds,Array.toList_setIfInBounds]
  conv=>lhs;rw [hl]
  have hlen:((pendingOf st).toList.take i).length=i:=by rw [jt,cg];omega
  rw [List.set_append_right _ _ (by omega),List.eraseIdx_append_of_length_le (by omega),hlen,qs,show i+1-i=1 by omega]
  rfl
 refine q ag ⟨⟨λp hp=>h.ok.mem p ((Ed.mp b1).mem_iff.mp hp),b2.trans h.ok.kind⟩,b3,b1.trans h.perm,?_,h.le⟩ ?_ λj hj=>b5 j (.inr (by omega))
 ·unfold pl
  rw [fq,dW,fD];refine iK.app.mpr ⟨sa,iK.congr (λj a1 a2=>b5 j (.inl a2)) c1,rfl,?_,b6,?_⟩
  ·show 1≤na+nb;omega
  ·show iK O key (arrOf ag) (sa+(na+nb)) _ lo
   rw [←Nat.add_assoc];exact iK.congr (λj a1 a2=>b5 j (.inr a1)) d7
 ·rw [←cg,fq,dX,cv,jt,sg,cg];omega
def Kp(bz st:SortSt)(lo:Nat):Prop:=∀j,lo≤j→(arrOf st)[j]? =(arrOf bz)[j]?
theorem FR(C:fS O key S k0 (model prog w) A E s){a0:Array Keyed}{lo pw:Nat}(h:SI O key S k0 a0 st lo)(hk:Kp bz st lo):wpS (model prog w) A E s (D6 pw) (λr ag=>match r with| .done c=>c=(none,())∧SI O key S k0 a0 ag lo∧Kp bz ag lo| .yield c=>c=(none,())∧SI O key S k0 a0 ag lo∧Kp bz ag lo) st:=by
 unfold D6;refine wpS_bind (wpS_get ?_)
 by_cases hp:(pendingOf st).size>1
 ·rw [if_pos hp]
  cases e:(pendingOf st)[(pendingOf st).size-2]? with
  |none=>exact wpS_pure ⟨rfl,h,hk⟩
  |some x=>
   obtain ⟨x1,x2,x3⟩:=x;dsimp only
   by_cases hle:x3≤pw
   ·rw [if_pos hle];exact wpS_pure ⟨rfl,h,hk⟩
   ·rw [if_neg hle]
    refine wpS_bind (AW C h (by omega) λag h' _ gd=>?_)
    exact wpS_pure ⟨rfl,h',λj hj=>(gd j hj).trans (hk j hj)⟩
 ·rw [if_neg hp]
  exact wpS_pure ⟨rfl,h,hk⟩
theorem IS{lo n:Nat}:pl (setPending st ((pendingOf st).push (lo,n,0)))=pl st++ [(lo,n)]:=by
 unfold pl;show ((pendingOf st).push (lo,n,0)).toList.map _=_;rw [xn,dW];rfl
theorem Cq{i pw:Nat}:pl (setPending st ((pendingOf st).modify i λx=>(x.1,x.2.1,pw)))=pl st:=by
 unfold pl;show ((pendingOf st).modify i λx=>(x.1,x.2.1,pw)).toList.map _=_;apply vA;intro j;rw [ck,ck,e7,e7,Array.getElem?_modify]
 by_cases e:i=j
 ·rw [if_pos e]
  cases (pendingOf st)[j]? <;>rfl
 ·rw [if_neg e]
theorem SI.DS{a0:Array Keyed}{lo n:Nat}(h:SI O key S k0 a0 st lo)(hn:1≤n)(hl:lo+n≤a0.size)(hs:iu O key (arrOf st) lo (lo+n)):SI O key S k0 a0 (setPending st ((pendingOf st).push (lo,n,0))) (lo+n):=by
 refine ⟨⟨h.ok.mem,h.ok.kind⟩,h.failed,h.perm,?_,hl⟩;rw [IS];exact iK.app.mpr ⟨lo,h.cov,rfl,hn,hs,rfl⟩
theorem rX(C:fS O key S k0 (model prog w) A E s){a0:Array Keyed}{lo n:Nat}(h:SI O key S k0 a0 st lo)(hn:1≤n)(hl:lo+n≤a0.size)(hs:iu O key (arrOf st) lo (lo+n)):
  wpS (model prog w) A E s (kH a0.size lo n) (λr ag=>match r with| .done c=>False| .yield c=>c=(none,lo+n)∧SI O key S k0 a0 ag (lo+n)) st:=by
 unfold kH;refine wpS_bind (wpS_get ?_);cases (pendingOf st).back? with
 |none=>exact wpS_bind (wpS_modify (wpS_pure ⟨rfl,h.DS hn hl hs⟩))
 |some e=>
  obtain ⟨s1,n1,p1⟩:=e;dsimp only;refine wpS_bind (wpS_mono (wpS_forRange (I:=λ(x:Nat)(c:U1)(ag:SortSt)=>c=(none,())∧SI O key S k0 a0 ag lo∧Kp st ag lo) (Q:=λc ag=>c=(none,())∧SI O key S k0 a0 ag lo∧Kp st ag lo) (λx c ag _ _ hh=>?_) (λc ag hh=>hh) ⟨rfl,h,λ_ _=>rfl⟩) ?_)
  ·refine wpS_mono (FR C hh.2.1 hh.2.2) λr cq o=>?_
   cases r with
   |done d=>exact o
   |yield d=>exact o
  ·rintro c ag ⟨rfl,h',gd⟩
   dsimp only;refine wpS_bind (wpS_modify (wpS_bind (wpS_modify (wpS_pure ⟨rfl,?_⟩))))
   have h2:SI O key S k0 a0 (setPending ag ((pendingOf ag).modify ((pendingOf ag).size-1) λx=>(x.1,x.2.1,power' a0.size (2*s1+n1) (2*s1+n1+n1+n) a0.size))) lo:=
    ⟨⟨h'.ok.mem,h'.ok.kind⟩,h'.failed,h'.perm,by rw [Cq];exact h'.cov,h'.le⟩
   exact h2.DS hn hl (u4 (λi a1 a2=>gd i a1) hs)
theorem SI.Wv{a0:Array Keyed}{lo hi:Nat}{ag:SortSt}(h:SI O key S k0 a0 st lo)(t:fU st ag lo hi):SI O key S k0 a0 ag lo:=
 ⟨h.ok.step t,t.failed.trans h.failed,t.perm.trans h.perm,by
  have:pl ag=pl st:=by unfold pl;rw [t.pend]
  rw [this];exact iK.congr (λi _ a2=>t.out i (.inl a2)) h.cov,h.le⟩
theorem C2(C:fS O key S k0 (model prog w) A E s){a0:Array Keyed}{lo:Nat}(h:SI O key S k0 a0 st lo):
  wpS (model prog w) A E s (yV a0.size lo) (λr ag=>match r with| .done c=>c=(none,lo)∧a0.size≤lo∧SI O key S k0 a0 ag lo| .yield c=>∃n,1≤n∧c=(none,lo+n)∧SI O key S k0 a0 ag (lo+n)) st:=by
 unfold yV;have fI:=h.size;have hle:=h.le
 by_cases lJ:lo≥a0.size
 ·rw [if_pos lJ];exact wpS_pure ⟨rfl,lJ,h⟩
 ·rw [if_neg lJ]
  refine wpS_bind (wpS_countRun C h.ok (by omega) (by omega) λm yY t1 m1 m2 sm=>?_)
  dsimp only;have h1:=h.Wv t1;have aah:=h1.size
  by_cases bx:m<minRun' a0.size a0.size 0
  ·rw [if_pos bx]
   refine wpS_bind (wpS_lift (wpAny_rule ⟨rfl,?_⟩));refine wpS_bind (wpS_binarySort C h1.ok (by omega) (by omega) sm λkI t2 s2=>?_)
   rw [if_neg (by decide)]
   refine wpS_mono (rX C (h1.Wv t2) (by omega) (by omega) s2) λr ag o=>?_
   cases r with
   |done d=>exact o.elim
   |yield d=>exact ⟨_,by omega,o.1,o.2⟩
  ·rw [if_neg bx]
   refine wpS_mono (rX C h1 m1 (by omega) sm) λr ag o=>?_
   cases r with
   |done d=>exact o.elim
   |yield d=>exact ⟨_,m1,o.1,o.2⟩
theorem ite_le{c:Prop} [Decidable c] {p:Nat}:(if c then p-1 else p)≤p:=by split<;>omega
theorem C1(C:fS O key S k0 (model prog w) A E s){a0:Array Keyed}{x:Nat}(h:SI O key S k0 a0 st a0.size)(hp:(pendingOf st).size≤max 1 (a0.size-x)):
  wpS (model prog w) A E s CI (λr ag=>match r with| .done c=>c=(none,())∧SI O key S k0 a0 ag a0.size∧(pendingOf ag).size≤1| .yield c=>c=(none,())∧SI O key S k0 a0 ag a0.size∧(pendingOf ag).size≤max 1 (a0.size-(x+1))) st:=by
 unfold CI;refine wpS_bind (wpS_get ?_)
 by_cases h1:(pendingOf st).size≤1
 ·rw [if_pos h1];exact wpS_pure ⟨rfl,h,h1⟩
 ·rw [if_neg h1]
  refine wpS_bind (AW C h (mI (Nat.succ_le_succ ite_le) (by omega)) λag h' e _=>?_)
  exact wpS_pure ⟨rfl,h',by omega⟩
theorem wpS_sortRuns(C:fS O key S k0 (model prog w) A E s){Q:Unit→SortSt→Prop}(o:Ok S k0 st)(hf:failedOf st=none)(hp:pendingOf st= #[])(h1:1≤(arrOf st).size)
  (q:∀ag,(arrOf ag).Perm (arrOf st)→failedOf ag=none→iu O key (arrOf ag) 0 (arrOf st).size→Q () ag):wpS (model prog w) A E s sortRuns' Q st:=by
 rw [uZ];refine wpS_bind (wpS_get ?_);have h0:SI O key S k0 (arrOf st) st 0:=⟨o,hf, .refl _,by unfold pl;rw [hp];rfl,cZ _⟩
 refine wpS_bind (wpS_mono (wpS_forRange (I:=λ(x:Nat)(c:Option Unit×Nat)(ag:SortSt)=>∃lo,c=(none,lo)∧min x (arrOf st).size≤lo∧SI O key S k0 (arrOf st) ag lo) (Q:=λc ag=>c=(none,(arrOf st).size)∧SI O key S k0 (arrOf st) ag (arrOf st).size) (λx c ag _ _ hh=>?_) (λc ag hh=>?_) ⟨0,rfl,by omega,h0⟩) ?_)
 ·obtain ⟨lo,rfl,hx,hs⟩:=hh
  refine wpS_mono (C2 C hs) λr cq o=>?_;cases r with
  |done d=>
   obtain ⟨e,e1,e2⟩:=o
   have:=e2.le
   have el:lo=(arrOf st).size:=by omega
   rw [el] at e e2;exact ⟨e,e2⟩
  |yield d=>
   obtain ⟨n,n1,e,e2⟩:=o;exact ⟨lo+n,e,by omega,e2⟩
 ·obtain ⟨lo,rfl,hx,hs⟩:=hh
  have:=hs.le
  have el:lo=(arrOf st).size:=by omega
  rw [el] at hs ⊢;exact ⟨rfl,hs⟩
 ·rintro c ag ⟨rfl,hs⟩
  dsimp only
  have hlen:(pendingOf ag).size≤(arrOf st).size:=by
   have:=hs.cov.le
   unfold pl at this;rw [aP,cg] at this;omega
  refine wpS_bind (wpS_mono (wpS_forRange (I:=λ(x:Nat)(c:U1)(ag:SortSt)=>c=(none,())∧SI O key S k0 (arrOf st) ag (arrOf st).size∧(pendingOf ag).size≤max 1 ((arrOf st).size-x)) (Q:=λc ag=>c=(none,())∧SI O key S k0 (arrOf st) ag (arrOf st).size∧(pendingOf ag).size≤1) (λx c ag _ _ hh=>?_) (λc ag hh=>?_) ⟨rfl,hs,by omega⟩) ?_)
  ·refine wpS_mono (C1 C hh.2.1 hh.2.2) λr cq o=>?_
   cases r with
   |done d=>exact o
   |yield d=>exact o
  ·exact ⟨hh.1,hh.2.1,by have:=hh.2.2;omega⟩
  ·rintro c cq ⟨rfl,qD,TN⟩
   refine wpS_pure (q cq qD.perm qD.failed ?_);have hc:=qD.cov;have Zi:(pl cq).length≤1:=by unfold pl;rw [aP,cg];exact TN
   match fq:pl cq,Zi with
   | [],_=>rw [fq] at hc;exact absurd hc (by show ¬(0=(arrOf st).size);omega)
   | [e],_=>
    rw [fq] at hc;obtain ⟨a1,a2,a3,a4⟩:=hc
    have:0+e.2=(arrOf st).size:=a4
    rw [←this];exact a3
end
section
variable {O:KeyOrd} {key:Keyed→O.α} {S:Keyed→Prop} {k0:SortKind} {prog:Program} {w:World} {A:Around} {E:Value→Shared→Prop} {s:Shared}
def Keeps(s s':Shared):Prop:=∀b o,s.heap.get? b=some o→s'.heap.get? b=some o
theorem q0(vs:List Value):(vs.toArray.zip vs.toArray).toList=vs.map λv=>(v,v):=by
 rw [Array.toList_zip];show List.zip vs vs=_
 induction vs with
 |nil=>rfl
 |cons v r ih=>rw [List.zip_cons_cons,fD,ih]
theorem LU{xs:Array Keyed}(h:iu O key xs 0 xs.size):xs.toList.Pairwise (LE O key):=by
 rw [vv];intro i j hi hj cV;rw [cg] at hi hj;exact eM h (cZ _) (Nat.le_of_lt cV) hj (je (cK _)) (je (cK _))
theorem ux{a:Addr}{vs:List Value}{n:Nat}{P:PySem.Fin→Shared→Prop}(ho:s.heap.get? a=some (seqObj "list" vs.toArray n))(h2:2≤vs.length)(hz:vs.length≤1000)(ne:∀b o,s.heap.get? b=some o→b≠a→True)
  {s0:Shared} (k0s:∀b o,s0.heap.get? b=some o→b≠a∧s.heap.get? b=some o)
  (hk:∀(E:Value→Shared→Prop)(s':Shared)(Q':SortKind→Shared→Prop),Keeps s0 s'→Q' k0 s'→wpAny (model prog w) A (keyKind' vs.toArray) Q' E s')
  (C:∀(E:Value→Shared→Prop)(s':Shared),Keeps s0 s'→fS O key S k0 (model prog w) A E s') (mem:∀v∈vs,S (v,v))
  (h:∀out:Array Keyed,out.toList.Perm (vs.map λv=>(v,v))→out.toList.Pairwise (LE O key)→P (.done (.ret .none)) {s with heap:=sortedHeap s.heap a vs (out.map (·.2))}):
  wpAny (model prog w) A (Builtin.«list.sort» ⟨[.ref a],[]⟩) P E s:=by
 rw [list_sort_plain];have ha:a<s.heap.objs.size:=Heap.lt_size ho;have cG:1000<sizeLine:=by decide
 refine wpAny_bind (listItems_at ho rfl ?_);refine wpAny_bind (listUpdate_at ho rfl ?_ (by rw [bO];omega) (cZ _))
 obtain ⟨e1,vN⟩:∃e1,(s.heap.update a (Obj.mapSeq λ_=> #[])).get? a=some (seqObj "list" #[] e1):=⟨_,get?_update_seq ho (λ_=> #[])⟩;refine wpAny_bind (seqEpoch_at vN rfl ?_);refine wpAny_bind (wpAny_newTuple ?_ (by show vs.length≤_;omega))
 refine wpAny_bind (wpAny_newList ?_ (cZ _));refine wpAny_holding ?_
 have Hz:(((s.heap.update a (Obj.mapSeq λ_=> #[])).push (seqObj "tuple" vs.toArray 0)).push (seqObj "list" #[] 0)).get? a=some (seqObj "list" #[] e1):=by
  rw [Heap.get?_push_ne _ _ _ (by rw [size_push',Heap.size_update];exact cm (Nat.lt_succ_of_lt ha)),Heap.get?_push_ne _ _ _ (by rw [Heap.size_update];exact cm ha)]
  exact vN
 show wpAny (model prog w) A _ P E {s with heap:=((s.heap.update a (Obj.mapSeq λ_=> #[])).push (seqObj "tuple" vs.toArray 0)).push (seqObj "list" #[] 0)}
 have kp:Keeps s0 {s with heap:=((s.heap.update a (Obj.mapSeq λ_=> #[])).push (seqObj "tuple" vs.toArray 0)).push (seqObj "list" #[] 0)}:=λb o e=>by
  obtain ⟨n1,e'⟩:=k0s b o e;refine Heap.get?_push_of_some _ (Heap.get?_push_of_some _ ?_);rw [Heap.get?_update_ne _ _ _ _ n1];exact e'
 dsimp only;have fI:vs.toArray.size=vs.length:=by simp
 have vM:¬vs.toArray.size<2:=by omega
 rw [if_neg vM,if_neg vM];refine wpAny_bind (hk _ _ _ kp ?_);have hsz2:(vs.toArray.zip vs.toArray).size=vs.length:=by rw [←cg,q0,aP]
 refine wpAny_bind (wpAny_mono (wpS_sortRuns (C _ _ kp) (st:=SortSt.mk' k0 (vs.toArray.zip vs.toArray) #[] 7 none)
   (Q:=λ_ ag=>(arrOf ag).Perm (vs.toArray.zip vs.toArray)∧failedOf ag=none∧iu O key (arrOf ag) 0 (vs.toArray.zip vs.toArray).size)
   ⟨λp hp=>?_,rfl⟩ rfl rfl (by show 1≤(vs.toArray.zip vs.toArray).size;omega) λag a1 a2 a3=>⟨a1,a2,a3⟩) ?_ λ_ _ e=>e)
 ·have zY:p∈(vs.toArray.zip vs.toArray).toList:=hp
  rw [q0] at zY;obtain ⟨v,hv,rfl⟩:=bS.mp zY;exact mem v hv
 rintro ⟨⟨⟩,ag⟩ s' ⟨rfl,hp,hf,hs⟩;dsimp only;have hps:(arrOf ag).size=vs.length:=by rw [hp.size_eq,hsz2]
 refine wpAny_bind (seqEpoch_at Hz rfl ?_);refine wpAny_bind (listUpdate_at Hz rfl ?_ (cZ _) (by rw [Array.size_map];omega))
 rw [hf];simp only [bne_self_eq_false,fB,if_false];refine wpAny_pure (h (arrOf ag) ?_ ?_)
 ·rw [←q0];exact Ed.mp hp
 ·refine LU ?_
  rw [hp.size_eq];exact hs
theorem rS{l:Addr}{vs:List Value}{Q:Value→Shared→Prop}(hl:s.heap.IsList l vs.toArray)(h2:2≤vs.length)(hz:vs.length≤1000)
  (hk:∀(E:Value→Shared→Prop)(s':Shared)(Q':SortKind→Shared→Prop),Keeps s s'→Q' k0 s'→wpAny (model prog w) A.in1.in1 (keyKind' vs.toArray) Q' E s')
  (C:∀(E:Value→Shared→Prop)(s':Shared),Keeps s s'→fS O key S k0 (model prog w) A.in1.in1 E s') (mem:∀v∈vs,S (v,v))
  (h:∀out:Array Keyed,out.toList.Perm (vs.map λv=>(v,v))→out.toList.Pairwise (LE O key)→Q (.ref (s.heap.objs.size+1)) {s with heap:=sortedAll s.heap vs (out.map (·.2))}):
  wpAny (model prog w) A (call (.builtin "sorted") [.ref l]) Q E s:=by
 have cG:1000<sizeLine:=by decide
 refine Calls.call_function_entry kind_sorted plain_sorted entry_sorted (args_sorted1 _) ?_;unfold Builtin.«sorted»;refine wpAny_bind (m:=checkCount "sorted" 1 1 _) (wpAny_pure ?_);refine wpAny_bind (collect_list hl ?_ (by omega))
 refine wpAny_bind (wpAny_newList ?_ (by show vs.length≤_;omega))
 have fI:((s.heap.push (seqObj "list" #[] 0)).update s.heap.objs.size (Obj.mapSeq (·++vs.toArray))).objs.size=s.heap.objs.size+1:=by
  rw [Heap.size_update,size_push']
 have Ku:(((s.heap.push (seqObj "list" #[] 0)).update s.heap.objs.size (Obj.mapSeq (·++vs.toArray))).push (seqObj "list" vs.toArray 0)).get? (s.heap.objs.size+1)=some (seqObj "list" vs.toArray 0):=by
  rw [←fI];exact Heap.get?_push_size _ rfl
 have keep:∀b o,s.heap.get? b=some o→(((s.heap.push (seqObj "list" #[] 0)).update s.heap.objs.size (Obj.mapSeq (·++vs.toArray))).push (seqObj "list" vs.toArray 0)).get? b=some o:=λb o q=>by
  have bx:b<s.heap.objs.size:=Heap.lt_size q;rw [Heap.get?_push_ne _ _ _ (by rw [fI];exact cm (Nat.lt_succ_of_lt bx)),Heap.get?_update_ne _ _ _ _ (cm bx),Heap.get?_push_ne _ _ _ (cm bx)]
  exact q
 show wpAny _ _ _ _ _ {s with heap:=((s.heap.push (seqObj "list" #[] 0)).update s.heap.objs.size (Obj.mapSeq (·++vs.toArray))).push (seqObj "list" vs.toArray 0)}
 rw [fI];refine wpAny_bind (wpAny_holding (wpAny_call_entry slot_list_sort ⟨_,Ku,rfl⟩ entry_list_sort (ux (s0:=s) Ku h2 hz (λ_ _ _ _=>trivial) (λb o e=>⟨cm (Nat.lt_succ_of_lt (Heap.lt_size e)),keep b o e⟩) hk C mem λout a1 a2=>⟨_,rfl,?_⟩) (args_list_sort _)));exact wpAny_pure ⟨_,rfl,h out a1 a2⟩
end
end TS
namespace L2
open PySem PySem.Spec PyProof.Rows
def lexOrd:KeyOrd where
 α:=Nat×Nat
 blt:=iQ
 irrefl:=λa=>by unfold iQ;rw [if_pos rfl];simp
 trans:=λa b c h1 h2=>HW _ _ _ h1 h2
 negTrans:=λa b c h=>Fd _ _ _ h
 total:=λa b h1 h2=>Wb.qJ (uq h2) (uq h1)
def keyOf(L:List (Addr×(Nat×Nat)))(v:Keyed):Nat×Nat:=match v.1 with
 | .ref a=>((L.find? λe=>e.1==a).map (·.2)).getD (0,0)
 |_=>(0,0)
theorem Cn{k k':Nat×Nat}(h:gk k=gk k'):k=k':=by
 unfold gk at h
 injection h with h1 h2
 injection h2 with h2 _
 injection h1 with h1
 injection h2 with h2
 exact Prod.ext (by omega) (by omega)
theorem km{H:Hp}{L:List (Addr×(Nat×Nat))}(hL:nY H L){e:Addr×(Nat×Nat)}(he:e∈L)(v:Value):keyOf L (.ref e.1,v)=e.2:=by
 unfold keyOf;dsimp only;cases hf:L.find? λx=>x.1==e.1 with
 |none=>exact absurd (List.find?_eq_none.mp hf e he) (by simp)
 |some x=>
  have hx:=List.mem_of_find?_eq_some hf;have hb:=List.find?_some hf;have e1:x.1=e.1:=by simpa using hb
  have a1:=hL x hx;have a2:=hL e he;rw [e1,a2] at a1
  injection a1 with a1
  injection a1 with a1
  exact (Cn a1).symm
theorem iA{α β:Type} [DecidableEq α] (f:α→β):∀(l:List β)(L:List α),l.Perm (L.map f)→∃M:List α,M.Perm L∧l=M.map f
 | [],L,h=>by
  have:=h.length_eq
  rw [aP] at this
  have:L= []:=List.length_eq_zero_iff.mp this.symm
  subst this;exact ⟨[], .refl _,rfl⟩
 |x::r,L,h=>by
  obtain ⟨e,he,rfl⟩:=bS.mp (h.mem_iff.mp b8);have p1:=List.perm_cons_erase he;have p2:(f e::r).Perm (f e::(L.erase e).map f):=h.trans (p1.map f);obtain ⟨M,m1,rfl⟩:=iA f r (L.erase e) ((List.perm_cons _).mp p2);exact ⟨e::M,(m1.cons e).trans p1.symm,rfl⟩
section
variable {X:Cx}
theorem vH:cT X (.builtin "sorted") (λxs H Q=>∃(p:Addr)(L:List (Addr×(Nat×Nat))),xs= [.ref p]∧aG X.K H p (L.map λe=>V.ref e.1)∧nY H L∧L.length≤1000∧
  ∀(q:Addr)(M:List (Addr×(Nat×Nat))),H q=none→M.Perm L→(M.map (·.2)).Pairwise Wb.lexLe→Q (.ref q) (upd H q (.lst (M.map λe=>V.ref e.1)))):=by
 intro pins s σ H xs us Q I rv h;obtain ⟨p,L,rfl,hp,hL,hz,q⟩:=h;obtain ⟨u,rfl,ru⟩:=rv.one;cases ru;obtain ⟨its,r,pl,_⟩:=I.list hp;have hl:=r.length;rw [aP] at hl;have cG:1000<sizeLine:=by decide
 have ei:its=L.map λe=>Value.ref e.1:=by
  have:=oU (as:=L.map (·.1)) (us:=its) (by rw [fE];exact r)
  rw [this,fE];rfl
 by_cases h2:L.length<2
 ·refine KS.nP pl.isList (by omega) ?_
  obtain ⟨e,he⟩:=sortedAll_at s.heap its its.toArray;have fr:H (s.heap.objs.size+1)=none:=I.hok.fresh (mK _);refine ⟨.ref (s.heap.objs.size+1),_,I.laid (t':=s.toks) (λb o hb=>sortedAll_old hb) (mK _) (o:= .lst (L.map λe=>V.ref e.1)) ⟨by rw [aP];omega,its,e,r,he⟩,rfl,q _ L fr (.refl _) ?_⟩
  match L,h2 with
  | [],_=>exact .nil
  | [_],_=>exact List.pairwise_singleton _ _
 ·have tup:∀e∈L,∀s':Shared,TS.Keeps s s'→∃t u,IsTup s'.heap e.1 [.int (e.2.1:Nat) t, .int (e.2.2:Nat) u].toArray:=λe he s' kp=>by
   obtain ⟨t,u,o,ho,hc,n,hd⟩:=Fp I (hL e he);exact ⟨t,u,o,kp _ _ ho,hc,n,hd⟩
  refine TS.rS (O:=lexOrd) (key:=keyOf L) (S:=λp=>∃e∈L,p=(Value.ref e.1,Value.ref e.1)) (k0:=tuples' true) pl.isList (by omega) (by omega) (λE' s' Q' kp hq=>?_) (λE' s' kp x y st Q' sx sy hk hq=>?_) (λv hv=>?_) λout ub BP=>?_
  ·have go:∀(M:List (Addr×(Nat×Nat))),(∀e∈M,e∈L)→∃fs:List Value,PySem.W.KatTups s'.heap (M.map λe=>Value.ref e.1) fs∧fs.length=M.length∧∀v∈fs,∃i t,v= .int i t:=by
    intro M
    induction M with
    |nil=>exact λ_=>⟨[],PySem.W.KatTups.nil,rfl,λv hv=>by cases hv⟩
    |cons e M ih=>
     intro hM;obtain ⟨fs,a,b,c⟩:=ih λx hx=>hM x (cn _ hx);obtain ⟨t,u,o,ho,hc,n,hd⟩:=tup e (hM e b8) s' kp;refine ⟨.int (e.2.1:Nat) t::fs,PySem.W.KatTups.cons ho hc hd rfl a,by simp [b],λv hv=>?_⟩
     rcases bE.mp hv with z|z
     ·exact ⟨_,_,z⟩
     ·exact c v z
   obtain ⟨fs,kt,kl,ki⟩:=go L λ_ h=>h;rw [ei];refine PySem.W.kat_kind (T:= .type "int") kt (by omega) (λv hv=>by obtain ⟨i,t,rfl⟩:=ki v hv;exact .now) (by decide) ?_
   have hb:(Value.type "int" !=Value.type "tuple")=true:=by decide
   rw [hb];exact hq
  ·obtain ⟨e1,m1,rfl⟩:=sx
   obtain ⟨e2,m2,rfl⟩:=sy;rw [lt'_eq];refine wpS_bind (wpS_get ?_);rw [hk];obtain ⟨t1,t2,k1⟩:=tup e1 m1 s' kp;obtain ⟨u1,u2,k2⟩:=tup e2 m2 s' kp;refine wpS_bind (wpS_lift (wpAny_attempt (KN k1 k2 ⟨rfl,?_⟩)))
   have eb:(if ((e1.2.1:Nat):Int)=((e2.2.1:Nat):Int) then decide (((e1.2.2:Nat):Int)<((e2.2.2:Nat):Int)) else decide (((e1.2.1:Nat):Int)<((e2.2.1:Nat):Int)))=lexOrd.blt (keyOf L (.ref e1.1, .ref e1.1)) (keyOf L (.ref e2.1, .ref e2.1)):=by
    rw [km hL m1,km hL m2];show _=iQ e1.2 e2.2;unfold iQ;simp only [Int.ofNat_inj,Int.ofNat_lt]
   rw [eb];exact wpS_pure hq
  ·rw [ei] at hv
   obtain ⟨e,he,rfl⟩:=bS.mp hv;exact ⟨e,he,rfl⟩
  ·rw [ei,fE] at ub
   obtain ⟨M,mp,em⟩:=iA (λe:Addr×(Nat×Nat)=>((Value.ref e.1,Value.ref e.1):Keyed)) out.toList L ub
   have HC:(out.map (·.2)).toList=M.map λe=>Value.ref e.1:=by
    rw [Array.toList_map,em,fE];rfl
   obtain ⟨c,hc⟩:=sortedAll_at s.heap its (out.map (·.2));have fr:H (s.heap.objs.size+1)=none:=I.hok.fresh (mK _);have OZ:=mp.length_eq;refine ⟨.ref (s.heap.objs.size+1),_,I.laid (t':=s.toks) (λb o hb=>sortedAll_old hb) (mK _) (o:= .lst (M.map λe=>V.ref e.1)) ⟨by rw [aP];omega,(out.map (·.2)).toList,c,?_,by rw [Array.toArray_toList];exact hc⟩,rfl,q _ M fr mp ?_⟩
   ·rw [HC,show (λe:Addr×(Nat×Nat)=>V.ref e.1)=V.ref∘(·.1) from rfl,show (λe:Addr×(Nat×Nat)=>Value.ref e.1)=Value.ref∘(·.1) from rfl,←fE,←fE]
    exact oO _
   ·rw [em,iZ] at BP
    rw [iZ];refine List.Pairwise.imp_of_mem ?_ BP;intro e1 e2 m1 m2 hle;have zU:iQ (keyOf L (.ref e2.1, .ref e2.1)) (keyOf L (.ref e1.1, .ref e1.1))=false:=hle;rw [km hL (mp.mem_iff.mp m1),km hL (mp.mem_iff.mp m2)] at zU;exact uq zU
end
section
open PySem.SeqAt
open PySem.AutoSeq1 (wpAny_loadPart')
open PySem.MeetsSeq PySem.MeetsSeq2 PySem.MeetsSeq3
theorem z5{vs:List Value}{ns:List Int}(h:IntsAre vs ns){i:Nat}{a:Int}(e:ns[i]? =some a):∃t,vs[i]? =some (.int a t):=by
 induction h generalizing i with
 |nil=>simp at e
 |cons b t _ ih=>
  cases i with
  |zero=>simp at e;subst e;exact ⟨t,rfl⟩
  |succ i=>simp at e;obtain ⟨u,hu⟩:=ih e;exact ⟨u,by simpa using hu⟩
theorem Ic(l b:Addr)(items dk:Array Value)(n n2:Nat)(dd xK:Option Addr)(sl uW:Array (Option Value))(ns ms:List Int)(hi:IntsAre items.toList ns)(hj:IntsAre dk.toList ms)(k:Nat):
  ∀i:Nat,items.size-i=k→i≤items.size→i≤dk.size→Meets (Builtin.«list.__eq__.loop» ⟨[.ref l, .ref b,rawInt i,rawInt 0],[]⟩)
   (λA R s=>s.heap.get? l=some {cls:= .type "list",dict:=dd,data:= .seq items n,slots:=sl}∧s.heap.get? b=some {cls:= .type "list",dict:=xK,data:= .seq dk n2,slots:=uW}∧
    R (.ok (.ret (.bool (HT.lexLt (ns.drop i) (ms.drop i))))) s):=by
 have z1:items.size=ns.length:=by rw [←hi.length];simp
 have z2:dk.size=ms.length:=by rw [←hj.length];simp
 induction k with
 |zero=>
  intro i hk h1 h2 prog w A R s h;obtain ⟨hp,g,d,tk,os⟩:=s;obtain ⟨hl,hb,h⟩:=h
  wp_walk using wpAny_loadPart' hl,wpAny_loadPart' hb
  have vK:items[((i:Nat):Int).toNat]? =none:=by simp;omega
  rw [vK];have e1:ns.drop i= []:=vw (by omega)
  rw [e1] at h
  have hv:HT.lexLt [] (ms.drop i)=decide (items.size<dk.size):=by
   by_cases c:i<ms.length
   ·rw [ql c,HT.sD]
    exact (decide_eq_true (by omega)).symm
   ·rw [vw (by omega),HT.ur]
    exact (decide_eq_false (by omega)).symm
  rw [hv] at h
  wp_walk using wpAny_loadPart' hl,wpAny_loadPart' hb
  exact h
 |succ k ih=>
  intro i hk h1 h2 prog w A R s h;obtain ⟨hp,g,d,tk,os⟩:=s;obtain ⟨hl,hb,h⟩:=h
  wp_walk using wpAny_loadPart' hl,wpAny_loadPart' hb
  have bx:i<ns.length:=by omega
  obtain ⟨t,ht⟩:=z5 hi (cK bx);have vK:items[((i:Nat):Int).toNat]? =some (.int ns[i] t):=by rw [kT,←e7];exact ht
  have hc:((i:Int)+1)=((i+1:Nat):Int):=by push_cast;rfl
  rw [vK]
  by_cases c:i<ms.length
  ·obtain ⟨u,hu⟩:=z5 hj (cK c)
   have BJ:dk[((i:Nat):Int).toNat]? =some (.int ms[i] u):=by rw [kT,←e7];exact hu
   rw [BJ];rw [ql bx,ql c,HT.jm] at h;obtain ⟨e,he,ML⟩:=HT.ED A.in1 ⟨hp,g,d,tk,os⟩ ns[i] t ms[i] u;refine wpAny_bind (he prog w _ _ ?_);cases e with
   |true=>
    rw [if_pos (ML.mp rfl)] at h
    wp_walk
    rw [hc]
    exact ⟨plainId_quiet plain_eq_loop _,codeAny_builtin entry_eq_loop (by
     rw [Around.under_plainId plain_eq_loop _];exact ih (i+1) (by omega) (by omega) (by omega) prog w A R _ ⟨hl,hb,h⟩)⟩
   |false=>
    rw [if_neg (λq=>absurd (ML.mpr q) dE)] at h
    wp_walk using wpAny_loadPart' hl,wpAny_loadPart' hb
    rw [vK,BJ];have Zy:=HT.FC A.in1 ⟨hp,g,d,tk,os⟩ ns[i] t ms[i] u prog w
    wp_walk using Zy
    exact h
  ·have BJ:dk[((i:Nat):Int).toNat]? =none:=by simp;omega
   rw [BJ];rw [ql bx,vw (show ms.length≤i by omega),HT.sC] at h
   wp_walk using wpAny_loadPart' hl,wpAny_loadPart' hb
   show R (.ok (.ret (.bool (decide (items.size<dk.size))))) _;rw [decide_eq_false (by omega)]
   exact h
end
section
open PySem.SeqAt
open PySem.AutoSeq1 (wpAny_loadPart')
open PySem.MeetsSeq PySem.MeetsSeq2 PySem.MeetsSeq3
theorem vR(l b:Addr)(items dk:Array Value)(n n2:Nat)(dd xK:Option Addr)(sl uW:Array (Option Value))(ns ms:List Int)(hi:IntsAre items.toList ns)(hj:IntsAre dk.toList ms):
  Meets (Builtin.«list.__lt__» ⟨[.ref l, .ref b],[]⟩)
   (λ_ R s=>s.heap.get? l=some {cls:= .type "list",dict:=dd,data:= .seq items n,slots:=sl}∧s.heap.get? b=some {cls:= .type "list",dict:=xK,data:= .seq dk n2,slots:=uW}∧
    R (.ok (.ret (.bool (HT.lexLt ns ms)))) s):=by
 intro prog w A R s h;obtain ⟨hp,g,d,tk,os⟩:=s;obtain ⟨hl,hb,h⟩:=h;have f3:=AutoSeq1.sub_list_list
 wp_walk using wpAny_loadPart' hl,wpAny_loadPart' hb
 exact ⟨plainId_quiet plain_eq_loop _,codeAny_builtin entry_eq_loop (by
  rw [Around.under_plainId plain_eq_loop _];exact Ic l b items dk n n2 dd xK sl uW ns ms hi hj _ 0 rfl (cZ _) (cZ _) prog w A R _ ⟨hl,hb,h⟩)⟩
end
section
variable {prog:Program} {w:World} {A:Around} {E:Value→Shared→Prop} {s:Shared}
theorem An{l b:Addr}{items dk:Array Value}{ns ms:List Int}{Q:Bool→Shared→Prop}(hl:s.heap.IsList l items)(hb:s.heap.IsList b dk)(hi:IntsAre items.toList ns)(hj:IntsAre dk.toList ms)(hu:A.units<cLine)
  (h:Q (HT.lexLt ns ms) s):wpAny (model prog w) A (oneLt' true (.ref l) (.ref b)) Q E s:=by
 obtain ⟨⟨cls,dd,data,sl⟩,ho,hc,n,hd⟩:=id hl;obtain ⟨⟨Rh,xK,data2,uW⟩,zX,BG,n2,hd2⟩:=id hb;simp only at hc hd BG hd2;subst hc hd BG hd2;rw [oneLt'_eq];simp only [if_true];refine wpAny_bind (wpAny_cRoomFor hu ?_);refine wpAny_bind (wpAny_callSpecialIfBound?_slot ⟨_,ho,rfl⟩ PySem.F.slot_list_lt (call_meets PySem.F.slot_list_lt ⟨_,ho,rfl⟩ PySem.F.entry_list_lt (PySem.F.args_list_lt_2 _ _) (vR l b items dk n n2 dd xK sl uW ns ms hi hj) ⟨ho,zX,?_⟩));exact wpAny_truthy_bool h
end
theorem Ac:∀a:List Int,HT.lexLt a a=false
 | []=>rfl
 |x::xs=>by rw [HT.jm,if_pos rfl];exact Ac xs
theorem yr:∀a b c:List Int,HT.lexLt a b=true→HT.lexLt b c=true→HT.lexLt a c=true
 | [],[],_,h,_=>by cases h
 | [],_::_,[],_,h=>by cases h
 | [],_::_,_::_,_,_=>rfl
 |_::_,[],_,h,_=>by cases h
 |_::_,_::_,[],_,h=>by cases h
 |x::xs,y::ys,z::zs,h1,h2=>by
  rw [HT.jm] at*
  by_cases e1:x=y
  ·rw [if_pos e1] at h1
   by_cases e2:y=z
   ·rw [if_pos e2] at h2
    rw [if_pos (e1.trans e2)];exact yr xs ys zs h1 h2
   ·rw [if_neg e2] at h2
    rw [if_neg (by rw [e1];exact e2),e1];exact h2
  ·rw [if_neg e1] at h1
   have l1:=of_decide_eq_true h1
   by_cases e2:y=z
   ·rw [if_neg (by rw [←e2];exact e1),←e2];exact h1
   ·rw [if_neg e2] at h2
    have l2:=of_decide_eq_true h2;rw [if_neg (by omega)]
    exact decide_eq_true (by omega)
theorem pO:∀a b:List Int,HT.lexLt a b=false→HT.lexLt b a=false→a=b
 | [],[],_,_=>rfl
 | [],_::_,h,_=>by cases h
 |_::_,[],_,h=>by cases h
 |x::xs,y::ys,h1,h2=>by
  rw [HT.jm] at*
  by_cases e:x=y
  ·rw [if_pos e] at h1
   rw [if_pos e.symm] at h2;rw [e,pO xs ys h1 h2]
  ·rw [if_neg e] at h1
   rw [if_neg (λz=>e z.symm)] at h2
   have:=of_decide_eq_false h1
   have:=of_decide_eq_false h2
   omega
theorem HX(a b c:List Int)(h:HT.lexLt a c=true):HT.lexLt a b=true∨HT.lexLt b c=true:=by
 cases e1:HT.lexLt a b with
 |true=>exact .inl rfl
 |false=>
  right
  cases e2:HT.lexLt b a with
  |true=>exact yr _ _ _ e2 h
  |false=>rw [←pO a b e1 e2];exact h
def H0:KeyOrd where
 α:=List Int
 blt:=HT.lexLt
 irrefl:=Ac
 trans:=yr
 negTrans:=HX
 total:=pO
def j1(r:List Nat):List Int:=r.map λ(n:Nat)=>(n:Int)
def jR(a b:List Nat):Prop:=HT.lexLt (j1 b) (j1 a)=false
def JP(H:Hp)(L:List (Addr×List Nat)):Prop:=∀p∈L,H p.1=some (.lst ((j1 p.2).map V.int))
theorem AM{a b:List Nat}(h:(j1 a).map V.int=(j1 b).map V.int):a=b:=by
 unfold j1 at h;rw [fE,fE] at h
 induction a generalizing b with
 |nil=>cases b with
  |nil=>rfl
  |cons y b=>simp at h
 |cons x a ih=>
  cases b with
  |nil=>simp at h
  |cons y b=>
   rw [fD,fD] at h
   injection h with h1 h2
   have SH:V.int (x:Int)=V.int (y:Int):=h1
   injection SH with SH
   rw [ih h2,show x=y by omega]
def ou(L:List (Addr×List Nat))(v:Keyed):List Int:=match v.1 with
 | .ref a=>((L.find? λe=>e.1==a).map λe=>j1 e.2).getD []
 |_=> []
theorem kj{H:Hp}{L:List (Addr×List Nat)}(hL:JP H L){e:Addr×List Nat}(he:e∈L)(v:Value):ou L (.ref e.1,v)=j1 e.2:=by
 unfold ou;dsimp only;cases hf:L.find? λx=>x.1==e.1 with
 |none=>exact absurd (List.find?_eq_none.mp hf e he) (by simp)
 |some x=>
  have hx:=List.mem_of_find?_eq_some hf;have hb:=List.find?_some hf;have e1:x.1=e.1:=by simpa using hb
  have a1:=hL x hx;have a2:=hL e he;rw [e1,a2] at a1
  injection a1 with a1
  injection a1 with a1
  show j1 x.2=j1 e.2;rw [AM a1]
section
variable {X:Cx}
theorem tO(hu:X.A.units+64<cLine):cT X (.builtin "sorted") (λxs H Q=>∃(p:Addr)(L:List (Addr×List Nat)),xs= [.ref p]∧aG X.K H p (L.map λe=>V.ref e.1)∧JP H L∧L.length≤1000∧
  ∀(q:Addr)(M:List (Addr×List Nat)),H q=none→M.Perm L→(M.map (·.2)).Pairwise jR→Q (.ref q) (upd H q (.lst (M.map λe=>V.ref e.1)))):=by
 intro pins s σ H xs us Q I rv h;obtain ⟨p,L,rfl,hp,hL,hz,q⟩:=h;obtain ⟨u,rfl,ru⟩:=rv.one;cases ru;obtain ⟨its,r,pl,_⟩:=I.list hp;have hl:=r.length;rw [aP] at hl;have cG:1000<sizeLine:=by decide
 have ei:its=L.map λe=>Value.ref e.1:=by
  have:=oU (as:=L.map (·.1)) (us:=its) (by rw [fE];exact r)
  rw [this,fE];rfl
 by_cases h2:L.length<2
 ·refine KS.nP pl.isList (by omega) ?_
  obtain ⟨e,he⟩:=sortedAll_at s.heap its its.toArray;have fr:H (s.heap.objs.size+1)=none:=I.hok.fresh (mK _);refine ⟨.ref (s.heap.objs.size+1),_,I.laid (t':=s.toks) (λb o hb=>sortedAll_old hb) (mK _) (o:= .lst (L.map λe=>V.ref e.1)) ⟨by rw [aP];omega,its,e,r,he⟩,rfl,q _ L fr (.refl _) ?_⟩
  match L,h2 with
  | [],_=>exact .nil
  | [_],_=>exact List.pairwise_singleton _ _
 ·have lst:∀e∈L,∀s':Shared,TS.Keeps s s'→∃items:Array Value,s'.heap.IsList e.1 items∧IntsAre items.toList (j1 e.2):=λe he s' kp=>by
   obtain ⟨ZT,r2,p2,_⟩:=I.list (aG.of (hL e he));obtain ⟨o,ho,hc,n,hd⟩:=p2.isList;exact ⟨ZT.toArray,⟨o,kp _ _ ho,hc,n,hd⟩,by simpa using intsAre_of r2⟩
  refine TS.rS (O:=H0) (key:=ou L) (S:=λp=>∃e∈L,p=(Value.ref e.1,Value.ref e.1)) (k0:=oneType') pl.isList (by omega) (by omega) (λE' s' Q' kp hq=>?_) (λE' s' kp x y st Q' sx sy hk hq=>?_) (λv hv=>?_) λout ub BP=>?_
  ·refine PySem.W.kas_kind (T:= .type "list") (by omega) (λv hv=>?_) (by decide) (by decide) hq
   rw [ei] at hv;obtain ⟨e,he,rfl⟩:=bS.mp hv;obtain ⟨items,⟨o,ho,hc,_⟩,_⟩:=lst e he s' kp;rw [←hc];exact (PySem.W.Looks.ld ho).andThen .now
  ·obtain ⟨e1,m1,rfl⟩:=sx
   obtain ⟨e2,m2,rfl⟩:=sy;rw [lt'_eq];refine wpS_bind (wpS_get ?_);rw [hk,keyLt'_oneType];obtain ⟨i1,l1,n1⟩:=lst e1 m1 s' kp;obtain ⟨i2,l2,n2⟩:=lst e2 m2 s' kp;refine wpS_bind (wpS_lift (wpAny_attempt (An l1 l2 n1 n2 ?_ ⟨rfl,?_⟩)))
   ·rw [Around.in1_units,Around.in1_units];omega
   ·have eb:HT.lexLt (j1 e1.2) (j1 e2.2)=H0.blt (ou L (.ref e1.1, .ref e1.1)) (ou L (.ref e2.1, .ref e2.1)):=by
     rw [kj hL m1,kj hL m2];rfl
    rw [eb];exact wpS_pure hq
  ·rw [ei] at hv
   obtain ⟨e,he,rfl⟩:=bS.mp hv;exact ⟨e,he,rfl⟩
  ·rw [ei,fE] at ub
   obtain ⟨M,mp,em⟩:=iA (λe:Addr×List Nat=>((Value.ref e.1,Value.ref e.1):Keyed)) out.toList L ub
   have HC:(out.map (·.2)).toList=M.map λe=>Value.ref e.1:=by
    rw [Array.toList_map,em,fE];rfl
   obtain ⟨c,hc⟩:=sortedAll_at s.heap its (out.map (·.2));have fr:H (s.heap.objs.size+1)=none:=I.hok.fresh (mK _);have OZ:=mp.length_eq;refine ⟨.ref (s.heap.objs.size+1),_,I.laid (t':=s.toks) (λb o hb=>sortedAll_old hb) (mK _) (o:= .lst (M.map λe=>V.ref e.1)) ⟨by rw [aP];omega,(out.map (·.2)).toList,c,?_,by rw [Array.toArray_toList];exact hc⟩,rfl,q _ M fr mp ?_⟩
   ·rw [HC,show (λe:Addr×List Nat=>V.ref e.1)=V.ref∘(·.1) from rfl,show (λe:Addr×List Nat=>Value.ref e.1)=Value.ref∘(·.1) from rfl,←fE,←fE]
    exact oO _
   ·rw [em,iZ] at BP
    rw [iZ];refine List.Pairwise.imp_of_mem ?_ BP;intro e1 e2 m1 m2 hle;have zU:HT.lexLt (ou L (.ref e2.1, .ref e2.1)) (ou L (.ref e1.1, .ref e1.1))=false:=hle;rw [kj hL (mp.mem_iff.mp m1),kj hL (mp.mem_iff.mp m2)] at zU;exact zU
end
end L2
namespace PySem.SetTable
def lj(xs:Array Nat):Prop:=∀i j (hj:j<xs.size),i<j→xs[i]! <xs[j]!
theorem Hf{xs:Array Nat}{i d:Nat}(h:i<xs.size):xs.getD i d=xs[i]! :=by
 simp [Array.getD,h]
theorem t4{xs:Array Nat}(R:lj xs)(j:Nat):∀(fuel lo hi:Nat),hi-lo≤fuel→lo≤hi→hi≤xs.size→(∀i,i<lo→xs[i]! <j)→(∀i,hi≤i→i<xs.size→j≤xs[i]!)→
  lo≤below.go xs j fuel lo hi∧below.go xs j fuel lo hi≤hi∧(∀i,i<below.go xs j fuel lo hi→xs[i]! <j)∧∀i,below.go xs j fuel lo hi≤i→i<xs.size→j≤xs[i]!
 |0,lo,hi,h1,h2,h3,a,b=>by
  have:lo=hi:=by omega
  subst this;rw [below.go];exact ⟨aV _,aV _,a,b⟩
 |fuel+1,lo,hi,h1,h2,h3,a,b=>by
  rw [below.go]
  by_cases c:lo<hi
  ·rw [if_pos c]
   have hm:(lo+hi) / 2<xs.size:=by omega
   dsimp only;rw [Hf hm]
   by_cases d:xs[(lo+hi) / 2]! <j
   ·rw [if_pos d]
    have:=t4 R j fuel ((lo+hi) / 2+1) hi (by omega) (by omega) h3 (λi eW=>by
     by_cases e:i=(lo+hi) / 2
     ·rw [e];exact d
     ·have:=R i ((lo+hi) / 2) hm (by omega);omega) b
    exact ⟨by omega,this.2.1,this.2.2⟩
   ·rw [if_neg d]
    have:=t4 R j fuel lo ((lo+hi) / 2) (by omega) (by omega) (by omega) a (λi h4 h5=>by
     by_cases e:i=(lo+hi) / 2
     ·rw [e];omega
     ·have:=R ((lo+hi) / 2) i h5 (by omega);omega)
    exact ⟨this.1,by omega,this.2.2⟩
  ·rw [if_neg c]
   have:lo=hi:=by omega
   subst this;exact ⟨aV _,aV _,a,b⟩
theorem jf{xs:Array Nat}(R:lj xs)(j:Nat):below xs j≤xs.size∧(∀i,i<below xs j→xs[i]! <j)∧∀i,below xs j≤i→i<xs.size→j≤xs[i]! :=by
 have:=t4 R j xs.size 0 xs.size (by omega) (cZ _) (aV _) (λi h=>by omega) (λi h1 h2=>by omega)
 exact ⟨this.2.1,this.2.2⟩
theorem below_at{xs:Array Nat}(R:lj xs){i j:Nat}(h:xs[i]? =some j):below xs j=i:=by
 obtain ⟨hi,e⟩:=AZ.mp h;have e':xs[i]! =j:=by simp [hi,e]
 obtain ⟨b1,b2,b3⟩:=jf R j;apply Nat.le_antisymm
 ·apply Classical.byContradiction
  intro c
  have:=b2 i (by omega)
  omega
 ·apply Classical.byContradiction
  intro c;have h1:=b3 (below xs j) (aV _) (by omega)
  have h2:=R (below xs j) i hi (by omega)
  omega
theorem oR{t:SetTable}(R:lj t.place){i j:Nat}(h:t.place[i]? =some j):t.slot j= .live i:=by
 unfold slot;rw [below_at R h];simp [h]
theorem AG{t:SetTable}(R:lj t.place)(hd:t.dummies= #[]){j:Nat}(h:∀i:Nat,t.place[i]? ≠some j):t.slot j= .empty:=by
 unfold slot
 have h1:(t.place[below t.place j]? ==some j)=false:=by
  rw [beq_eq_false_iff_ne];exact h _
 dsimp only;rw [if_neg (by rw [h1];exact dE)]
 unfold has;rw [hd];rfl
def lb(mask:Nat)(p:Probe):Probe:=
 if p.more>0 then {p with j:=p.j+1,more:=p.more-1} else
 let (i,perturb):=leap mask p.i p.perturb
 {p with j:=i,more:=runEnd mask i-i,i,perturb}
def bz(mask:Nat)(h:Int):Probe:={j:=bits h%(mask+1),more:=runEnd mask (bits h%(mask+1))-bits h%(mask+1),i:=bits h%(mask+1),perturb:=bits h,dummy:=none}
def oS(mask:Nat)(h:Int):Nat→Probe
 |0=>bz mask h
 |k+1=>lb mask (oS mask h k)
def bD(mask:Nat)(h:Int)(k:Nat):Nat:=(oS mask h k).j
theorem F9(h:Int):bits h<2^64:=by
 unfold bits;have h1:0≤h%(2^64:Int):=Int.emod_nonneg _ (by decide)
 have h2:h%(2^64:Int)<2^64:=Int.emod_lt_of_pos _ (by decide)
 omega
def cY(mask:Nat)(i p:Nat):Nat→Nat×Nat
 |0=>(i,p)
 |r+1=>leap mask (cY mask i p r).1 (cY mask i p r).2
theorem jA(mask i p:Nat):∀r,(cY mask i p r).2=p / 32^r
 |0=>by simp [cY]
 |r+1=>by
  show (cY mask i p r).2 / 32=_;rw [jA mask i p r,Nat.div_div_eq_div_mul,Nat.pow_succ]
def KW(mask:Nat)(i:Nat):Nat:=(i*5+1)%(mask+1)
def jj(mask:Nat)(i:Nat):Nat→Nat
 |0=>i
 |r+1=>KW mask (jj mask i r)
theorem jP(mask i:Nat)(a:Nat):∀b,jj mask i (a+b)=jj mask (jj mask i a) b
 |0=>rfl
 |b+1=>by
  show KW mask (jj mask i (a+b))=_;rw [jP mask i a b];rfl
theorem qX{mask i p r0:Nat}(h:(cY mask i p r0).2=0):∀r,cY mask i p (r0+r)=(jj mask (cY mask i p r0).1 r,0)
 |0=>by rw [Nat.add_zero,jj];exact Prod.ext rfl h
 |r+1=>by
  show leap mask (cY mask i p (r0+r)).1 (cY mask i p (r0+r)).2=_;rw [qX h r];unfold leap;simp [jj,KW]
def si(mask:Nat):Prop:=mask=7∨mask=31∨mask=127∨mask=511
def PU(mask:Nat):Nat→Nat→List Nat
 |_,0=> []
 |i,n+1=>i::PU mask (KW mask i) n
theorem Aj{mask s:Nat}:∀{i n:Nat},s∈PU mask i n→∃r,r<n∧jj mask i r=s
 |i,0,h=>by cases h
 |i,n+1,h=>by
  rcases bE.mp h with rfl|h
  ·exact ⟨0,by omega,rfl⟩
  ·obtain ⟨r,hr,e⟩:=Aj h
   refine ⟨r+1,by omega,?_⟩
   have:=jP mask i 1 r
   rw [show 1+r=r+1 by omega] at this
   rw [this];exact e
theorem PV{mask:Nat}(h:si mask):(∀s,s≤mask→∃r,r≤mask∧jj mask 0 r=s)∧jj mask 0 (mask+1)=0:=by
 have key:∀m,(List.range (m+1)).all (λs=>(PU m 0 (m+1)).contains s)=true→∀s,s≤m→∃r,r≤m∧jj m 0 r=s:=λm hm s hs=>by
  have:=List.all_eq_true.mp hm s (gw.mpr (by omega))
  obtain ⟨r,hr,e⟩:=Aj (List.contains_iff_mem.mp this);exact ⟨r,by omega,e⟩
 rcases h with rfl|rfl|rfl|rfl
 ·exact ⟨key 7 (by decide+kernel),by decide+kernel⟩
 ·exact ⟨key 31 (by decide+kernel),by decide+kernel⟩
 ·exact ⟨key 127 (by decide+kernel),by decide+kernel⟩
 ·exact ⟨key 511 (by decide+kernel),by decide+kernel⟩
theorem cover{mask:Nat}(h:si mask){i s:Nat}(hi:i≤mask)(hs:s≤mask):∃r,r≤mask∧jj mask i r=s:=by
 obtain ⟨o,per⟩:=PV h;obtain ⟨a,ha,rfl⟩:=o i hi;obtain ⟨b,hb,rfl⟩:=o s hs
 by_cases c:a≤b
 ·refine ⟨b-a,by omega,?_⟩
  rw [←jP,show a+(b-a)=b by omega]
 ·refine ⟨mask+1-a+b,by omega,?_⟩
  rw [←jP,show a+(mask+1-a+b)=mask+1+b by omega,jP,per]
def bV(mask:Nat)(p:Probe):Nat→Probe
 |0=>p
 |k+1=>lb mask (bV mask p k)
theorem jH(mask:Nat)(p:Probe)(a:Nat):∀b,bV mask p (a+b)=bV mask (bV mask p a) b
 |0=>rfl
 |b+1=>by
  show lb mask (bV mask p (a+b))=_;rw [jH mask p a b];rfl
theorem kJ(mask:Nat)(h:Int):∀k,oS mask h k=bV mask (bz mask h) k
 |0=>rfl
 |k+1=>by
  show lb mask _=lb mask _;rw [kJ mask h k]
theorem qx(mask:Nat)(p:Probe):∀c,c≤p.more→bV mask p c={p with j:=p.j+c,more:=p.more-c}
 |0,_=>rfl
 |c+1,hc=>by
  show lb mask (bV mask p c)=_;rw [qx mask p c (by omega)]
  unfold lb;rw [if_pos (by show p.more-c>0;omega)]
  show ({p with j:=p.j+c+1,more:=p.more-c-1}:Probe)={p with j:=p.j+(c+1),more:=p.more-(c+1)}
  rw [show p.more-c-1=p.more-(c+1) by omega,show p.j+c+1=p.j+(c+1) by omega]
def LV(mask:Nat)(p:Probe)(ip:Nat×Nat):Probe:={p with j:=ip.1,more:=runEnd mask ip.1-ip.1,i:=ip.1,perturb:=ip.2}
theorem more_le(mask i:Nat):runEnd mask i-i≤9:=by
 unfold runEnd
 split<;>omega
theorem n0(mask:Nat)(p:Probe):bV mask p (p.more+1)=LV mask p (leap mask p.i p.perturb):=by
 show lb mask (bV mask p p.more)=_;rw [qx mask p p.more (aV _)];unfold lb;rw [if_neg (by show ¬p.more-p.more>0;omega)]
 rfl
theorem tD(mask:Nat)(p:Probe):∀r,∃k,k≤p.more+1+10*r∧bV mask p k=LV mask p (cY mask p.i p.perturb (r+1))
 |0=>⟨p.more+1,by omega,n0 mask p⟩
 |r+1=>by
  obtain ⟨k,hk,e⟩:=tD mask p r;have h9:=more_le mask (cY mask p.i p.perturb (r+1)).1;refine ⟨k+((runEnd mask (cY mask p.i p.perturb (r+1)).1-(cY mask p.i p.perturb (r+1)).1)+1),by omega,?_⟩
  rw [jH,e];exact n0 mask (LV mask p (cY mask p.i p.perturb (r+1)))
theorem Az(mask i p:Nat)(r:Nat):(cY mask i p (r+1)).1≤mask:=by
 show (((cY mask i p r).1*5+1+(cY mask i p r).2 / 32)%(mask+1))≤mask
 have:=Nat.mod_lt ((cY mask i p r).1*5+1+(cY mask i p r).2 / 32) (show 0<mask+1 by omega)
 omega
theorem DX{mask i:Nat}(h:i≤mask):i+(runEnd mask i-i)≤mask:=by
 unfold runEnd
 split<;>omega
structure qv (mask:Nat) (p:Probe):Prop where
 le:p.j+p.more≤mask
 more:p.more≤9
 per:p.perturb<2^64
 dum:p.dummy=none
theorem qv.lb{mask:Nat}{p:Probe}(o:qv mask p):qv mask (lb mask p):=by
 unfold SetTable.lb
 split
 ·next h=>exact ⟨by show p.j+1+(p.more-1)≤mask;have:=o.le;omega,by show p.more-1≤9;have:=o.more;omega,o.per,o.dum⟩
 ·refine ⟨DX (by have:=Nat.mod_lt (p.i*5+1+p.perturb / 32) (show 0<mask+1 by omega);show (p.i*5+1+p.perturb / 32)%(mask+1)≤mask;omega),more_le _ _,?_,o.dum⟩
  show p.perturb / 32<2^64
  have:=o.per
  omega
theorem qv.start(mask:Nat)(h:Int):qv mask (bz mask h):=⟨DX (mask:=mask) (i:=bits h%(mask+1)) (by have:=Nat.mod_lt (bits h) (show 0<mask+1 by omega);omega),more_le _ _,F9 h,rfl⟩
theorem qv.bV{mask:Nat}{p:Probe}(o:qv mask p):∀k,qv mask (bV mask p k)
 |0=>o
 |k+1=>(o.bV k).lb
theorem meets{mask:Nat}(f:si mask){p:Probe}(o:qv mask p){s:Nat}(hs:s≤mask):∃k,k<10*turns mask∧(bV mask p k).j=s:=by
 have z:(cY mask p.i p.perturb 13).2=0:=by
  rw [jA];exact Nat.div_eq_of_lt (gB o.per (by decide))
 obtain ⟨r,hr,e⟩:=cover f (Az mask p.i p.perturb 12) hs;obtain ⟨k,hk,e2⟩:=tD mask p (12+r);refine ⟨k,?_,?_⟩
 ·have:=o.more
  unfold turns;omega
 ·rw [e2]
  show (cY mask p.i p.perturb (12+r+1)).1=s;rw [show 12+r+1=13+r by omega,qX z]
  exact e
theorem wV{t:SetTable}(R:lj t.place)(hd:t.dummies= #[])(hashAt:Nat→Int)(h:Int):∀(K fuel:Nat)(p:Probe),p.dummy=none→K<fuel→(∀i:Nat,t.place[i]? ≠some (bV t.mask p K).j)→
  ∃k0,k0≤K∧(∀k',k'<k0→∃i:Nat,t.place[i]? =some (bV t.mask p k').j∧hashAt i≠h)∧
   (((∀i:Nat,t.place[i]? ≠some (bV t.mask p k0).j)∧probe.go t hashAt h fuel p=some (.empty (bV t.mask p k0).j none))∨
    (∃i:Nat,t.place[i]? =some (bV t.mask p k0).j∧hashAt i=h∧probe.go t hashAt h fuel p=some (.candidate (bV t.mask p k0).j i (bV t.mask p (k0+1)))))
 |K,0,p,_,hK,_=>by omega
 |K,fuel+1,p,dn,hK,he=>by
  by_cases c:∃i:Nat,t.place[i]? =some p.j
  ·obtain ⟨i,hi⟩:=c
   have sl:=oR R hi
   by_cases c2:hashAt i=h
   ·refine ⟨0,cZ _,λk' h'=>by omega, .inr ⟨i,hi,c2,?_⟩⟩
    rw [probe.go,sl];dsimp only;rw [if_pos (by simpa using c2)]
    rfl
   ·cases K with
    |zero=>exact absurd hi (he i)
    |succ K=>
     have Ye:(lb t.mask p).dummy=none:=by
      unfold lb
      split<;>exact dn
     have e1:∀k,bV t.mask (lb t.mask p) k=bV t.mask p (k+1):=λk=>by
      have:=jH t.mask p 1 k
      rw [show 1+k=k+1 by omega] at this
      exact this.symm
     obtain ⟨k0,sv,a,b⟩:=wV R hd hashAt h K fuel (lb t.mask p) Ye (by omega) (by rw [e1];exact he)
     have eg:probe.go t hashAt h (fuel+1) p=probe.go t hashAt h fuel (lb t.mask p):=by
      rw [probe.go,sl];dsimp only;rw [if_neg (by simpa using c2)]
      rfl
     refine ⟨k0+1,by omega,λk' h'=>?_,?_⟩
     ·cases k' with
      |zero=>exact ⟨i,hi,c2⟩
      |succ k'=>
       have:=a k' (by omega)
       rw [e1] at this;exact this
     ·rw [e1,e1] at b
      rw [eg];exact b
  ·have c:∀i:Nat,t.place[i]? ≠some p.j:=λi hi=>c ⟨i,hi⟩
   refine ⟨0,cZ _,λk' h'=>by omega, .inl ⟨c,?_⟩⟩
   rw [probe.go,AG R hd c];dsimp only;rw [dn];rfl
structure TOk (t:SetTable) (hs:List Int):Prop where
 few:si t.mask
 dum:t.dummies= #[]
 rise:lj t.place
 size:t.place.size=hs.length
 le:∀(i j:Nat),t.place[i]? =some j→j≤t.mask
 room:t.place.size≤t.mask
 path:∀(i:Nat)(h:Int),hs[i]? =some h→∃k,t.place[i]? =some (bD t.mask h k)∧∀k',k'<k→∃i':Nat,t.place[i']? =some (bD t.mask h k')
theorem yT(mask:Nat)(h:Int)(k:Nat):bD mask h k≤mask:=by
 unfold bD;rw [kJ]
 have:=((qv.start mask h).bV k).le
 omega
theorem TOk.empty{t:SetTable}{hs:List Int}(T:TOk t hs):∃s,s≤t.mask∧∀i:Nat,t.place[i]? ≠some s:=by
 apply Classical.byContradiction;intro c
 have all:∀s∈List.range (t.mask+1),s∈t.place.toList:=λs hs=>by
  apply Classical.byContradiction;intro n;refine c ⟨s,by have:=gw.mp hs;omega,λi hi=>n ?_⟩
  rw [←e7] at hi;exact di hi
 have:=Wb.aT List.nodup_range all
 rw [vz,cg] at this
 have:=T.room
 omega
theorem TOk.probe{t:SetTable}{hs:List Int}(T:TOk t hs)(hashAt:Nat→Int)(h:Int)(k:Nat):
  ∃k0,k≤k0∧(∀k',k≤k'→k'<k0→∃i:Nat,t.place[i]? =some (bD t.mask h k')∧hashAt i≠h)∧
   (((∀i:Nat,t.place[i]? ≠some (bD t.mask h k0))∧t.probe hashAt h (oS t.mask h k)=some (.empty (bD t.mask h k0) none))∨
    (∃i:Nat,t.place[i]? =some (bD t.mask h k0)∧hashAt i=h∧t.probe hashAt h (oS t.mask h k)=some (.candidate (bD t.mask h k0) i (oS t.mask h (k0+1))))):=by
 obtain ⟨s,fg,he⟩:=T.empty;have o:=(qv.start t.mask h).bV k;rw [←kJ] at o;obtain ⟨K,hK,eK⟩:=meets T.few o fg;have e1:∀c,bV t.mask (oS t.mask h k) c=oS t.mask h (k+c):=λc=>by rw [kJ,kJ,←jH]
 obtain ⟨k0,h0,a,b⟩:=wV T.rise T.dum hashAt h K (10*turns t.mask) (oS t.mask h k) o.dum hK (by rw [eK];exact he)
 refine ⟨k+k0,by omega,λk' h1 h2=>?_,?_⟩
 ·have:=a (k'-k) (by omega)
  rw [e1,show k+(k'-k)=k' by omega] at this
  exact this
 ·rw [e1,e1] at b
  exact b
theorem jy{α:Type}{xs:Array α}{p:Nat}(x:α)(hp:p≤xs.size)(i:Nat):(insertAt xs p x)[i]? =if i<p then xs[i]? else if i=p then some x else xs[i-1]? :=by
 rw [←e7,SetTable.toList_insertAt];have lt:(xs.toList.take p).length=p:=by rw [jt,cg];omega
 by_cases c:i<p
 ·rw [if_pos c,j2 (by omega),Ee c,e7]
 ·rw [if_neg c]
  by_cases d:i=p
  ·subst d
   rw [if_pos rfl,jr (by omega),lt,qs];rfl
  ·rw [if_neg d,jr (by omega),lt]
   obtain ⟨m,hm⟩:∃m,i-p=m+1:=⟨i-p-1,by omega⟩
   rw [hm,qm,xk,e7]
   congr 1;omega
theorem gf{α:Type}(xs:Array α)(p:Nat)(x:α):(insertAt xs p x).size=xs.size+1:=by
 rw [←cg,(SetTable.insertAt_perm xs p x).length_eq];simp
theorem iF{xs:Array Nat}{i j:Nat}(h:xs[i]? =some j):xs[i]! =j:=by
 obtain ⟨hi,e⟩:=AZ.mp h;simp [hi,e]
theorem FD{xs:Array Nat}(R:lj xs){j:Nat}(h:∀i:Nat,xs[i]? ≠some j):lj (insertAt xs (below xs j) j):=by
 obtain ⟨b1,b2,b3⟩:=jf R j;have g:=jy (xs:=xs) j b1;intro a b hb ES;rw [gf] at hb
 have val:∀i,i<xs.size+1→∃v,(insertAt xs (below xs j) j)[i]? =some v∧((i<below xs j∧xs[i]? =some v)∨(i=below xs j∧v=j)∨(below xs j<i∧xs[i-1]? =some v)):=λi hi=>by
  rw [g i]
  by_cases c:i<below xs j
  ·rw [if_pos c,xg (by omega)]
   exact ⟨_,rfl, .inl ⟨c,rfl⟩⟩
  ·rw [if_neg c]
   by_cases d:i=below xs j
   ·rw [if_pos d];exact ⟨j,rfl, .inr (.inl ⟨d,rfl⟩)⟩
   ·rw [if_neg d,xg (by omega)]
    exact ⟨_,rfl, .inr (.inr ⟨by omega,rfl⟩)⟩
 obtain ⟨va,ha,ca⟩:=val a (by omega)
 obtain ⟨vb,BE,cb⟩:=val b (by omega)
 rw [iF ha,iF BE];have lo:∀i v,i<below xs j→xs[i]? =some v→v<j:=λi v h1 h2=>by have:=b2 i h1;rw [iF h2] at this;exact this
 have hi:∀i v,below xs j≤i→xs[i]? =some v→j<v:=λi v h1 h2=>by
  have:=b3 i h1 (AZ.mp h2).1
  rw [iF h2] at this
  have:v≠j:=λz=>h i (by rw [h2,z])
  omega
 have mid:∀i k v u,xs[i]? =some v→xs[k]? =some u→i<k→v<u:=λi k v u h1 h2 h3=>by
  have:=R i k (AZ.mp h2).1 h3
  rw [iF h1,iF h2] at this;exact this
 rcases ca with ⟨a1,a2⟩ | ⟨a1,rfl⟩ | ⟨a1,a2⟩
 ·rcases cb with ⟨c1,c2⟩ | ⟨c1,rfl⟩ | ⟨c1,c2⟩
  ·exact mid _ _ _ _ a2 c2 ES
  ·exact lo _ _ a1 a2
  ·have:=lo _ _ a1 a2;have:=hi (b-1) _ (by omega) c2;omega
 ·rcases cb with ⟨c1,c2⟩ | ⟨c1,rfl⟩ | ⟨c1,c2⟩
  ·omega
  ·omega
  ·exact hi (b-1) _ (by omega) c2
 ·rcases cb with ⟨c1,c2⟩ | ⟨c1,rfl⟩ | ⟨c1,c2⟩
  ·omega
  ·omega
  ·exact mid _ _ _ _ a2 c2 (by omega)
theorem I0{xs:Array Nat}(R:lj xs){j s:Nat}:(∃i:Nat,(insertAt xs (below xs j) j)[i]? =some s)↔s=j∨∃i:Nat,xs[i]? =some s:=by
 obtain ⟨b1,_,_⟩:=jf R j;have g:=jy (xs:=xs) j b1
 constructor
 ·rintro ⟨i,h⟩
  rw [g i] at h
  split at h
  ·exact .inr ⟨i,h⟩
  ·split at h
   ·exact .inl (Option.some.inj h).symm
   ·exact .inr ⟨_,h⟩
 ·rintro (rfl| ⟨i,h⟩)
  ·exact ⟨below xs s,by rw [g,if_neg (by omega),if_pos rfl]⟩
  ·by_cases c:i<below xs j
   ·exact ⟨i,by rw [g,if_pos c];exact h⟩
   ·exact ⟨i+1,by rw [g,if_neg (by omega),if_neg (by omega)];exact h⟩
theorem TOk.put{t:SetTable}{hs:List Int}(T:TOk t hs){h:Int}{k:Nat}(he:∀i:Nat,t.place[i]? ≠some (bD t.mask h k))(hp:∀k',k'<k→∃i:Nat,t.place[i]? =some (bD t.mask h k'))(room:t.place.size+1≤t.mask):
  (t.put (bD t.mask h k)).2=below t.place (bD t.mask h k)∧below t.place (bD t.mask h k)≤hs.length∧
  TOk (t.put (bD t.mask h k)).1 (hs.take (below t.place (bD t.mask h k))++h::hs.drop (below t.place (bD t.mask h k))):=by
 obtain ⟨b1,b2,b3⟩:=jf T.rise (bD t.mask h k);have g:=jy (xs:=t.place) (bD t.mask h k) b1;have sz:=T.size;have pm:=λs=>I0 (s:=s) (j:=bD t.mask h k) T.rise;refine ⟨rfl,by omega,T.few,?_,FD T.rise he,?_,?_,?_,?_⟩
 ·show (if has t.dummies _=true then _ else t.dummies)= #[]
  rw [T.dum];rfl
 ·show (insertAt t.place _ _).size=_
  rw [gf,dX,jt,cv,sg];omega
 ·intro i j hj
  have hj:(insertAt t.place (below t.place (bD t.mask h k)) (bD t.mask h k))[i]? =some j:=hj
  rcases (pm j).mp ⟨i,hj⟩ with rfl| ⟨i',h'⟩
  ·exact yT _ _ _
  ·exact T.le _ _ h'
 ·show (insertAt t.place _ _).size≤_
  rw [gf];exact room
 ·intro i h' hi
  show ∃k1,(insertAt t.place (below t.place (bD t.mask h k)) (bD t.mask h k))[i]? =some (bD t.mask h' k1)∧∀k',k'<k1→∃i':Nat,(insertAt t.place (below t.place (bD t.mask h k)) (bD t.mask h k))[i']? =some (bD t.mask h' k');have lt:(hs.take (below t.place (bD t.mask h k))).length=below t.place (bD t.mask h k):=by rw [jt];omega
  by_cases c:i<below t.place (bD t.mask h k)
  ·rw [j2 (by omega),Ee c] at hi
   obtain ⟨k1,e1,e2⟩:=T.path i h' hi;exact ⟨k1,by rw [g,if_pos c];exact e1,λk' gd=>(pm _).mpr (.inr (e2 k' gd))⟩
  ·rw [jr (by omega),lt] at hi
   by_cases d:i=below t.place (bD t.mask h k)
   ·rw [d,qs] at hi
    cases (Option.some.inj hi);exact ⟨k,by rw [d,g,if_neg (by omega),if_pos rfl],λk' gd=>(pm _).mpr (.inr (hp k' gd))⟩
   ·obtain ⟨m,hm⟩:∃m,i-below t.place (bD t.mask h k)=m+1:=⟨i-below t.place (bD t.mask h k)-1,by omega⟩
    rw [hm,qm,xk] at hi;obtain ⟨k1,e1,e2⟩:=T.path _ h' hi;refine ⟨k1,?_,λk' gd=>(pm _).mpr (.inr (e2 k' gd))⟩;rw [g,if_neg c,if_neg d,show i-1=below t.place (bD t.mask h k)+m by omega]
    exact e1
theorem rM(mask i p:Nat):∀r,cY mask i p (r+1)=cY mask (leap mask i p).1 (leap mask i p).2 r
 |0=>rfl
 |r+1=>by
  show leap mask (cY mask i p (r+1)).1 (cY mask i p (r+1)).2=_;rw [rM mask i p r];rfl
def Own(o:Array (Option Nat))(s:Nat):Prop:=(o.getD s (some 0)).isNone=false
theorem tX{mask:Nat}(owner:Array (Option Nat)):∀(fuel:Nat)(p:Probe),p.j=p.i→p.more=runEnd mask p.i-p.i→p.i≤runEnd mask p.i→(∃r,r<fuel∧¬Own owner (cY mask p.i p.perturb r).1)→
  ∃k0,layClean.free mask owner fuel p.i p.perturb=some (bV mask p k0).j∧¬Own owner (bV mask p k0).j∧∀k',k'<k0→Own owner (bV mask p k').j
 |0,p,_,_,_,⟨r,hr,_⟩=>by omega
 |fuel+1,p,e1,e2,e3,⟨r,hr,he⟩=>by
  have run:∀c,c≤p.more→(bV mask p c).j=p.i+c:=λc hc=>by rw [qx mask p c hc];show p.j+c=_;rw [e1]
  cases hf:(List.range (runEnd mask p.i+1-p.i)).find? λk=>(owner.getD (p.i+k) (some 0)).isNone with
  |some k=>
   obtain ⟨h1,as,bs,h2,h3⟩:=List.find?_eq_some_iff_append.mp hf;have hk:k<runEnd mask p.i+1-p.i:=gw.mp (by rw [h2];simp)
   have las:as.length=k:=by
    have hl:as.length<(List.range (runEnd mask p.i+1-p.i)).length:=by rw [h2];simp
    have:=A6 (n:=runEnd mask p.i+1-p.i) (i:=as.length) (by simpa using hl)
    rw [h2,jr (aV _),qs] at this;exact (Option.some.inj this).symm
   refine ⟨k,?_,?_,λk' gd=>?_⟩
   ·rw [layClean.free,hf,run k (by omega)]
   ·rw [run k (by omega)]
    unfold Own;rw [h1];exact Bool.noConfusion
   ·rw [run k' (by omega)]
    have hm:k'∈as:=by
     have:=A6 (n:=runEnd mask p.i+1-p.i) (i:=k') (by omega)
     rw [h2,j2 (by omega)] at this
     exact di this
    have:=h3 k' hm
    unfold Own;exact Bool.not_eq_true' _▸this
  |none=>
   have all:=List.find?_eq_none.mp hf
   have own:∀c,c≤p.more→Own owner (p.i+c):=λc hc=>by
    have:=all c (gw.mpr (by omega))
    unfold Own;exact A8.mpr this
   cases r with
   |zero=>exact absurd (own 0 (cZ _)) he
   |succ r=>
    have lp:=n0 mask p
    obtain ⟨k0,a,b,c⟩:=tX owner fuel (LV mask p (leap mask p.i p.perturb)) rfl rfl (by
     show (leap mask p.i p.perturb).1≤runEnd mask (leap mask p.i p.perturb).1;unfold runEnd;split<;>omega) ⟨r,by omega,by rw [rM] at he;exact he⟩
    rw [←lp] at a b c;have e4:∀k,bV mask (bV mask p (p.more+1)) k=bV mask p (p.more+1+k):=λk=>(jH mask p (p.more+1) k).symm;refine ⟨p.more+1+k0,?_,?_,λk' gd=>?_⟩
    ·rw [layClean.free,hf,←e4,←a,lp];rfl
    ·rw [←e4];exact b
    ·by_cases d:k'≤p.more
     ·rw [run k' d];exact own k' d
     ·have:=c (k'-(p.more+1)) (by omega)
      rw [e4,show p.more+1+(k'-(p.more+1))=k' by omega] at this
      exact this
structure Laid (mask:Nat) (hs:List Int) (owner:Array (Option Nat)) (ss:List Nat):Prop where
 size:owner.size=mask+1
 len:ss.length=hs.length
 nd:ss.Nodup
 le:∀s∈ss,s≤mask
 get:∀s,s≤mask→∀k,owner.getD s (some 0)=some k↔ss[k]? =some s
 path:∀(k:Nat)(h:Int),hs[k]? =some h→∃c,ss[k]? =some (bD mask h c)∧∀c',c'<c→bD mask h c'∈ss
theorem Laid.own{mask:Nat}{hs:List Int}{owner:Array (Option Nat)}{ss:List Nat}(L:Laid mask hs owner ss){s:Nat}(h:s≤mask):Own owner s↔s∈ss:=by
 unfold Own
 constructor
 ·intro e
  cases o:owner.getD s (some 0) with
  |none=>rw [o] at e;cases e
  |some k=>exact di ((L.get s h k).mp o)
 ·intro e
  obtain ⟨k,hk⟩:=gz e;rw [(L.get s h k).mpr hk];rfl
theorem BZ{mask:Nat}(f:si mask){hs:List Int}{owner:Array (Option Nat)}{ss:List Nat}(L:Laid mask hs owner ss)(room:hs.length≤mask)(h:Int):
  ∃j,layClean.free mask owner (turns mask) (bits h%(mask+1)) (bits h)=some j∧Laid mask (hs++ [h]) (owner.setIfInBounds j (some hs.length)) (ss++ [j]):=by
 have o:=qv.start mask h
 obtain ⟨s,E4,qD⟩:∃s,s≤mask∧s∉ss:=by
  apply Classical.byContradiction;intro c
  have all:∀s∈List.range (mask+1),s∈ss:=λs hs=>by
   apply Classical.byContradiction;intro n;exact c ⟨s,by have:=gw.mp hs;omega,n⟩
  have:=Wb.aT List.nodup_range all
  rw [vz,L.len] at this;omega
 have z:(cY mask (bz mask h).i (bz mask h).perturb 13).2=0:=by
  rw [jA];exact Nat.div_eq_of_lt (gB o.per (by decide))
 obtain ⟨r,hr,e⟩:=cover f (Az mask (bz mask h).i (bz mask h).perturb 12) E4
 have hi:(bz mask h).i≤mask:=by
  have:=Nat.mod_lt (bits h) (show 0<mask+1 by omega)
  show bits h%(mask+1)≤mask;omega
 obtain ⟨k0,a,b,c⟩:=tX owner (turns mask) (bz mask h) rfl rfl (by unfold runEnd;split<;>omega) ⟨13+r,by unfold turns;omega,by
  rw [qX z];show ¬Own owner (jj mask _ r);rw [e,L.own E4];exact qD⟩
 have sl:∀k,(bV mask (bz mask h) k).j=bD mask h k:=λk=>by unfold bD;rw [kJ]
 rw [sl] at a b;have hle:=yT mask h k0;rw [L.own hle] at b;refine ⟨bD mask h k0,a,?_,?_,?_,?_,?_,?_⟩
 ·rw [Array.size_setIfInBounds];exact L.size
 ·rw [dX,dX,L.len];rfl
 ·exact b7.mpr ⟨L.nd,by simp,λx hx y hy z=>b (by rw [←bN.mp hy,←z];exact hx)⟩
 ·intro x hx
  rcases b9.mp hx with hx|hx
  ·exact L.le x hx
  ·rw [bN.mp hx];exact hle
 ·intro x hx k
  have e1:(owner.setIfInBounds (bD mask h k0) (some hs.length)).getD x (some 0)=if bD mask h k0=x then some hs.length else owner.getD x (some 0):=by
   rw [AY,AY,Array.getElem?_setIfInBounds]
   by_cases d:bD mask h k0=x
   ·rw [if_pos d,if_pos d,if_pos (by rw [L.size];omega)];rfl
   ·rw [if_neg d,if_neg d]
  rw [e1]
  by_cases d:bD mask h k0=x
  ·rw [if_pos d]
   constructor
   ·intro e
    cases (Option.some.inj e);rw [←L.len,jr (aV _),qs,←d];rfl
   ·intro e
    by_cases q:k<ss.length
    ·rw [j2 q] at e
     exact absurd (by rw [d];exact di e) b
    ·have:k<(ss++ [bD mask h k0]).length:=(cu.mp e).1
     rw [dX] at this
     have:k<ss.length+1:=this
     rw [show k=ss.length by omega,L.len]
  ·rw [if_neg d,L.get x hx k]
   constructor
   ·intro e
    rw [j2 (cu.mp e).1];exact e
   ·intro e
    by_cases q:k<ss.length
    ·rw [j2 q] at e;exact e
    ·have:k<(ss++ [bD mask h k0]).length:=(cu.mp e).1
     rw [dX] at this
     have:k<ss.length+1:=this
     rw [show k=ss.length by omega,jr (aV _),qs] at e
     exact absurd (Option.some.inj e) d
 ·intro k h' hk
  by_cases q:k<hs.length
  ·rw [j2 q] at hk
   obtain ⟨c1,e1,e2⟩:=L.path k h' hk;exact ⟨c1,by rw [j2 (by rw [L.len];exact q)];exact e1,λc' pG=>fj _ (e2 c' pG)⟩
  ·have:k<(hs++ [h]).length:=(cu.mp hk).1
   rw [dX] at this
   have:k<hs.length+1:=this
   have ek:k=hs.length:=by omega
   subst ek;rw [jr (aV _),qs] at hk;cases (Option.some.inj hk);refine ⟨k0,by rw [←L.len,jr (aV _),qs];rfl,λc' pG=>fj _ ?_⟩
   have:=c c' pG
   rw [sl] at this;exact (L.own (yT _ _ _)).mp this
theorem B0(mask:Nat):Laid mask [] (Array.replicate (mask+1) none) [] where
 size:=by simp
 len:=rfl
 nd:=ju
 le:=λs h=>by cases h
 get:=λs hs k=>by
  rw [AY,Array.getElem?_replicate,if_pos (by omega)]
  simp
 path:=λk h e=>by cases e
def wG(mask:Nat)(acc:Option (Array (Option Nat)×Nat))(h:Int):Option (Array (Option Nat)×Nat):=do
 let (owner,k) ←acc
 let j ←layClean.free mask owner (turns mask) (bits h%(mask+1)) (bits h)
 pure (owner.setIfInBounds j (some k),k+1)
theorem wH{mask:Nat}(f:si mask):∀(rest done:List Int)(owner:Array (Option Nat))(ss:List Nat),Laid mask done owner ss→done.length+rest.length≤mask+1→
  ∃pU Qe,rest.foldl (wG mask) (some (owner,done.length))=some (pU,done.length+rest.length)∧Laid mask (done++rest) pU Qe
 | [],done,owner,ss,L,_=>⟨owner,ss,rfl,by rw [j4];exact L⟩
 |h::rest,done,owner,ss,L,hl=>by
  rw [cv] at hl;obtain ⟨j,e,L'⟩:=BZ f L (by omega) h
  have ef:wG mask (some (owner,done.length)) h=some (owner.setIfInBounds j (some done.length),done.length+1):=by
   unfold wG;simp [e]
  obtain ⟨pU,Qe,e2,L2⟩:=wH f rest (done++ [h]) _ _ L' (by rw [dX];show done.length+1+rest.length≤_;omega)
  refine ⟨pU,Qe,?_,by rw [kU] at L2;exact L2⟩
  rw [List.foldl_cons,ef];rw [dX] at e2;have e2:rest.foldl (wG mask) (some (owner.setIfInBounds j (some done.length),done.length+1))=some (pU,done.length+1+rest.length):=e2;rw [e2,cv]
  congr 2;omega
theorem yn{mask:Nat}(f:si mask)(hs:List Int)(room:hs.length≤mask+1):∃owner ss,layClean mask hs.toArray=some owner∧Laid mask hs owner ss:=by
 obtain ⟨owner,ss,e,L⟩:=wH f hs [] _ _ (B0 mask) (by simpa using room)
 refine ⟨owner,ss,?_,by simpa using L⟩
 have:layClean mask hs.toArray=(hs.foldl (wG mask) (some (Array.replicate (mask+1) none,0))).map (·.1):=by
  unfold layClean;rw [List.foldl_toArray];rfl
 have e:hs.foldl (wG mask) (some (Array.replicate (mask+1) none,0))=some (owner,[].length+hs.length):=e;rw [this,e];rfl
def cW(mask:Nat)(owner:Array (Option Nat)):List (Nat×Nat):=(List.range (mask+1)).filterMap λj=>(owner.getD j none).map (j,·)
theorem Ff{mask:Nat}{hs:List Int}{owner:Array (Option Nat)}{ss:List Nat}(L:Laid mask hs owner ss){j k:Nat}:(j,k)∈cW mask owner↔ss[k]? =some j:=by
 unfold cW;rw [List.mem_filterMap]
 have dflt:∀s,s≤mask→owner.getD s none=owner.getD s (some 0):=λs hs=>by
  rw [AY,AY,xg (by rw [L.size];omega)];rfl
 constructor
 ·rintro ⟨s,fg,e⟩
  have fg:=gw.mp fg;rw [dflt s (by omega)] at e
  cases o:owner.getD s (some 0) with
  |none=>rw [o] at e;cases e
  |some k'=>
   rw [o] at e;have e:=Option.some.inj e;have e1:s=j:=(Prod.mk.inj e).1;have e2:k'=k:=(Prod.mk.inj e).2;rw [←e1,←e2];exact (L.get s (by omega) k').mp o
 ·intro e
  have hj:=L.le j (di e);refine ⟨j,gw.mpr (by omega),?_⟩
  rw [dflt j hj,(L.get j hj k).mpr e];rfl
theorem B5(mask:Nat)(owner:Array (Option Nat)):((cW mask owner).map (·.1)).Pairwise (·<·):=by
 unfold cW;rw [iZ,List.pairwise_filterMap];refine List.pairwise_lt_range.imp λ {a b} h x hx y hy=>?_;cases oa:owner.getD a none with
 |none=>rw [oa] at hx;cases hx
 |some ka=>
  cases ob:owner.getD b none with
  |none=>rw [ob] at hy;cases hy
  |some kb=>
   rw [oa] at hx;rw [ob] at hy;cases (Option.some.inj hx);cases (Option.some.inj hy);exact h
theorem HU{mask:Nat}(f:si mask)(hs:List Int)(room:hs.length≤mask)(finger moves:Nat)(led plain:Bool):
  ∃t order,laid mask finger moves led plain hs.toArray=some (t,order)∧t.mask=mask∧t.led=led∧t.plain=plain∧t.moves=moves∧order.toList.Perm (List.range hs.length)∧TOk t (order.toList.map λk=>hs.getD k 0):=by
 obtain ⟨owner,ss,e,L⟩:=yn f hs (by omega)
 have lm:=λ {j k:Nat}=>Ff (j:=j) (k:=k) L;have ri:=B5 mask owner
 have nz:((cW mask owner).map (·.2)).Nodup:=by
  rw [rY,iZ];rw [iZ] at ri;refine ri.imp_of_mem λ {a b} ha hb ES z=>?_;obtain ⟨aj,ak⟩:=a;obtain ⟨bj,bk⟩:=b;have h1:=lm.mp ha;have h2:=lm.mp hb;have z:ak=bk:=z;rw [z,h2] at h1
  have:=Option.some.inj h1
  have ES:aj<bj:=ES;omega
 have perm:((cW mask owner).map (·.2)).Perm (List.range hs.length):=by
  refine (mG nz List.nodup_range).mpr λk=>?_;rw [bS,gw]
  constructor
  ·rintro ⟨⟨j,k'⟩,h,rfl⟩
   have:=(cu.mp (lm.mp h)).1
   rw [L.len] at this;exact this
  ·intro hk
   have gd:k<ss.length:=by rw [L.len];exact hk
   exact ⟨(ss[k],k),lm.mpr (cK gd),rfl⟩
 have ll:(cW mask owner).length=hs.length:=by
  have:=perm.length_eq
  simpa using this
 refine ⟨{mask,place:=((cW mask owner).map (·.1)).toArray,dummies:= #[],finger,led,moves,plain},((cW mask owner).map (·.2)).toArray,?_,rfl,rfl,rfl,rfl,by simpa using perm,?_⟩
 ·unfold laid
  rw [e];rfl
 have IQ:∀(i j:Nat),((cW mask owner).map (·.1)).toArray[i]? =some j↔∃k,(cW mask owner)[i]? =some (j,k):=λi j=>by
  rw [List.getElem?_toArray,ck];cases o:(cW mask owner)[i]? with
  |none=>simp
  |some x=>
   obtain ⟨a,b⟩:=x;simp
 have ZS:∀s,s∈ss→∃i:Nat,((cW mask owner).map (·.1)).toArray[i]? =some s:=λs fg=>by
  obtain ⟨k,hk⟩:=gz fg;obtain ⟨i,hi⟩:=gz (lm.mpr hk);exact ⟨i,(IQ i s).mpr ⟨k,hi⟩⟩
 refine ⟨f,rfl,?_,?_,?_,?_,?_⟩
 ·intro a b hb ES
  have hb:b<((cW mask owner).map (·.1)).length:=by simpa using hb
  have:=vv.mp ri a b (by omega) hb ES
  simp [show a<(cW mask owner).length by simpa using (show a<((cW mask owner).map (·.1)).length by omega),show b<(cW mask owner).length by simpa using hb]
  simpa using this
 ·simp
 ·intro i j h
  obtain ⟨k,hk⟩:=(IQ i j).mp h;exact L.le j (di (lm.mp (di hk)))
 ·show ((cW mask owner).map (·.1)).toArray.size≤mask
  simp [ll];exact room
 ·intro i h' hi
  rw [ck] at hi;cases o:(cW mask owner)[i]? with
  |none=>
   have:(((cW mask owner).map (·.2)).toArray.toList)[i]? =none:=by simp [o]
   rw [this] at hi;cases hi
  |some x=>
   obtain ⟨j,k⟩:=x;have e1:(((cW mask owner).map (·.2)).toArray.toList)[i]? =some k:=by simp [o]
   rw [e1] at hi;have sk:=lm.mp (di o);have hk:k<hs.length:=by rw [←L.len];exact (cu.mp sk).1
   have eh:hs[k]? =some h':=by
    rw [←Option.some.inj hi];show _=some (hs.getD k 0);rw [fW,cK hk];rfl
   obtain ⟨c,p1,p2⟩:=L.path k h' eh;rw [sk] at p1;refine ⟨c,(IQ i _).mpr ⟨k,by rw [o,Option.some.inj p1]⟩,λc' pG=>ZS _ (p2 c' pG)⟩
end PySem.SetTable
namespace PySem
open SetTable PyProof.Rows
def fF(w:World):Bool:=w.params.followText "set-order"
structure kL (bt:Bool) (o:Obj) (es:Array (Int×Value)) (ep:Nat) (t:SetTable):Prop where
 ex:o.ExactSet
 dat:o.data= .set es ep t
 tok:TOk t (es.toList.map (·.1))
 pl:t.plain=true
 ld:t.led= !bt
 few:5*es.size<3*t.mask
theorem TOk.fits{t:SetTable}{hs:List Int}(T:TOk t hs):t.fits hs.length=true:=by
 simp only [SetTable.fits,SetTable.fill,T.dum,T.size,xq,beq_iff_eq,decide_eq_true_eq,true_and]
 have:=T.room
 rw [T.size] at this;simpa using this
theorem kL.fits{w:Bool}{o:Obj}{es:Array (Int×Value)}{ep:Nat}{t:SetTable}(S:kL w o es ep t):t.fits es.size=true:=by
 have:=TOk.fits S.tok
 simpa using this
theorem EF{mask n:Nat}(f:si mask)(h:5*n<3*mask):n+1≤mask:=by
 rcases f with rfl|rfl|rfl|rfl<;>omega
theorem BA{mask n:Nat}(f:si mask)(h1:3*mask≤5*n)(h2:5*(n-1)<3*mask)(h3:n≤306):si (sizeAbove (grown n)-1)∧5*n<3*(sizeAbove (grown n)-1)∧n≤sizeAbove (grown n)-1∧sizeAbove (grown n)≤512:=by
 rcases f with rfl|rfl|rfl|rfl
 ·have:n=5:=by omega
  subst this;exact ⟨.inr (.inl rfl),by decide,by decide,by decide⟩
 ·have:n=19:=by omega
  subst this;exact ⟨.inr (.inr (.inl rfl)),by decide,by decide,by decide⟩
 ·have:n=77:=by omega
  subst this;exact ⟨.inr (.inr (.inr rfl)),by decide,by decide,by decide⟩
 ·omega
theorem Cz{t:SetTable}{es:Array (Int×Value)}(T:TOk t (es.toList.map (·.1)))(full:t.tooFull=true)(near:5*(es.size-1)<3*t.mask)(small:es.size≤306):
  ∃t' order,t.relaid (es.map (·.1)) (grown es.size)=some (t',order)∧order.toList.Perm (List.range es.size)∧(order.filterMap (es[·]?)).toList.Perm es.toList∧(order.filterMap (es[·]?)).size=es.size∧
   TOk t' ((order.filterMap (es[·]?)).toList.map (·.1))∧t'.plain=t.plain∧t'.led=t.led∧5*es.size<3*t'.mask∧sizeAbove (grown es.size)≤512:=by
 have sz:t.place.size=es.size:=by rw [T.size];simp
 have f1:3*t.mask≤5*es.size:=by
  unfold SetTable.tooFull SetTable.fill at full;rw [T.dum,sz] at full;simp at full;omega
 obtain ⟨g1,g2,g3,g4⟩:=BA T.few f1 near small;obtain ⟨t',order,e,em,el,ep,_,pm,tk⟩:=HU g1 (es.toList.map (·.1)) (by simpa using g3) t.finger (t.movedTo (sizeAbove (grown es.size)-1)) t.led t.plain
 rw [aP,cg] at pm
 have pf:(order.filterMap (es[·]?)).toList.Perm es.toList:=by
  rw [Array.toList_filterMap];exact (pm.filterMap _).trans (by rw [filterMap_getElem?_range])
 have sf:(order.filterMap (es[·]?)).size=es.size:=by rw [←cg,pf.length_eq,cg]
 refine ⟨t',order,?_,pm,pf,sf,?_,ep,el,by rw [em];exact g2,g4⟩
 ·unfold SetTable.relaid
  rw [show es.map (·.1)=(es.toList.map (·.1)).toArray by apply Array.toList_inj.mp;simp]
  exact e
 ·have:(order.filterMap (es[·]?)).toList.map (·.1)=order.toList.map λk=>(es.toList.map (·.1)).getD k 0:=by
   rw [Array.toList_filterMap];have lt:∀k∈order.toList,k<es.size:=λk hk=>gw.mp (pm.mem_iff.mp hk);generalize order.toList=l at lt
   induction l with
   |nil=>rfl
   |cons k l ih=>
    have hk:=lt k (b8 ..);rw [List.filterMap_cons_some (b:=es[k]) (by simp [hk]),fD,fD,ih λj hj=>lt j (cn _ hj)]
    simp [hk]
  rw [this];exact tk
end PySem
set_option maxHeartbeats 1000000
namespace PySem
open SetTable PyProof.Rows
section
variable {prog:Program} {w:World} {A:Around} {E:Value→Shared→Prop} {s:Shared}
theorem rQ{h:Heap}{a:Addr}{o:Obj}{es:Array (Int×Value)}{ep:Nat}{t:SetTable}(ho:h.get? a=some o)(hd:o.data= .set es ep t)(ke:Array (Int×Value))(t':SetTable):
  (h.update a (Obj.putSet ke t')).get? a=some {o with data:= .set ke (ep+1) t'}:=by
 have:=Heap.get?_update_self (Obj.putSet ke t') ho (by rw [putSet_of ke t' hd];rfl)
 rw [putSet_of ke t' hd] at this;exact this
theorem tP{Q₁:Value→Shared→Prop}
  (h:Q₁ (.ref s.heap.objs.size) {s with heap:=s.heap.push {cls:= .type "set",dict:=none,data:= .set #[] 0 (.fresh 0 0 (!fF w))}}):
  codeAny (model prog w) A (.call (.builtin "set.__new__") ⟨[.type "set"],[]⟩) (wants Q₁ E) s:=by
 refine codeAny_of_tree ?_;show wpAny _ A.in1 (do checkBuiltinCall "set.__new__" ⟨[.type "set"],[]⟩;again (.builtin "set.__new__" ⟨[.type "set"],[]⟩)) _ _ s
 refine wpAny_bind (wpAny_of_eq F.newCall_set_0 (wpAny_pure ⟨plainId_quiet F.plain_set_new _,codeAny_builtin F.entry_set_new ?_⟩));rw [Around.under_plainId F.plain_set_new _];unfold Builtin.«set.__new__» Builtin.Frozenset.newClass;have TX:=sub_set_self;obtain ⟨hp,g,d,tk,os⟩:=s;dsimp only
 wp_walk
 refine wpAny_askSetting (wpAny_pure ?_);dsimp only;simp only [newObj];refine wpAny_bind (wpAny_alloc (wpAny_pure ?_));exact wpAny_pure h
theorem xG{Q:Value→Shared→Prop}
  (h:Q (.ref s.heap.objs.size) {s with heap:=s.heap.push {cls:= .type "set",dict:=none,data:= .set #[] 0 (.fresh 0 0 (!fF w))}}):
  wpAny (model prog w) A (call (.type "set") []) Q E s:=by
 obtain ⟨c,tl,aaf⟩:=F.called_set.mro;have Zl:=F.called_set.made;have TX:=F.called_set.sub;refine wpAny_call (codeAny_of_tree ?_);show wpAny _ _ (callAny (.type "set") _) _ _ _;refine wpAny_pure ⟨Code.quiet_builtin _ (by decide+kernel),codeAny_builtin F.entry_type_call ?_⟩
 rw [Around.under_plain (weight_type_call_type "set" [] []) rfl];have h1:=F.called_set.notType;have h2:=F.called_set.canCreate;have hct:=F.typeCall_set_0
 repeat (any_goals (first|assumption|wp_step))
 refine codeAny_mono (tP (E:=E) (Q₁:=λobj s₁=>obj= .ref s.heap.objs.size∧s₁={s with heap:=s.heap.push {cls:= .type "set",dict:=none,data:= .set #[] 0 (.fresh 0 0 (!fF w))}}) ⟨rfl,rfl⟩) λr s₁ hr=>?_
 cases r with
 |error e=>exact hr
 |ok fl=>
  cases fl with
  |ret obj=>
   obtain ⟨rfl,rfl⟩:=hr;have hS:(s.heap.push {cls:= .type "set",dict:=none,data:= .set #[] 0 (.fresh 0 0 (!fF w))}).get? s.heap.objs.size=some {cls:= .type "set",dict:=none,data:= .set #[] 0 (.fresh 0 0 (!fF w))}:=Heap.get?_push_size _ rfl;have hT:Shared.TypeIs {s with heap:=s.heap.push {cls:= .type "set",dict:=none,data:= .set #[] 0 (.fresh 0 0 (!fF w))}} (.ref s.heap.objs.size) "set":=⟨_,hS,rfl⟩
   have hli:=F.called_set.init.lookup;have hbi:=F.called_set.init.bind (.ref s.heap.objs.size)
   repeat (any_goals (first|assumption|wp_step))
   refine codeAny_mono (codeAny_call_builtin (R:=wants (λr D7=>r= .none∧Q (.ref s.heap.objs.size) D7) E) F.called_set.init.plain F.entry_set_init (check_set_init hT ?_)) λV3 D7 BR=>?_
   ·unfold Builtin.«set.__init__» noKeywords
    wp_walk
    exact ⟨rfl,h⟩
   ·cases V3 with
    |error e=>exact BR
    |ok Ot=>
     cases Ot with
     |ret r=>
      obtain ⟨rfl,hq⟩:=BR
      repeat (any_goals (first|assumption|wp_step))
     |_=>exact BR.elim
  |_=>exact hr.elim
theorem kL.new(w:World):kL (fF w) {cls:= .type "set",dict:=none,data:= .set #[] 0 (.fresh 0 0 (!fF w))} #[] 0 (.fresh 0 0 (!fF w)) where
 ex:=⟨rfl,rfl,rfl⟩
 dat:=rfl
 tok:=⟨.inl rfl,rfl,λi j hj=>by simp [SetTable.fresh] at hj,rfl,λi j h=>by simp [SetTable.fresh] at h,by simp [SetTable.fresh],λi h e=>by simp at e⟩
 pl:=rfl
 ld:=rfl
 few:=by simp [SetTable.fresh]
end
section
variable {prog:Program} {w:World} {A:Around} {E:Value→Shared→Prop} {s:Shared}
theorem ItemsAre.ints{ks:List Int}{vs:List Value}(h:ItemsAre (intKind prog w) ks vs):∀v∈vs,∃i t,v= .int i t:=by
 induction h with
 |nil=>intro v hv;simp at hv
 | @cons k v' ks vs h1 _ ih=>
  intro v hv
  rcases bE.mp hv with rfl|hv
  ·obtain ⟨t,rfl⟩:=Value.isInt_shape h1
   exact ⟨k,t,rfl⟩
  ·exact ih v hv
theorem mD{ks:List Int}{a:Addr}{Q:Bool→Shared→Prop}(hk:IsTupleKey (intKind prog w) s.heap ks a)(h:Q false s):wpAny (model prog w) A (ofAClassStatement 8 (.ref a)) Q E s:=by
 have hT:=hk.typeIs;obtain ⟨o,items,n,ho,_,hd,hi⟩:=hk;unfold ofAClassStatement;refine wpAny_bind (wpAny_typeOf hT ?_);dsimp only;simp only [beq_self_eq_true, ↓reduceIte];refine wpAny_bind (wpAny_pure ?_);simp only [Bool.not_true,fB, ↓reduceIte];refine wpAny_bind (wpAny_seqItems ho hd ?_);dsimp only;refine wpAny_bind ?_;rw [←Array.forIn_toList];refine wpAny_forIn_list _ (λrest r s'=>r.1=none∧s'=s∧∀v∈rest,∃i t,v=Value.int i t) _ ?_ ?_ _ _ ⟨rfl,rfl,hi.ints⟩
 ·rintro v rest r s' ⟨hr,rfl,ic⟩
  obtain ⟨i,t,rfl⟩:=ic v b8;refine wpAny_bind (wpAny_of_eq (show ofAClassStatement 7 (.int i t)=pure false from by unfold ofAClassStatement;rfl) ?_)
  simp only [fB,if_false];exact wpAny_pure ⟨rfl,rfl,λu O9=>ic u (cn _ O9)⟩
 ·rintro ⟨r1,r2⟩ s' ⟨hr,rfl,_⟩
  simp only at hr;subst hr;exact wpAny_pure h
theorem AV{ks:List Int}{b:Addr}{Q:Bool→Shared→Prop}(hk:IsTupleKey (intKind prog w) s.heap ks b)(stored:List Value)(hs:∀y∈stored,∃k' a,y=Value.ref a∧IsTupleKey (intKind prog w) s.heap k' a)(h:Q false s):
  wpAny (model prog w) A (searchCouldBeSeen (.ref b) stored) Q E s:=by
 unfold searchCouldBeSeen;refine wpAny_bind ?_;refine wpAny_forIn_list _ (λrest r s'=>r.1=none∧s'=s∧∀y∈rest,∃k' a,y=Value.ref a∧IsTupleKey (intKind prog w) s.heap k' a) _ ?_ ?_ _ _ ⟨rfl,rfl,hs⟩
 ·rintro y rest r s' ⟨hr,rfl,ic⟩
  obtain ⟨k',a,rfl,gd⟩:=ic y b8;have tl:∀y∈rest,∃k' a,y=Value.ref a∧IsTupleKey (intKind prog w) s'.heap k' a:=λy hy=>ic y (cn _ hy);have e:(carriedByValue (Value.ref b)&&carriedByValue (Value.ref a))=false:=by simp [carriedByValue]
  dsimp only;rw [e,Bool.or_false]
  by_cases c:(b==a)=true
  ·rw [if_pos c]
   exact wpAny_pure ⟨rfl,rfl,tl⟩
  ·rw [if_neg c]
   refine wpAny_bind (wpAny_eqIsQuiet_tuple hk ?_);simp only [Bool.not_true,fB,if_false];refine wpAny_bind (wpAny_eqIsQuiet_tuple gd ?_);simp only [Bool.not_true,fB,if_false];refine wpAny_bind (mD hk ?_);simp only [fB,if_false];refine wpAny_bind (mD gd ?_);simp only [fB,if_false];exact wpAny_pure ⟨rfl,rfl,tl⟩
 ·rintro ⟨r1,r2⟩ s' ⟨hr,rfl,_⟩
  simp only at hr;subst hr;exact wpAny_pure h
theorem vY{ks:List Int}{a:Addr}{Q:Bool→Shared→Prop}(hk:IsTupleKey (intKind prog w) s.heap ks a)(h:Q true s):wpAny (model prog w) A (hashByValue 8 (.ref a)) Q E s:=by
 have hT:=hk.typeIs;obtain ⟨o,items,n,ho,_,hd,hi⟩:=hk;unfold hashByValue;refine wpAny_bind (wpAny_specialOf hT F.slot_tuple_hash.lookup ?_);dsimp only;refine wpAny_bind (wpAny_seqItems ho hd ?_);refine wpAny_bind ?_;show wpAny _ _ (forIn items _ _) _ _ s;rw [←Array.forIn_toList];refine wpAny_forIn_list _ (λrest r s'=>r.1=none∧s'=s∧∀v∈rest,∃i t,v=Value.int i t) _ ?_ ?_ _ _ ⟨rfl,rfl,hi.ints⟩
 ·rintro v rest r s' ⟨hr,rfl,ic⟩
  obtain ⟨i,t,rfl⟩:=ic v b8;refine wpAny_bind (wpAny_of_eq (show hashByValue 7 (.int i t)=pure true from by unfold hashByValue;rfl) ?_)
  simp only [Bool.not_true,fB,if_false];exact wpAny_pure ⟨rfl,rfl,λu O9=>ic u (cn _ O9)⟩
 ·rintro ⟨r1,r2⟩ s' ⟨hr,rfl,_⟩
  simp only at hr;subst hr;exact wpAny_pure h
def F0(prog:Program)(w:World)(h:Heap)(es:Array (Int×Value)):Prop:=∀(i:Nat)(e:Int×Value),es[i]? =some e→∃k a,e=(tupleKeyHash (intKind prog w) k, .ref a)∧IsTupleKey (intKind prog w) h k a
def Jy(es:Array (Int×Value))(i:Nat):Int:=(es[i]?.map (·.1)).getD 0
theorem G9{m:Nat}(h:si m):m%2=1:=by rcases h with rfl|rfl|rfl|rfl<;>rfl
theorem wY{xs:Array Nat}(R:lj xs){i j v:Nat}(hi:xs[i]? =some v)(hj:xs[j]? =some v):i=j:=by
 rw [←below_at R hi,←below_at R hj]
theorem nS{a:Addr}{o:Obj}{es:Array (Int×Value)}{ep:Nat}{t:SetTable}{b:Addr}{ks:List Int}{e8:Bool}{Q:SetFound→Shared→Prop}(hu:A.units<cLine)(ho:s.heap.get? a=some o)(S:kL (fF w) o es ep t)(P:F0 prog w s.heap es)(hk:IsTupleKey (intKind prog w) s.heap ks b)
  (Kq:(∃(i:Nat)(c:Addr),es[i]? =some (tupleKeyHash (intKind prog w) ks, .ref c)∧IsTupleKey (intKind prog w) s.heap ks c)→∀r:Option Nat,(e8=false→r.isSome=true)→Q (.there r) s)
  (xW:(∀(i:Nat)(e:Int×Value),es[i]? =some e→∀c,e.2= .ref c→¬IsTupleKey (intKind prog w) s.heap ks c)→∀k0,(∀i:Nat,t.place[i]? ≠some (bD t.mask (tupleKeyHash (intKind prog w) ks) k0))→(∀k',k'<k0→∃i:Nat,t.place[i]? =some (bD t.mask (tupleKeyHash (intKind prog w) ks) k'))→
   Q (.free (bD t.mask (tupleKeyHash (intKind prog w) ks) k0) false) s):
  wpAny (model prog w) A (setSearch a (.ref b) (tupleKeyHash (intKind prog w) ks) e8) Q E s:=by
 generalize hh:tupleKeyHash (intKind prog w) ks=h at*;have T:=S.tok;obtain ⟨s0,Zz,Td⟩:=T.empty;obtain ⟨K,hK,eK⟩:=meets T.few (qv.start t.mask h) Zz;have eK:bD t.mask h K=s0:=by unfold bD;rw [kJ];exact eK
 have kb:K<6000:=by
  have:10*turns t.mask≤5260:=by
   rcases T.few with e|e|e|e<;>rw [e]<;>decide
  omega
 have sz:t.place.size=es.size:=by rw [T.size];simp
 have hN:(t.mask%2==0)=false:=by rw [G9 T.few];rfl
 have main:∀(n:Nat)(k:Nat)(fuel:Nat)(u6:Option Probe),K+1-k≤n→n<fuel→k≤K→u6.getD (t.probeStart h)=oS t.mask h k→(∀k',k'<k→∃i:Nat,t.place[i]? =some (bD t.mask h k'))→
   (∀(i:Nat) c,es[i]? =some (h, .ref c)→IsTupleKey (intKind prog w) s.heap ks c→∀kx,t.place[i]? =some (bD t.mask h kx)→k≤kx)→
   wpAny (model prog w) A (setSearchFrom a (.ref b) h e8 fuel u6) Q E s:=by
  intro n
  induction n with
  |zero=>intro k fuel u6 h1 h2 h3;omega
  |succ n ih=>
   intro k fuel u6 h1 h2 h3 h4 h5 h6;obtain ⟨f,rfl⟩:∃f,fuel=f+1:=⟨fuel-1,by omega⟩
   unfold setSearchFrom;refine wpAny_bind (wpAny_setState_of ho S.dat S.fits ?_);dsimp only;unfold SetTable.gaveWay;rw [hN];simp only [fB,if_false]
   have SM:∀(i:Nat)(e:Int×Value),es[i]? =some e→Jy es i=e.1:=λi e hi=>by
    show (es[i]?.map (·.1)).getD 0=e.1;rw [hi];rfl
   generalize hq:t.probe _ h (u6.getD (t.probeStart h))=r;have hq:t.probe (Jy es) h (oS t.mask h k)=r:=by rw [←h4];exact hq
   generalize Jy es=hA at SM hq;obtain ⟨k0,sv,hp,alt⟩:=TOk.probe T hA h k
   have k0K:k0≤K:=by
    apply Classical.byContradiction;intro c;obtain ⟨i,hi,_⟩:=hp K h3 (by omega)
    rw [eK] at hi;exact Td i hi
   have La:∀k',k'<k0→∃i:Nat,t.place[i]? =some (bD t.mask h k'):=λk' h'=>by
    by_cases c:k'<k
    ·exact h5 k' c
    ·obtain ⟨i,hi,_⟩:=hp k' (by omega) h'
     exact ⟨i,hi⟩
   have later:∀(i:Nat) c,es[i]? =some (h, .ref c)→IsTupleKey (intKind prog w) s.heap ks c→∀kx,t.place[i]? =some (bD t.mask h kx)→k0≤kx:=λi c hi hc kx yd=>by
    have Zg:=h6 i c hi hc kx yd;apply Classical.byContradiction;intro z;obtain ⟨i',eW,jw⟩:=hp kx Zg (by omega)
    have:i=i':=wY T.rise yd eW
    subst this;exact jw (SM i _ hi)
   rcases alt with ⟨Hr,ep⟩ | ⟨i,hi,BI,ep⟩
   ·rw [ep] at hq
    subst hq;dsimp only;refine wpAny_pure (xW (λi e hi c hc Tq=>?_) k0 Hr La);obtain ⟨k',a',e1,gd⟩:=P i e hi;subst e1;cases hc
    have:k'=ks:=gd.inj Tq
    subst this;rw [hh] at hi;obtain ⟨ky,T6,ZM⟩:=T.path i h (by rw [ck,e7,hi];rfl)
    have lt:=later i _ hi Tq ky T6
    by_cases c1:k0<ky
    ·obtain ⟨i',eW⟩:=ZM k0 c1
     exact Hr i' eW
    ·have:ky=k0:=by omega
     subst this;exact Hr i T6
   ·rw [ep] at hq
    subst hq;dsimp only
    have Pl:i<es.size:=by
     have:=(AZ.mp hi).1
     omega
    obtain ⟨k',c,e1,gd⟩:=P i es[i] (xg Pl);have ei:es[i]? =some (tupleKeyHash (intKind prog w) k', .ref c):=by rw [xg Pl,e1]
    have rest:wpAny (model prog w) A (match es[i]? with
      |some (fst,y)=>do
       let equal ←holding [y] (eqBool y (Value.ref b))
       let __x ←setState a
       if (e8&&equal)=true then pure (SetFound.there none)
        else
         match __x.2.snd.sameMemory t.moves t.mask with
         |some same=>
          match if same=true then __x.2.snd.slot (bD t.mask h k0) else Slot.empty with
          |Slot.live i'=>
           match __x.fst[i']? with
           |some (fst,y')=>do
            let __do_lift ←isSame y' y
            let u7 ←pure (if __do_lift=true then some i' else none)
            match u7 with
             |none=>do
              rule "set.search.anew"
              setSearchFrom a (Value.ref b) h e8 f none
             |some i'=>
              if equal=true then pure (SetFound.there (some i'))
              else setSearchFrom a (Value.ref b) h e8 f (some (oS t.mask h (k0+1)))
           |none=>do
            let u7 ←pure none
            match u7 with
             |none=>do
              rule "set.search.anew"
              setSearchFrom a (Value.ref b) h e8 f none
             |some i'=>
              if equal=true then pure (SetFound.there (some i'))
              else setSearchFrom a (Value.ref b) h e8 f (some (oS t.mask h (k0+1)))
          |x=>do
           let u7 ←pure none
           match u7 with
            |none=>do
             rule "set.search.anew"
             setSearchFrom a (Value.ref b) h e8 f none
            |some i'=>
             if equal=true then pure (SetFound.there (some i'))
             else setSearchFrom a (Value.ref b) h e8 f (some (oS t.mask h (k0+1)))
         |x=>unsupported "set.changed-during-lookup:is-the-new-block-at-the-old-address"
      |x=>unsupported "internal:set-entry") Q E s:=by
     rw [ei];dsimp only;refine wpAny_bind (wpAny_holding (wpAny_eqBool_tuple hu gd hk ?_));refine wpAny_bind (wpAny_setState_of ho S.dat S.fits ?_);dsimp only;have sm:t.sameMemory t.moves t.mask=some true:=by unfold SetTable.sameMemory;simp
     have jw:k'≠ks→wpAny (model prog w) A (setSearchFrom a (Value.ref b) h e8 f (some (oS t.mask h (k0+1)))) Q E s:=λne=>by
      by_cases kk:k0=K
      ·subst kk
       rw [eK] at hi;exact absurd hi (Td i)
      refine ih (k0+1) f _ (by omega) (by omega) (by omega) rfl (λKI h''=>?_) λi' c' eW pG kx yd=>?_
      ·by_cases z:KI=k0
       ·subst z;exact ⟨i,hi⟩
       ·exact La KI (by omega)
      ·have l1:=later i' c' eW pG kx yd
       have:kx≠k0:=λz=>by
        subst z
        have:i'=i:=wY T.rise yd hi
        subst this;rw [ei] at eW;cases eW;exact ne (gd.inj pG)
       omega
     have there:k'=ks→∀r:Option Nat,(e8=false→r.isSome=true)→Q (.there r) s:=λe=>by
      subst e;rw [hh] at ei;exact Kq ⟨i,c,ei,gd⟩
     by_cases e:k'=ks
     ·rw [decide_eq_true e,Bool.and_true]
      cases e8 with
      |true=>exact wpAny_pure (there e none λz=>absurd z (by decide))
      |false=>
       simp only [fB,if_false];rw [sm];dsimp only;rw [if_pos rfl,oR T.rise hi];dsimp only;rw [ei];dsimp only;refine wpAny_bind (wpAny_isSame_ref_self ?_);refine wpAny_bind (wpAny_pure ?_);simp only [if_true];exact wpAny_pure (there e (some i) λ_=>rfl)
     ·rw [decide_eq_false e,Bool.and_false]
      simp only [fB,if_false];rw [sm];dsimp only;rw [if_pos rfl,oR T.rise hi];dsimp only;rw [ei];dsimp only;refine wpAny_bind (wpAny_isSame_ref_self ?_);refine wpAny_bind (wpAny_pure ?_);simp only [if_true];exact jw e
    by_cases led:(!t.led)=true
    ·rw [if_pos led]
     refine wpAny_bind (AV hk _ (λy hy=>?_) ?_)
     ·obtain ⟨e,he,rfl⟩:=bS.mp hy
      have he:=(Array.mem_filter.mp (Array.mem_toList_iff.mp he)).1;obtain ⟨i',eW,rfl⟩:=Array.mem_iff_getElem.mp he;obtain ⟨KI,c',e1,Tp⟩:=P i' es[i'] (xg eW);exact ⟨KI,c',by rw [e1],Tp⟩
     ·simp only [fB,if_false]
      exact rest
    ·rw [if_neg led]
     exact rest
 refine main (K+1) 0 100000 none (aV _) (by omega) (cZ _) rfl (λk' h'=>by omega) λi c hi hc kx _=>cZ _
end
section
variable {prog:Program} {w:World} {A:Around} {E:Value→Shared→Prop} {s:Shared}
theorem rh(b:Addr)(es:Array (Int×Value)):byScan (.ref b) es=false:=rfl
theorem vX{a:Addr}{o:Obj}{es:Array (Int×Value)}{ep:Nat}{t:SetTable}{b:Addr}{ks:List Int}{Q:Option Nat→Shared→Prop}(hu:A.units<cLine)(ho:s.heap.get? a=some o)(S:kL (fF w) o es ep t)(P:F0 prog w s.heap es)(hk:IsTupleKey (intKind prog w) s.heap ks b)
  (hy:(∃(i:Nat)(c:Addr),es[i]? =some (tupleKeyHash (intKind prog w) ks, .ref c)∧IsTupleKey (intKind prog w) s.heap ks c)→∀r:Option Nat,r.isSome=true→Q r s)
  (hn:(∀(i:Nat)(e:Int×Value),es[i]? =some e→∀c,e.2= .ref c→¬IsTupleKey (intKind prog w) s.heap ks c)→Q none s):
  wpAny (model prog w) A (setFind a (.ref b) (tupleKeyHash (intKind prog w) ks)) Q E s:=by
 unfold setFind setFindIn;refine wpAny_bind (wpAny_setState_of ho S.dat S.fits ?_);dsimp only;rw [rh];simp only [fB,if_false];refine wpAny_bind (nS hu ho S P hk (λh r hr=>?_) λh k0 _ _=>?_)
 ·exact wpAny_pure (hy h r (hr rfl))
 ·exact wpAny_pure (hn h)
theorem y3{a:Addr}{o:Obj}{es:Array (Int×Value)}{ep:Nat}{t:SetTable}{b:Addr}{ks:List Int}{Q:Bool→Shared→Prop}(hu:A.units<cLine)(ho:s.heap.get? a=some o)(S:kL (fF w) o es ep t)(P:F0 prog w s.heap es)(hk:IsTupleKey (intKind prog w) s.heap ks b)(room:es.size≤305)
  (hy:(∃(i:Nat)(c:Addr),es[i]? =some (tupleKeyHash (intKind prog w) ks, .ref c)∧IsTupleKey (intKind prog w) s.heap ks c)→Q false s)
  (hn:(∀(i:Nat)(e:Int×Value),es[i]? =some e→∀c,e.2= .ref c→¬IsTupleKey (intKind prog w) s.heap ks c)→∀h' o' ke xQ t',Heap.SameBut a s.heap h'→h'.get? a=some o'→kL (fF w) o' ke xQ t'→ke.toList.Perm (es.toList++ [(tupleKeyHash (intKind prog w) ks, .ref b)])→Q true {s with heap:=h'}):
  wpAny (model prog w) A (setAddHashed a (.ref b) (tupleKeyHash (intKind prog w) ks)) Q E s:=by
 have hd:=S.dat;have hf:=S.fits;have T:=S.tok;have sz:t.place.size=es.size:=by rw [T.size];simp
 unfold setAddHashed setAddHashedIn;refine wpAny_holding (wpAny_bind (wpAny_setState_of ho hd hf ?_));dsimp only;rw [rh];simp only [fB,if_false];refine wpAny_bind (nS hu ho S P hk (λh r hr=>?_) λh k0 emp La=>?_)
 ·exact wpAny_pure (hy h)
 ·dsimp only
  refine wpAny_bind (wpAny_setState_of ho hd hf ?_);dsimp only;obtain ⟨p1,p2,p3⟩:=TOk.put T emp La (by rw [sz];exact EF T.few S.few)
  rw [p1]
  have e:(SetTable.insertAt es (below t.place (bD t.mask (tupleKeyHash (intKind prog w) ks) k0)) (tupleKeyHash (intKind prog w) ks,Value.ref b)).toList.map (·.1)=(es.toList.map (·.1)).take (below t.place (bD t.mask (tupleKeyHash (intKind prog w) ks) k0))++tupleKeyHash (intKind prog w) ks::(es.toList.map (·.1)).drop (below t.place (bD t.mask (tupleKeyHash (intKind prog w) ks) k0)):=by
   rw [SetTable.toList_insertAt];simp
  rw [←e] at p3;have pl:(t.put (bD t.mask (tupleKeyHash (intKind prog w) ks) k0)).1.plain=true:=S.pl;have ld:(t.put (bD t.mask (tupleKeyHash (intKind prog w) ks) k0)).1.led= !fF w:=S.ld;have mk:(t.put (bD t.mask (tupleKeyHash (intKind prog w) ks) k0)).1.mask=t.mask:=rfl;generalize hx:((tupleKeyHash (intKind prog w) ks,Value.ref b):Int×Value)=x at*;generalize hp:below t.place (bD t.mask (tupleKeyHash (intKind prog w) ks) k0)=p at*;generalize (t.put (bD t.mask (tupleKeyHash (intKind prog w) ks) k0)).1=t1 at*;rw [if_pos pl];refine wpAny_bind (vY hk ?_);simp only [if_true,Bool.not_false,Bool.true_and];have JA:(SetTable.insertAt es p x).size=es.size+1:=SetTable.gf ..;have IT:=SetTable.insertAt_perm es p x;rw [xn] at IT;refine wpAny_bind (wpAny_storeSet_of ho hd ?_ (by rw [JA];refine fits_of_scanBound ?_;show es.size+1<4096;omega))
  have vN:=rQ ho hd (SetTable.insertAt es p x) t1;have V7:=Heap.SameBut.update s.heap a (Obj.putSet (SetTable.insertAt es p x) t1)
  have Yv:t1.fits (SetTable.insertAt es p x).size=true:=by
   have:=TOk.fits p3
   rw [aP,cg] at this;exact this
  by_cases full:t1.tooFull=true
  ·rw [if_pos full]
   obtain ⟨t2,order,eR,_,pf,sf,T2,pl2,l2,f2,V5⟩:=Cz p3 full (by rw [JA,mk];have:=S.few;omega) (by rw [JA];omega)
   rw [JA] at eR f2 V5;refine wpAny_bind ?_;unfold setRelay;refine wpAny_bind (wpAny_setState_of vN rfl Yv ?_);dsimp only;have big:512≤sizeLine:=by decide
   rw [if_neg (by omega),eR]
   have Wx:(order.filterMap ((SetTable.insertAt es p x)[·]?)).size=es.size+1:=by rw [sf,JA]
   refine wpAny_bind (wpAny_of_eq (a:=(order.filterMap ((SetTable.insertAt es p x)[·]?),t2)) ?_ ?_)
   ·show (if ((order.filterMap ((SetTable.insertAt es p x)[·]?)).size !=(SetTable.insertAt es p x).size)=true then _ else pure (order.filterMap ((SetTable.insertAt es p x)[·]?),t2))=_
    rw [if_neg (by rw [sf];simp)]
   ·dsimp only
    refine wpAny_storeSet_of vN rfl ?_ (by rw [Wx];refine fits_of_scanBound ?_;show es.size+1<4096;omega)
    have zX:=rQ vN rfl (order.filterMap ((SetTable.insertAt es p x)[·]?)) t2;exact wpAny_pure (hn h _ _ _ _ t2 (V7.trans (Heap.SameBut.update _ a _)) zX ⟨S.ex,rfl,T2,by rw [pl2];exact pl,by rw [l2];exact ld,by rw [Wx];exact f2⟩ (pf.trans IT))
  ·rw [if_neg full]
   refine wpAny_pure (hn h _ _ _ _ t1 V7 vN ⟨S.ex,rfl,p3,pl,ld,?_⟩ IT);have ff:t1.tooFull=false:=by simpa using full
   unfold SetTable.tooFull SetTable.fill at ff;rw [p3.dum,p3.size] at ff;simp at ff;omega
variable {a b:Addr} {o:Obj} {es:Array (Int×Value)} {ep:Nat} {t:SetTable} {ks:List Int}
open Classical in
noncomputable def lG(prog:Program)(w:World)(h:Heap)(es:Array (Int×Value))(ks:List Int):Bool:=decide (∃(i:Nat)(c:Addr),es[i]? =some (tupleKeyHash (intKind prog w) ks, .ref c)∧IsTupleKey (intKind prog w) h ks c)
theorem Hm(h:∀(i:Nat)(e:Int×Value),es[i]? =some e→∀c,e.2= .ref c→¬IsTupleKey (intKind prog w) s.heap ks c):lG prog w s.heap es ks=false:=by
 classical
 unfold lG;exact decide_eq_false λ⟨i,c,h1,h2⟩=>h i _ h1 c rfl h2
theorem EU(h:∃(i:Nat)(c:Addr),es[i]? =some (tupleKeyHash (intKind prog w) ks, .ref c)∧IsTupleKey (intKind prog w) s.heap ks c):lG prog w s.heap es ks=true:=by
 classical
 unfold lG;exact decide_eq_true h
theorem qj{Q:Bool→Shared→Prop}(hu:A.units+64<cLine)(ho:s.heap.get? a=some o)(S:kL (fF w) o es ep t)(P:F0 prog w s.heap es)(hk:IsTupleKey (intKind prog w) s.heap ks b)
  (h:∀tk,Q (lG prog w s.heap es ks) {s with toks:=tk}):wpAny (model prog w) A (contains (.ref a) (.ref b)) Q E s:=by
 have hT:s.TypeIs (.ref a) "set":=⟨o,ho,S.ex.1⟩;unfold contains
 try with_reducible refine wpAny_holding ?_
 refine wpAny_bind (wpAny_specialOf hT F.slot_set_contains.lookup ?_);show wpAny _ _ (if (some (Value.builtin "set.__contains__")==some Value.none)=true then _ else _) _ E s;rw [if_neg (by rw [beq_builtin_none];exact dE)]
 refine wpAny_bind (wpAny_callSpecialUnlessNone?_slot (name:=Str.ofString "__contains__") hT F.slot_set_contains
  (wpAny_call_entry F.slot_set_contains hT entry_set_contains ?_ (F.args_set_contains_2 _ _)))
 unfold Builtin.«frozenset.__contains__» Builtin.Frozenset.oneOther;simp only [List.isEmpty_nil,bind_assoc];unfold Builtin.Frozenset.addrOf Builtin.Frozenset.withSetAsKey setContains;refine wpAny_bind (wpAny_pure ?_)
 try dsimp only
 refine wpAny_bind (wpAny_pure ?_)
 try dsimp only
 refine wpAny_bind (wpAny_tryCatch ?_);refine wpAny_holding ?_;refine wpAny_bind (wpAny_pyHash_tuple ?_ hk ?_)
 ·show A.units+1<cLine;omega
 refine wpAny_bind (vX (s:={s with toks:=s.toks+(ks.length+1)}) ?_ ho S P hk (λhy r hr=>?_) λhn=>?_)
 ·show A.units+1<cLine;omega
 ·refine wpAny_pure ?_
  show wpAny _ _ (ret (Value.bool r.isSome)) _ _ _;rw [hr]
  have:=h (s.toks+(ks.length+1))
  rw [EU hy] at this;exact wpAny_pure ⟨_,rfl,wpAny_truthy_bool this⟩
 ·refine wpAny_pure ?_
  show wpAny _ _ (ret (Value.bool false)) _ _ _
  have:=h (s.toks+(ks.length+1))
  rw [Hm hn] at this;exact wpAny_pure ⟨_,rfl,wpAny_truthy_bool this⟩
end
end PySem
set_option maxHeartbeats 4000000
namespace L2
open PySem PySem.Spec PyProof.Rows
inductive FV where
 |int (i:Int) |bl (b:Bool)
inductive XD where
 |pY (b:Bool) (ps:List (Int×Int)) |pV (ks:List (Int×Int)) (vs:List FV)
inductive D where
 |aL|bl (b:Bool) |int (i:Int) |str (x:Str) |lst (l:List D) |tup (l:List D) |jb (ns:List Int) |rng (lo hi:Int) |obj (a:Addr) |fV (w:List (List Nat)) |set (b:Bool) (l:List Int) |x (k:XD)
structure DC where
 K:PySem.W.Frag
 C:Addr
def aI(n:Nat):D:= .int n
def aZ(r:List Nat):D:= .lst (r.map aI)
def bJ(w:List (List Nat)):D:= .lst (w.map aZ)
def QB(es:Array (Int×Value))(ns:List Int):Prop:=(∀e∈es.toList,∃k t,e=(hashInt k,Value.int k t))∧ns.Nodup∧∃ms,IntsAre (es.toList.map (·.2)) ms∧ms.Perm ns
def Mb(b:Bool)(a:Addr)(ns:List Int)(h:Heap):Prop:=∃o es ep t,h.get? a=some o∧kL b o es ep t∧QB es ns
def bQ(p:Int×Int):Int:=reduceHash (Builtin.Tuple.tupleHashOf [hashInt p.1,hashInt p.2])
inductive gE (H:Hp):List (Int×Addr)→List (Int×Int)→Prop
 |nil:gE H [] []
 |cons {a:Addr} {p:Int×Int} {es:List (Int×Addr)} {ps:List (Int×Int)}:H a=some (.tup [.int p.1, .int p.2])→gE H es ps→gE H ((bQ p,a)::es) (p::ps)
theorem gE.mono{H H':Hp}(s:aC H H'):∀{es:List (Int×Addr)}{ps:List (Int×Int)},gE H es ps→gE H' es ps
 |_,_, .nil=> .nil
 |_,_, .cons h t=> .cons (s _ _ h) (t.mono s)
def eS(b:Bool)(a:Addr)(es:List (Int×Addr))(h:Heap):Prop:=∃o eA ep t,h.get? a=some o∧kL b o eA ep t∧eA.toList.Perm (es.map λe=>(e.1,Value.ref e.2))
def JO:FV→Value→Prop
 | .int i,v=>∃t,v= .int i t
 | .bl b,v=>v= .bool b
inductive Ef:List DictEntry→List (Int×Addr)→List FV→Prop
 |nil:Ef [] [] []
 |cons {e:DictEntry} {l:List DictEntry} {h:Int} {a:Addr} {v:FV} {es:List (Int×Addr)} {vs:List FV}:e.hash=h→e.key= .ref a→JO v e.val→Ef l es vs→Ef (e::l) ((h,a)::es) (v::vs)
def fZ(a:Addr)(es:List (Int×Addr))(vs:List FV)(h:Heap):Prop:=(a==sysModules)=false∧∃o eA ep,h.get? a=some o∧o.ExactDict∧o.data= .dict eA ep∧Ef eA.toList es vs
def El(H:Hp)(a:Addr)(φ:Heap→Prop):XD→Prop
 | .pY b ps=>ps.Nodup∧∃es,φ=eS b a es∧gE H es ps
 | .pV ks vs=>ks.Nodup∧∃es,φ=fZ a es vs∧gE H es ks
theorem El.mono{H H':Hp}(s:aC H H'){a:Addr}{φ:Heap→Prop}:∀{k:XD},El H a φ k→El H' a φ k
 | .pY _ _,⟨n,es,e,p⟩=>⟨n,es,e,p.mono s⟩
 | .pV _ _,⟨n,es,e,p⟩=>⟨n,es,e,p.mono s⟩
mutual
inductive Dv (Z:DC) (H:Hp):V→D→Prop
 |aL:Dv Z H .aL .aL
 |bl (b:Bool):Dv Z H (.bl b) (.bl b)
 |int (i:Int):Dv Z H (.int i) (.int i)
 |str (x:Str) (h:PyData.strOk x=true):Dv Z H (.str x) (.str x)
 |lst {a:Addr} {xs:List V} {ds:List D}:H a=some (.lst xs)→aq Z H xs ds→Dv Z H (.ref a) (.lst ds)
 |tup {a:Addr} {xs:List V} {ds:List D}:H a=some (.tup xs)→aq Z H xs ds→Dv Z H (.ref a) (.tup ds)
 |obj (a:Addr):Dv Z H (.ref a) (.obj a)
 |rng {a:Addr} {lo hi:Int}:H a=some (.rng lo hi)→Dv Z H (.ref a) (.rng lo hi)
 |jb {a:Addr} {ns:List Int}:aG Z.K H a (ns.map V.int)→ns.length≤63→Dv Z H (.ref a) (.jb ns)
 |fV {p dx R:Addr} {w:List (List Nat)}:H p=some (.ins Z.C dx [("rows", .ref R)])→Dv Z H (.ref R) (bJ w)→Wb.Good w→1≤w.length→w.length≤14→Dv Z H (.ref p) (.fV w)
 |set {a:Addr} {b:Bool} {ns:List Int}:H a=some (.ext (Mb b a ns))→Dv Z H (.ref a) (.set b ns)
 |x {a:Addr} {φ:Heap→Prop} {k:XD}:H a=some (.ext φ)→El H a φ k→Dv Z H (.ref a) (.x k)
inductive aq (Z:DC) (H:Hp):List V→List D→Prop
 |nil:aq Z H [] []
 |cons {v:V} {vs:List V} {d:D} {ds:List D}:Dv Z H v d→aq Z H vs ds→aq Z H (v::vs) (d::ds)
end
theorem aG.mono{K:PySem.W.Frag}{H H':Hp}{a:Addr}{xs:List V}(s:aC H H')(h:aG K H a xs):aG K H' a xs:=by
 rcases h with (h| ⟨o,h⟩) |h
 ·exact .inl (.inl (s _ _ h))
 ·exact .inl (.inr ⟨o,s _ _ h⟩)
 ·exact .inr h
section
variable {Z:DC} {H H' G G':Hp}
theorem Dv.ofInt{v:V}{i:Int}(h:Dv Z H v (.int i)):v= .int i:=by cases h;rfl
theorem Dv.Na{v:V}{b:Bool}(h:Dv Z H v (.bl b)):v= .bl b:=by cases h;rfl
theorem Dv.uB{v:V}{ds:List D}(h:Dv Z H v (.lst ds)):∃a xs,v= .ref a∧H a=some (.lst xs)∧aq Z H xs ds:=by cases h with|lst h e=>exact ⟨_,_,rfl,h,e⟩
theorem Dv.uC{v:V}{ds:List D}(h:Dv Z H v (.tup ds)):∃a xs,v= .ref a∧H a=some (.tup xs)∧aq Z H xs ds:=by cases h with|tup h e=>exact ⟨_,_,rfl,h,e⟩
theorem Dv.yH{v:V}{ns:List Int}(h:Dv Z H v (.jb ns)):∃a,v= .ref a∧aG Z.K H a (ns.map V.int)∧ns.length≤63:=by cases h with|jb h z=>exact ⟨_,rfl,h,z⟩
theorem aq.PL{vs:List V}(h:aq Z H vs []):vs= []:=by cases h;rfl
theorem aq.yG{vs:List V}{d:D}{ds:List D}(h:aq Z H vs (d::ds)):∃v us,vs=v::us∧Dv Z H v d∧aq Z H us ds:=by cases h with|cons a b=>exact ⟨_,_,rfl,a,b⟩
theorem aq.ofOne{vs:List V}{d:D}(h:aq Z H vs [d]):∃v,vs= [v]∧Dv Z H v d:=by
 obtain ⟨v,us,rfl,a,b⟩:=h.yG;rw [b.PL];exact ⟨v,rfl,a⟩
theorem aq.yI{vs:List V}{d e:D}(h:aq Z H vs [d,e]):∃v u,vs= [v,u]∧Dv Z H v d∧Dv Z H u e:=by
 obtain ⟨v,us,rfl,a,b⟩:=h.yG;obtain ⟨u,rfl,c⟩:=b.ofOne;exact ⟨v,u,rfl,a,c⟩
mutual
theorem Dv.mono(s:aC H H'):∀{v:V}{d:D},Dv Z H v d→Dv Z H' v d
 |_,_, .aL=> .aL
 |_,_, .bl b=> .bl b
 |_,_, .int i=> .int i
 |_,_, .str x h=> .str x h
 |_,_, .lst h a=> .lst (s _ _ h) (aq.mono s a)
 |_,_, .tup h a=> .tup (s _ _ h) (aq.mono s a)
 |_,_, .obj a=> .obj a
 |_,_, .rng h=> .rng (s _ _ h)
 |_,_, .jb h z=> .jb (h.mono s) z
 |_,_, .fV h r g a b=> .fV (s _ _ h) (Dv.mono s r) g a b
 |_,_, .set h=> .set (s _ _ h)
 |_,_, .x h k=> .x (s _ _ h) (k.mono s)
theorem aq.mono(s:aC H H'):∀{vs:List V}{ds:List D},aq Z H vs ds→aq Z H' vs ds
 |_,_, .nil=> .nil
 |_,_, .cons a as=> .cons (Dv.mono s a) (aq.mono s as)
end
theorem aq.length:∀{vs:List V}{ds:List D},aq Z H vs ds→vs.length=ds.length
 |_,_, .nil=>rfl
 |_,_, .cons _ as=>congrArg (·+1) as.length
theorem aq.get:∀{vs:List V}{ds:List D}{i:Nat}{d:D},aq Z H vs ds→ds[i]? =some d→∃v,vs[i]? =some v∧Dv Z H v d
 |_,_,_,_, .nil,e=>by simp at e
 |_,_,0,_, .cons a as,e=>by simp at e;subst e;exact ⟨_,rfl,a⟩
 |_,_,i+1,d, .cons a as,e=>by
  obtain ⟨v,h1,h2⟩:=aq.get (i:=i) (d:=d) as (by simpa using e)
  exact ⟨v,by simpa using h1,h2⟩
theorem aq.zR:∀{vs:List V}{ds:List D}{i:Nat}{v:V},aq Z H vs ds→vs[i]? =some v→∃d,ds[i]? =some d∧Dv Z H v d
 |_,_,_,_, .nil,e=>by simp at e
 |_,_,0,_, .cons a as,e=>by simp at e;subst e;exact ⟨_,rfl,a⟩
 |_,_,i+1,d, .cons a as,e=>by
  obtain ⟨v,h1,h2⟩:=aq.zR (i:=i) (v:=d) as (by simpa using e)
  exact ⟨v,by simpa using h1,h2⟩
theorem aq.append:∀{vs us:List V}{ds es:List D},aq Z H vs ds→aq Z H us es→aq Z H (vs++us) (ds++es)
 |_,_,_,_, .nil,b=>b
 |_,_,_,_, .cons a as,b=> .cons a (as.append b)
theorem aq.take:∀{vs:List V}{ds:List D}(n:Nat),aq Z H vs ds→aq Z H (vs.take n) (ds.take n)
 |_,_,0,_=>by simpa using aq.nil
 |_,_,n+1, .nil=>by simpa using aq.nil
 |_,_,n+1, .cons a as=>by simpa using aq.cons a (as.take n)
theorem aq.drop:∀{vs:List V}{ds:List D}(n:Nat),aq Z H vs ds→aq Z H (vs.drop n) (ds.drop n)
 |_,_,0,h=>h
 |_,_,n+1, .nil=>by simpa using aq.nil
 |_,_,n+1, .cons a as=>by simpa using as.drop n
theorem aq.set{v:V}{d:D}(h:Dv Z H v d):∀{vs:List V}{ds:List D}(n:Nat),aq Z H vs ds→aq Z H (vs.set n v) (ds.set n d)
 |_,_,_, .nil=> .nil
 |_,_,0, .cons a as=> .cons h as
 |_,_,n+1, .cons a as=> .cons a (aq.set h n as)
theorem aq.rev:∀{vs:List V}{ds:List D},aq Z H vs ds→aq Z H vs.reverse ds.reverse
 |_,_, .nil=> .nil
 |_,_, .cons a as=>by
  rw [List.reverse_cons,List.reverse_cons];exact as.rev.append (.cons a .nil)
theorem aq.ints:∀(ns:List Int),aq Z H (ns.map V.int) (ns.map D.int)
 | []=> .nil
 |n::ns=> .cons (.int n) (aq.ints ns)
theorem aq.snoc{vs:List V}{ds:List D}{v:V}{d:D}(a:aq Z H vs ds)(b:Dv Z H v d):aq Z H (vs++ [v]) (ds++ [d]):=a.append (.cons b .nil)
structure Ext (G H G' H':Hp):Prop where
 gg:aC G G'
 sub:aC G' H'
 hh:aC H H'
 off:∀b,H b≠none→G b=none→G' b=none
theorem Ext.refl(s:aC G H):Ext G H G H:=⟨.refl _,s, .refl _,λ_ _ h=>h⟩
theorem Ext.trans{G1 H1 G2 H2:Hp}(a:Ext G H G1 H1)(b:Ext G1 H1 G2 H2):Ext G H G2 H2:=
 ⟨a.gg.trans b.gg,b.sub,a.hh.trans b.hh,λx h g=>b.off x (λz=>by
  cases e:H x with
  |none=>exact h e
  |some o=>rw [a.hh x o e] at z;cases z) (a.off x h g)⟩
theorem Ext.new{p:Addr}{o:HO}(s:aC G H)(h:H p=none):Ext G H (upd G p o) (upd H p o):=by
 have hg:G p=none:=s.free h;refine ⟨ay hg o,λb u e=>?_,ay h o,λb hb hg=>?_⟩
 ·by_cases z:b=p
  ·subst z;rw [aa] at e ⊢;exact e
  ·rw [ab z] at e ⊢;exact s b u e
 ·have:b≠p:=λz=>hb (by rw [z];exact h)
  rw [ab this];exact hg
end
abbrev DN:=List (Option D)
structure cX (Z:DC) (G:Hp) (σ:St) (ρ:DN):Prop where
 len:ρ.length=σ.length
 at_:∀(i:Nat)(d:D),ρ[i]? =some (some d)→∃v,σ[i]? =some (some v)∧Dv Z G v d
section
variable {Z:DC} {G G' H H':Hp} {σ:St} {ρ:DN}
theorem cX.mono(e:cX Z G σ ρ)(s:aC G G'):cX Z G' σ ρ:=⟨e.len,λi d h=>let ⟨v,a,b⟩:=e.at_ i d h;⟨v,a,b.mono s⟩⟩
theorem cX.set{i:Nat}{v:V}{d:D}(e:cX Z G σ ρ)(h:Dv Z G v d):cX Z G (σ.set i (some v)) (ρ.set i (some d)):=by
 refine ⟨by rw [fC,fC];exact e.len,λj c hj=>?_⟩
 by_cases z:i=j
 ·subst z
  by_cases hi:i<ρ.length
  ·rw [mH hi] at hj
   cases hj;exact ⟨v,by rw [mH (by rw [←e.len];exact hi)],h⟩
  ·rw [A0 (kW hi)] at hj
   rw [js (kW hi)] at hj;cases hj
 ·rw [r8 z] at hj ⊢
  exact e.at_ j c hj
end
abbrev ba:=DN→(D→Prop)→Prop
abbrev dG:=DN→(Bool→Prop)→Prop
abbrev jv:=DN→(List D→Prop)→Prop
abbrev gY:=D→D→(D→Prop)→Prop
abbrev dJ:=D→DN→(DN→Prop)→Prop
abbrev il:=DN→(List D→Prop)→Prop
def dz(Z:DC)(t:ba):TE:=λσ H Q=>∃(G:Hp)(ρ:DN)(P:D→Prop),aC G H∧cX Z G σ ρ∧t ρ P∧∀d,P d→∀v G' H',Ext G H G' H'→Dv Z G' v d→Q v H'
def liftT(Z:DC)(t:dG):TT:=λσ H Q=>∃(G:Hp)(ρ:DN)(P:Bool→Prop),aC G H∧cX Z G σ ρ∧t ρ P∧∀b,P b→∀G' H',Ext G H G' H'→Q b H'
def B4(Z:DC)(t:jv):TA:=λσ H Q=>∃(G:Hp)(ρ:DN)(P:List D→Prop),aC G H∧cX Z G σ ρ∧t ρ P∧∀ds,P ds→∀vs G' H',Ext G H G' H'→aq Z G' vs ds→Q vs H'
def bX(Z:DC)(r:gY):R2:=λx y H Q=>∃(G:Hp)(a b:D)(P:D→Prop),aC G H∧Dv Z G x a∧Dv Z G y b∧r a b P∧∀d,P d→∀v G' H',Ext G H G' H'→Dv Z G' v d→Q v H'
def lO(Z:DC)(r:List D→(D→Prop)→Prop):List V→Hp→VK→Prop:=λvs H Q=>∃(G:Hp)(ds:List D)(P:D→Prop),aC G H∧aq Z G vs ds∧r ds P∧∀d,P d→∀v G' H',Ext G H G' H'→Dv Z G' v d→Q v H'
abbrev fm:=List D→(D→Prop)→Prop
def aX(Z:DC)(sd:fm):Sp:=λvs H Q _=>lO Z sd vs H Q
def DE(Z:DC)(X:Cx)(e:Expr)(t:ba):Prop:=PE X e (dz Z t)
def DT(Z:DC)(X:Cx)(e:Expr)(t:dG):Prop:=PT X e (liftT Z t)
def DA(Z:DC)(X:Cx)(es:List Expr)(t:jv):Prop:=PA X es (B4 Z t)
theorem PE.imp{X:Cx}{e:Expr}{t t':TE}(h:PE X e t)(f:∀σ H Q,t' σ H Q→t σ H Q):PE X e t':=λpins s σ H Q I q=>h pins s σ H Q I (f _ _ _ q)
theorem PT.imp{X:Cx}{e:Expr}{t t':TT}(h:PT X e t)(f:∀σ H Q,t' σ H Q→t σ H Q):PT X e t':=λpins s σ H Q I q=>h pins s σ H Q I (f _ _ _ q)
theorem PW.imp{X:Cx}{e:Expr}{t t':TT}(h:PW X e t)(f:∀σ H Q,t' σ H Q→t σ H Q):PW X e t':=λwh pins s σ H Q I q=>h wh pins s σ H Q I (f _ _ _ q)
theorem PA.imp{X:Cx}{es:List Expr}{t t':TA}(h:PA X es t)(f:∀σ H Q,t' σ H Q→t σ H Q):PA X es t':=λpos pins s σ H Q I q=>h pos pins s σ H Q I (f _ _ _ q)
theorem OpR.imp{X:Cx}{f:Value→Value→Sem Value}{r r':R2}(h:OpR X f r)(g:∀x y H Q,r' x y H Q→r x y H Q):OpR X f r':=λpins s σ H x y v u Q I a b q=>h pins s σ H x y v u Q I a b (g _ _ _ _ q)
theorem cT.imp{X:Cx}{f:Value}{r r':List V→Hp→VK→Prop}(h:cT X f r)(g:∀xs H Q,r' xs H Q→r xs H Q):cT X f r':=λpins s σ H xs us Q I a q=>h pins s σ H xs us Q I a (g _ _ _ q)
def Dh(i:Nat):ba:=λρ P=>∃d,ρ[i]? =some (some d)∧P d
def dC(d:D):ba:=λ_ P=>P d
section
variable {Z:DC} {X:Cx}
theorem U(i:Nat){x:Str}{pos:Pos}(hN:X.N[i]? =some x:=by rfl)(hv:qw X.env.scope x:=by first|exact Or.inl rfl|exact Or.inr (Or.inl rfl) |exact Or.inr (Or.inr rfl))(hd:(x==("__debug__":Str))=false:=by decide)
  (fH:(x==("__classdict__":Str))=false:=by decide):DE Z X (.Name x pos) (Dh i):=
 (DQ hN hv hd fH).imp λσ H Q ⟨G,ρ,P,s,e,⟨d,hd,p⟩,q⟩=>let ⟨v,hv,dv⟩:=e.at_ i d hd;⟨v,hv,q d p v G H (.refl s) dv⟩
theorem aU{i j pos}:DE Z X (.Constant (.int i) j pos) (dC (.int i)):=aM.imp λσ H Q ⟨G,ρ,P,s,e,p,q⟩=>q _ p _ G H (.refl s) (.int i)
theorem n5{b j pos}:DE Z X (.Constant (.bool b) j pos) (dC (.bl b)):=PX.imp λσ H Q ⟨G,ρ,P,s,e,p,q⟩=>q _ p _ G H (.refl s) (.bl b)
theorem gK{j pos}:DE Z X (.Constant .none j pos) (dC .aL):=Ln.imp λσ H Q ⟨G,ρ,P,s,e,p,q⟩=>q _ p _ G H (.refl s) .aL
theorem pq{x j pos}(h:PyData.strOk x=true:=by decide+kernel):DE Z X (.Constant (.str x) j pos) (dC (.str x)):=Lq.imp λσ H Q ⟨G,ρ,P,s,e,p,q⟩=>q _ p _ G H (.refl s) (.str x h)
theorem Ew{x:Str}{i:Int}{pos:Pos}(hg:Gl X x)(hm:∃tk,X.mg x=some (.int i tk))(hd:(x==("__debug__":Str))=false:=by decide):DE Z X (.Name x pos) (dC (.int i)):=by
 obtain ⟨tk,hm⟩:=hm;exact (IK hg hm (v:= .int i) ⟨tk,rfl⟩ hd).imp λσ H Q ⟨G,ρ,P,s,e,p,q⟩=>q _ p _ G H (.refl s) (.int i)
def Es(r:gY)(ta tb:ba):ba:=λρ P=>ta ρ λa=>tb ρ λb=>r a b P
variable {a b c:Expr} {ta tb tc:ba} {pos:Pos}
theorem yt{r:gY}:∀σ H Q,dz Z (Es r ta tb) σ H Q→y2 (bX Z r) (dz Z ta) (dz Z tb) σ H Q:=by
 rintro σ H Q ⟨G,ρ,P,s,e,h,q⟩;refine ⟨G,ρ,_,s,e,h,λa ha v G1 H1 x1 dv=>?_⟩;refine ⟨G1,ρ,_,x1.sub,e.mono x1.gg,ha,λb hb u G2 H2 x2 du=>?_⟩;exact ⟨G2,a,b,P,x2.sub,dv.mono x2.gg,du,hb,λd hd v' G' H' x3 n6=>q d hd v' G' H' ((x1.trans x2).trans x3) n6⟩
theorem f7{op:Operator}{r:gY}(ho:OpR X (binaryOp op) (bX Z r))(ha:DE Z X a ta)(hb:DE Z X b tb):DE Z X (.BinOp a op b pos) (Es r ta tb):=(bZ ho ha hb).imp yt
theorem sR{op:CmpOp}{r:gY}(ho:OpR X (compareOp op) (bX Z r))(ha:DE Z X a ta)(hb:DE Z X b tb)(hm:behindInMarks op b=false):DE Z X (.Compare a [op] [b] pos) (Es r ta tb):=(As ho ha hb hm).imp yt
def xJ(t:ba):dG:=λρ P=>t ρ λd=>∃k,d= .bl k∧P k
theorem wM{t:ba}:∀σ H Q,liftT Z (xJ t) σ H Q→CM (dz Z t) σ H Q:=by
 rintro σ H Q ⟨G,ρ,P,s,e,h,q⟩;refine ⟨G,ρ,_,s,e,h,?_⟩;rintro _ ⟨k,rfl,p⟩ v G1 H1 x1 dv;cases dv;exact ⟨k,rfl,q k p G1 H1 x1⟩
theorem dj{op:CmpOp}{r:gY}(ho:OpR X (compareOp op) (bX Z r))(ha:DE Z X a ta)(hb:DE Z X b tb)(hm:behindInMarks op b=false):DT Z X (.Compare a [op] [b] pos) (xJ (Es r ta tb)):=
 (gU ho ha hb hm).imp λσ H Q h=>by
  obtain h:=wM σ H Q h;exact yt σ H _ h
def xI(r r':gY)(ta tb tc:ba):ba:=λρ P=>ta ρ λx=>tb ρ λy=>r x y λz=>∃k,z= .bl k∧(if k=true then tc ρ λw'=>r' y w' P else P (.bl false))
theorem uu{r r':gY}:∀σ H Q,dz Z (xI r r' ta tb tc) σ H Q→y1 (bX Z r) (bX Z r') (dz Z ta) (dz Z tb) (dz Z tc) σ H Q:=by
 rintro σ H Q ⟨G,ρ,P,s,e,h,q⟩;refine ⟨G,ρ,_,s,e,h,λa ha v G1 H1 x1 dv=>?_⟩;refine ⟨G1,ρ,_,x1.sub,e.mono x1.gg,ha,λb hb u G2 H2 x2 du=>?_⟩;refine ⟨G2,a,b,_,x2.sub,dv.mono x2.gg,du,hb,?_⟩;rintro _ ⟨k,rfl,hk⟩ v' G3 H3 x3 n6;cases n6;refine ⟨k,rfl,?_⟩;have x:=(x1.trans x2).trans x3;cases k with
 |false=>exact dq (q _ hk _ G3 H3 x (.bl false))
 |true=>
  refine fQ ⟨G3,ρ,_,x3.sub,e.mono x.gg,hk,λc hc w' G4 H4 x4 dw=>?_⟩;exact ⟨G4,b,c,P,x4.sub,(du.mono x3.gg).mono x4.gg,dw,hc,λd hd v'' G' H' x5 d5=>q d hd v'' G' H' ((x.trans x4).trans x5) d5⟩
theorem Et{op oK:CmpOp}{r r':gY}(ho:OpR X (compareOp op) (bX Z r))(jx:OpR X (compareOp oK) (bX Z r'))(ha:DE Z X a ta)(hb:DE Z X b tb)(hc:DE Z X c tc)
  (hm:lastMarks [op,oK] [b,c]=false:=by with_unfolding_all rfl):DE Z X (.Compare a [op,oK] [b,c] pos) (xI r r' ta tb tc):=(Fq ho jx ha hb hc hm).imp uu
theorem EC{op oK:CmpOp}{r r':gY}(ho:OpR X (compareOp op) (bX Z r))(jx:OpR X (compareOp oK) (bX Z r'))(ha:DE Z X a ta)(hb:DE Z X b tb)(hc:DE Z X c tc)
  (hm:lastMarks [op,oK] [b,c]=false:=by with_unfolding_all rfl):DT Z X (.Compare a [op,oK] [b,c] pos) (xJ (xI r r' ta tb tc)):=
 (Fx ho jx ha hb hc hm).imp λσ H Q h=>by
  obtain h:=wM σ H Q h;exact uu σ H _ h
def AN:D→Bool
 | .aL=>false
 | .bl b=>b
 | .int i=>i !=0
 | .str x=>x.length !=0
 | .lst l=>!l.isEmpty
 | .tup l=>!l.isEmpty
 | .jb l=>!l.isEmpty
 | .rng lo hi=>decide (lo<hi)
 | .obj _=>true
 | .fV _=>true
 | .set _ l=>!l.isEmpty
 | .x _=>true
def Ug:D→Bool
 | .bl _=>true
 | .int _=>true
 | .lst _=>true
 | .tup _=>true
 | .aL=>true
 |_=>false
def RN(t:ba):dG:=λρ P=>t ρ λd=>Ug d=true∧P (AN d)
theorem rF{G:Hp}{vs:List V}{ds:List D}(h:aq Z G vs ds):vs.isEmpty=ds.isEmpty:=by cases h<;>rfl
theorem iy(ha:DE Z X a ta)(he:∀whole,isTrue a X.env whole=(do let v ←whole;standAt a.pos;holding [v] (truthy v)):=by intro _;rfl):DT Z X a (RN ta):=by
 refine (Fy ha he).imp ?_;rintro σ H Q ⟨G,ρ,P,s,e,h,q⟩;refine ⟨G,ρ,_,s,e,h,?_⟩;rintro d ⟨hd,p⟩ v G1 H1 x1 dv;refine ⟨AN d,?_,q _ p G1 H1 x1⟩;cases dv with
 |aL=>rfl
 |bl b=>rfl
 |int i=>rfl
 |lst h a=>exact .inl ⟨_,aG.of (x1.sub _ _ h),by rw [rF a];rfl⟩
 |tup h a=>exact .inr (.inl ⟨_,cJ.of (x1.sub _ _ h),by rw [rF a];rfl⟩)
 |_=>cases hd
def Ry(t u:dG):dG:=λρ P=>t ρ λc=>if c=true then u ρ P else P false
def X2(t u:dG):dG:=λρ P=>t ρ λc=>if c=true then P true else u ρ P
def RH(t:dG):dG:=λρ P=>t ρ λc=>P (!c)
variable {tA y0:dG} {rest:List Expr}
def DW(Z:DC)(X:Cx)(e:Expr)(t:dG):Prop:=PW X e (liftT Z t)
theorem DW.dt{e:Expr}{t:dG}(h:DW Z X e t):DT Z X e t:=PW.pt h
theorem GQ(ha:DT Z X a tA):DW Z X (.BoolOp .And [a] pos) tA:=uP ha
theorem Du(ha:DT Z X a tA):DW Z X (.BoolOp .Or [a] pos) tA:=LA ha
theorem Kg(ha:DT Z X a tA)(hb:DW Z X (.BoolOp .And (b::rest) pos) y0):DW Z X (.BoolOp .And (a::b::rest) pos) (Ry tA y0):=by
 refine (yQ ha hb).imp ?_;rintro σ H Q ⟨G,ρ,P,s,e,h,q⟩;refine ⟨G,ρ,_,s,e,h,λc hc G1 H1 x1=>?_⟩;cases c with
 |true=>exact fQ ⟨G1,ρ,P,x1.sub,e.mono x1.gg,hc,λb hb G2 H2 x2=>q b hb G2 H2 (x1.trans x2)⟩
 |false=>exact dq (q _ hc G1 H1 x1)
theorem Bu(ha:DT Z X a tA)(hb:DW Z X (.BoolOp .Or (b::rest) pos) y0):DW Z X (.BoolOp .Or (a::b::rest) pos) (X2 tA y0):=by
 refine (P0 ha hb).imp ?_;rintro σ H Q ⟨G,ρ,P,s,e,h,q⟩;refine ⟨G,ρ,_,s,e,h,λc hc G1 H1 x1=>?_⟩;cases c with
 |false=>exact dq ⟨G1,ρ,P,x1.sub,e.mono x1.gg,hc,λb hb G2 H2 x2=>q b hb G2 H2 (x1.trans x2)⟩
 |true=>exact fQ (q _ hc G1 H1 x1)
theorem j9(ha:DT Z X a tA):DT Z X (.UnaryOp .Not a pos) (RH tA):=by
 refine (DR ha).imp ?_;rintro σ H Q ⟨G,ρ,P,s,e,h,q⟩;exact ⟨G,ρ,_,s,e,h,λc hc G1 H1 x1=>q _ hc G1 H1 x1⟩
def NZ(ta tb:ba):ba:=λρ P=>ta ρ λx=>∃c,x= .bl c∧if c=true then tb ρ P else P (.bl false)
def N4(ta:ba):ba:=λρ P=>ta ρ λx=>∃c,x= .bl c∧P (.bl (!c))
theorem Ka{op}(h:DE Z X a ta):DE Z X (.BoolOp op [a] pos) ta:=Lp h
theorem Dk(ha:DE Z X a ta)(hb:DE Z X (.BoolOp .And (b::rest) pos) tb):DE Z X (.BoolOp .And (a::b::rest) pos) (NZ ta tb):=by
 refine (Lj ha hb).imp ?_;rintro σ H Q ⟨G,ρ,P,s,e,h,q⟩;refine ⟨G,ρ,_,s,e,h,?_⟩;rintro _ ⟨c,rfl,hc⟩ v G1 H1 x1 dv;cases dv;refine ⟨c,rfl,?_⟩;cases c with
 |true=>exact fQ ⟨G1,ρ,P,x1.sub,e.mono x1.gg,hc,λb hb v G2 H2 x2 d2=>q b hb v G2 H2 (x1.trans x2) d2⟩
 |false=>exact dq (q _ hc _ G1 H1 x1 (.bl false))
theorem J9(ha:DE Z X a ta):DE Z X (.UnaryOp .Not a pos) (N4 ta):=by
 refine (Lo ha).imp ?_;rintro σ H Q ⟨G,ρ,P,s,e,h,q⟩;refine ⟨G,ρ,_,s,e,h,?_⟩;rintro _ ⟨c,rfl,hc⟩ v G1 H1 x1 dv;cases dv;exact ⟨c,rfl,q _ hc _ G1 H1 x1 (.bl _)⟩
def zE:jv:=λ_ P=>P []
def Gi(ta:ba)(t:jv):jv:=λρ P=>ta ρ λx=>t ρ λxs=>P (x::xs)
variable {es:List Expr} {t:jv} {e:Expr}
theorem ax:DA Z X [] zE:=ar.imp λσ H Q ⟨G,ρ,P,s,e,p,q⟩=>q _ p _ G H (.refl s) .nil
theorem af(ha:DE Z X e ta)(hr:DA Z X es t)(hs:starEach (e::es) X.env=(false,eval e X.env)::starEach es X.env:=by rfl):DA Z X (e::es) (Gi ta t):=by
 refine (ae ha hr hs).imp ?_;rintro σ H Q ⟨G,ρ,P,s,e,h,q⟩;refine ⟨G,ρ,_,s,e,h,λa ha v G1 H1 x1 dv=>?_⟩;exact ⟨G1,ρ,_,x1.sub,e.mono x1.gg,ha,λds hd vs G2 H2 x2 bB=>q _ hd _ G2 H2 (x1.trans x2) (.cons (dv.mono x2.gg) bB)⟩
def RO(t:jv):ba:=λρ P=>t ρ λxs=>xs.length≤sizeLine∧P (.tup xs)
theorem eH{x1}(h:DA Z X es t):DE Z X (.Tuple es x1 pos) (RO t):=by
 refine (sV h).imp ?_;rintro σ H Q ⟨G,ρ,P,s,e,h,q⟩;refine ⟨G,ρ,_,s,e,h,?_⟩;rintro ds ⟨hl,hp⟩ vs G1 H1 x1 bB;exact ⟨by rw [bB.length];exact hl,λp zY=>q _ hp _ _ _ (x1.trans (.new x1.sub zY)) (.tup aa (bB.mono (ay (x1.sub.free zY) _)))⟩
def xH(r:List D→(D→Prop)→Prop)(t:jv):ba:=λρ P=>t ρ λds=>r ds P
theorem wK{r:List D→(D→Prop)→Prop}:∀σ H Q,dz Z (xH r t) σ H Q→B4 Z t σ H λvs H1=>lO Z r vs H1 Q:=by
 rintro σ H Q ⟨G,ρ,P,s,e,h,q⟩;exact ⟨G,ρ,_,s,e,h,λds hd vs G1 H1 x1 bB=>⟨G1,ds,P,x1.sub,bB,hd,λd hp v G2 H2 x2 dv=>q d hp v G2 H2 (x1.trans x2) dv⟩⟩
theorem Gs{sd:fm}{k:Nat}{f:Addr}{fd:FuncData}{ps:List Str}{x:Str}{p:Pos}(F:FnOk X.prog X.w X.K X.mg X.base cw k f fd ps (aX Z sd))(hr:cC k X.A)(hg:Gl X x)(hm:X.mg x=some (.ref f))(hk:PySem.W.keepIn X.K (.ref f)=true)(hb:Binds X.K fd ps [])
  (ha:DA Z X (e::es) t) (lI:(x==("__debug__":Str))=false:=by decide) (he:starEach (e::es) X.env=(false,eval e X.env)::starEach es X.env:=by rfl) (fq:(backTo pos (starEach es X.env)).any (·.1)=false:=by rfl):
  DE Z X (.Call (.Name x p) (e::es) [] pos) (xH sd t):=
 (bf F hr hg hm hk hb .nil bR ha lI he fq).imp λσ H Q h=>by
  have h:=wK σ H Q h;obtain ⟨G,ρ,P,s,e,h,q⟩:=h;exact ⟨G,ρ,P,s,e,h,λds hd vs G1 H1 x1 bB=>by show aX Z sd (vs++ []) H1 Q E0;rw [j4];exact q ds hd vs G1 H1 x1 bB⟩
theorem cc{id:String}{x:Str}{p:Pos}{r:List D→(D→Prop)→Prop}(hc:cT X (.builtin id) (lO Z r))(hg:Gl X x)(hm:X.mg x=none)(hv:bootBuiltins x=some (.builtin id))(ha:DA Z X (e::es) t)(hn:x≠"__name__":=by decide)(lI:(x==("__debug__":Str))=false:=by decide)
  (he:starEach (e::es) X.env=(false,eval e X.env)::starEach es X.env:=by rfl) (fq:(backTo pos (starEach es X.env)).any (·.1)=false:=by rfl):
  DE Z X (.Call (.Name x p) (e::es) [] pos) (xH r t):=(cA hc hg hm hv ha hn lI he fq).imp wK
end
end L2
namespace L2
open PySem PySem.Spec PyProof.Rows
section
variable {Z:DC} {X:Cx}
def Gg:gY:=λx y P=>match x,y with
 | .int i, .int j=>P (.int (i+j))
 | .lst a, .lst b=>a.length+b.length≤sizeLine∧P (.lst (a++b))
 | .tup a, .tup b=>a≠ []∧a.length+b.length≤sizeLine∧b≠ []∧P (.tup (a++b))
 |_,_=>False
def dI(c:Int→Int→Prop)(g:Int→Int→Int):gY:=λx y P=>match x,y with
 | .int i, .int j=>c i j∧P (.int (g i j))
 |_,_=>False
def RB:gY:=dI FT λi j=>i / j
def RG:gY:=dI (λ_ j=>0<j) λi j=>i%j
theorem DK{f:Value→Value→Sem Value}{c:Int→Int→Prop}{g:Int→Int→Int}(h:OpR X f (rI c λi j=> .int (g i j))):OpR X f (bX Z (dI c g)):=by
 refine h.imp ?_;rintro x y H Q ⟨G,a,b,P,s,da,db,hr,q⟩;unfold dI at hr
 split at hr
 ·exact ⟨_,_,da.ofInt,db.ofInt,hr.1,q _ hr.2 _ G H (.refl s) (.int _)⟩
 ·exact hr.elim
theorem Lb:OpR X (binaryOp .FloorDiv) (bX Z RB):=DK Ao
theorem yE:OpR X (binaryOp .Mod) (bX Z RG):=DK mV
theorem gO(e:X.K=Z.K:=by rfl):OpR X (binaryOp .Add) (bX Z Gg):=by
 refine (gh.or (yM.or (ID))).imp ?_;rintro x y H Q ⟨G,a,b,P,s,da,db,hr,q⟩;unfold Gg at hr
 split at hr
 ·exact .inl ⟨_,_,da.ofInt,db.ofInt,q _ hr _ G H (.refl s) (.int _)⟩
 ·obtain ⟨a1,xs1,rfl,h1,e1⟩:=da.uB
  obtain ⟨a2,xs2,rfl,h2,e2⟩:=db.uB;obtain ⟨hz,hp⟩:=hr;refine .inr (.inl ⟨_,_,_,_,rfl,rfl,s _ _ h1,s _ _ h2,by rw [e1.length,e2.length];exact hz,λp hn=>?_⟩)
  exact q _ hp _ _ _ (.new s hn) (.lst aa ((e1.append e2).mono (ay (s.free hn) _)))
 ·obtain ⟨a1,xs1,rfl,h1,e1⟩:=da.uC
  obtain ⟨a2,xs2,rfl,h2,e2⟩:=db.uC;obtain ⟨h0,hz,YB,hp⟩:=hr;refine .inr (.inr ⟨_,_,_,_,rfl,rfl,cJ.of (s _ _ h1),cJ.of (s _ _ h2),?_,by rw [e1.length,e2.length];exact hz,?_⟩)
  ·rintro rfl;cases e1;exact h0 rfl
  ·refine ⟨?_,λ_ p hn=>q _ hp _ _ _ (.new s hn) (.tup aa ((e1.append e2).mono (ay (s.free hn) _)))⟩
   rintro rfl;cases e2;exact (YB rfl).elim
 ·exact hr.elim
mutual
def D.py:D→Option PyData
 | .aL=>some .none
 | .bl b=>some (.bool b)
 | .int i=>some (.int i)
 | .str x=>some (.str x)
 | .lst l=>(gm l).map PyData.list
 | .tup l=>(gm l).map PyData.tuple
 | .jb _=>none
 | .rng _ _=>none
 | .obj _=>none
 | .fV _=>none
 | .set _ _=>none
 | .x _=>none
def gm:List D→Option (List PyData)
 | []=>some []
 |d::ds=>(D.py d).bind λa=>(gm ds).map λas=>a::as
end
mutual
theorem Dv.dp{K:PySem.W.Frag}{G:Hp}:∀{v:V}{d:D}{e:PyData},Dv Z G v d→d.py=some e→Dp K G v e
 |_,_,_, .aL,h=>by simp [D.py] at h;subst h;exact .aL
 |_,_,_, .bl b,h=>by simp [D.py] at h;subst h;exact .bl b
 |_,_,_, .int i,h=>by simp [D.py] at h;subst h;exact .int i
 |_,_,_, .str x k,h=>by simp [D.py] at h;subst h;exact .str x k
 |_,_,_, .lst a as,h=>by
  simp [D.py] at h;obtain ⟨l,h1,rfl⟩:=h;exact .lst (aG.of a) (aq.dp as h1)
 |_,_,_, .tup a as,h=>by
  simp [D.py] at h;obtain ⟨l,h1,rfl⟩:=h;exact .tup (cJ.of a) (aq.dp as h1)
 |_,_,_, .jb _ _,h=>by simp [D.py] at h
 |_,_,_, .rng _,h=>by simp [D.py] at h
 |_,_,_, .obj _,h=>by simp [D.py] at h
 |_,_,_, .fV _ _ _ _ _,h=>by simp [D.py] at h
 |_,_,_, .set _,h=>by simp [D.py] at h
 |_,_,_, .x _ _,h=>by simp [D.py] at h
theorem aq.dp{K:PySem.W.Frag}{G:Hp}:∀{vs:List V}{ds:List D}{es:List PyData},aq Z G vs ds→gm ds=some es→eD K G vs es
 |_,_,_, .nil,h=>by simp [gm] at h;subst h;exact .nil
 |_,_,_, .cons (d:=d) (ds:=ds) a as,h=>by
  rw [gm] at h;cases h1:d.py with
  |none=>rw [h1] at h;cases h
  |some x=>
   rw [h1] at h;cases h2:gm ds with
   |none=>rw [h2] at h;cases h
   |some y=>rw [h2] at h;cases h;exact .cons (Dv.dp a h1) (aq.dp as h2)
end
theorem cJ.mono{K:PySem.W.Frag}{H H':Hp}{a:Addr}{xs:List V}(s:aC H H')(h:cJ K H a xs):cJ K H' a xs:=by
 rcases h with (h| ⟨o,h⟩) |h
 ·exact .inl (.inl (s _ _ h))
 ·exact .inl (.inr ⟨o,s _ _ h⟩)
 ·exact .inr h
mutual
theorem Dp.mono{K:PySem.W.Frag}{G H:Hp}(s:aC G H):∀{v:V}{d:PyData},Dp K G v d→Dp K H v d
 |_,_, .aL=> .aL
 |_,_, .bl b=> .bl b
 |_,_, .int i=> .int i
 |_,_, .str x h=> .str x h
 |_,_, .lst h a=> .lst (h.mono s) (eD.mono s a)
 |_,_, .tup h a=> .tup (h.mono s) (eD.mono s a)
theorem eD.mono{K:PySem.W.Frag}{G H:Hp}(s:aC G H):∀{vs:List V}{ds:List PyData},eD K G vs ds→eD K H vs ds
 |_,_, .nil=> .nil
 |_,_, .cons a as=> .cons (Dp.mono s a) (eD.mono s as)
end
def Mv(neg:Bool):gY:=λx y P=>∃a b,x.py=some a∧y.py=some b∧a.depth≤64∧P (.bl (if neg then !PyData.eqv a b else PyData.eqv a b))
abbrev N3:gY:=Mv false
abbrev Gk:gY:=Mv true
theorem yB(hu:X.A.units+64<cLine):OpR X (compareOp .Eq) (bX Z N3):=by
 refine (Lg hu).imp ?_;rintro x y H Q ⟨G,a,b,P,s,da,db,⟨c,d,h1,h2,h3,hp⟩,q⟩;exact ⟨c,d,(da.dp h1).mono s,(db.dp h2).mono s,h3,q _ hp _ G H (.refl s) (.bl _)⟩
theorem yF(hu:X.A.units+64<cLine):OpR X (compareOp .NotEq) (bX Z Gk):=by
 refine (yN hu).imp ?_;rintro x y H Q ⟨G,a,b,P,s,da,db,⟨c,d,h1,h2,h3,hp⟩,q⟩;exact ⟨c,d,(da.dp h1).mono s,(db.dp h2).mono s,h3,q _ hp _ G H (.refl s) (.bl _)⟩
theorem tS{i j:Int}{P:D→Prop}(h:P (.bl (decide (i=j)))):N3 (.int i) (.int j) P:=⟨.int i, .int j,rfl,rfl,by simp [PyData.depth],by
 have:PyData.eqv (.int i) (.int j)=decide (i=j):=by
  rw [PyData.eqv]
  by_cases z:i=j<;>simp [z]
 simpa [this] using h⟩
def Dg(p:Int→Int→Bool):gY:=λx y P=>match x,y with
 | .int i, .int j=>P (.bl (p i j))
 |_,_=>False
theorem Ae{f:Value→Value→Sem Value}{p:Int→Int→Bool}(h:OpR X f (Cy λi j=> .bl (p i j))):OpR X f (bX Z (Dg p)):=by
 refine h.imp ?_;rintro x y H Q ⟨G,a,b,P,s,da,db,hr,q⟩;unfold Dg at hr
 split at hr
 ·exact ⟨_,_,da.ofInt,db.ofInt,q _ hr _ G H (.refl s) (.bl _)⟩
 ·exact hr.elim
end
end L2
namespace L2
open PySem PySem.Spec PyProof.Rows
section
variable {Z:DC} {X:Cx}
abbrev X1:gY:=Dg λi j=>decide (i<j)
abbrev X0:gY:=Dg λi j=>decide (i≤j)
theorem Iq:OpR X (compareOp .Lt) (bX Z X1):=Ae Cj
theorem yD:OpR X (compareOp .LtE) (bX Z X0):=Ae PQ
def BX:D→Bool
 | .aL=>true
 |_=>false
def Gj(neg:Bool):gY:=λx y P=>match y with
 | .aL=>P (.bl (if neg then !BX x else BX x))
 |_=>False
theorem wC{G:Hp}{v:V}{d:D}(h:Dv Z G v d):decide (v= .aL)=BX d:=by cases h<;>rfl
theorem yC:OpR X (compareOp .Is) (bX Z (Gj false)):=by
 refine Lh.imp ?_;rintro x y H Q ⟨G,a,b,P,s,da,db,hr,q⟩;cases db<;>first|exact hr.elim|skip
 exact ⟨rfl,by rw [wC da];exact q _ hr _ G H (.refl s) (.bl _)⟩
theorem Fl:OpR X (compareOp .IsNot) (bX Z (Gj true)):=by
 refine IF.imp ?_;rintro x y H Q ⟨G,a,b,P,s,da,db,hr,q⟩;cases db<;>first|exact hr.elim|skip
 exact ⟨rfl,by rw [wC da];exact q _ hr _ G H (.refl s) (.bl _)⟩
def g7:D→Bool
 | .aL=>true
 | .bl _=>true
 | .int _=>true
 | .str _=>true
 |_=>false
def jg:D→D→Bool
 | .aL, .aL=>true
 | .bl a, .bl b=>a==b
 | .bl a, .int b=>(if a then 1 else 0)==b
 | .int a, .bl b=>a==(if b then 1 else 0)
 | .int a, .int b=>a==b
 | .str a, .str b=>a==b
 |_,_=>false
def inD(x:D)(l:List D):Bool:=l.any λy=>jg y x
theorem pC{G:Hp}{v:V}{d:D}(h:Dv Z G v d):gb v=g7 d:=by cases h<;>rfl
theorem jh{G:Hp}:∀{vs:List V}{ds:List D},aq Z G vs ds→vs.all gb=ds.all g7
 |_,_, .nil=>rfl
 |_,_, .cons a as=>by rw [List.all_cons,List.all_cons,pC a,jh as]
theorem xR{G:Hp}{v u:V}{d e:D}(h:Dv Z G v d)(k:Dv Z G u e):oe v u=jg d e:=by cases h<;>cases k<;>rfl
theorem BU{G:Hp}{v:V}{d:D}(h:Dv Z G v d):∀{vs:List V}{ds:List D},aq Z G vs ds→BS v vs=inD d ds
 |_,_, .nil=>rfl
 |_,_, .cons a as=>by
  unfold BS inD;rw [List.any_cons,List.any_cons,xR a h];exact congrArg _ (BU h as)
def J2(neg:Bool):gY:=λx y P=>match y with
 | .lst l=>g7 x=true∧l.all g7=true∧P (.bl (if neg then !inD x l else inD x l))
 | .tup l=>g7 x=true∧l.all g7=true∧P (.bl (if neg then !inD x l else inD x l))
 |_=>False
theorem Jf{neg:Bool}:∀x y H Q,bX Z (J2 neg) x y H Q→LB X.K neg x y H Q:=by
 rintro x y H Q ⟨G,a,b,P,s,da,db,hr,q⟩;cases db<;>first|exact hr.elim|skip
 ·rename_i p xs ds h e
  obtain ⟨h1,h2,hp⟩:=hr;refine ⟨p,xs,rfl, .inl (aG.of (s _ _ h)),by rw [pC da];exact h1,by rw [jh e];exact h2,?_⟩
  rw [BU da e];exact q _ hp _ G H (.refl s) (.bl _)
 ·rename_i p xs ds h e
  obtain ⟨h1,h2,hp⟩:=hr;refine ⟨p,xs,rfl, .inr (cJ.of (s _ _ h)),by rw [pC da];exact h1,by rw [jh e];exact h2,?_⟩
  rw [BU da e];exact q _ hp _ G H (.refl s) (.bl _)
theorem Ip:OpR X (compareOp .In) (bX Z (J2 false)):=Ci.imp Jf
theorem Fm:OpR X (compareOp .NotIn) (bX Z (J2 true)):=nK.imp Jf
def RE:gY:=λx y P=>match x,y with
 | .lst l, .int i=>∃d,f6 l i=some d∧P d
 | .tup l, .int i=>∃d,f6 l i=some d∧P d
 | .jb l, .int i=>∃n,f6 l i=some n∧P (.int n)
 |_,_=>False
theorem C9{G:Hp}{vs:List V}{ds:List D}{i:Int}{d:D}(h:aq Z G vs ds)(e:f6 ds i=some d):∃v,f6 vs i=some v∧Dv Z G v d:=by
 unfold f6 at e ⊢;rw [h.length];cases z:iO ds.length i with
 |none=>rw [z] at e;cases e
 |some j=>rw [z] at e;exact h.get e
theorem F5{α β:Type}(f:α→β)(l:List α)(i:Int):f6 (l.map f) i=(f6 l i).map f:=by
 unfold f6;rw [aP];cases iO l.length i with
 |none=>rfl
 |some j=>show (l.map f)[j]? =_;rw [ck];rfl
variable {a b c e:Expr} {ta tb tc te:ba} {pos:Pos}
theorem fG(ha:DE Z X a ta)(hb:DE Z X b tb)(eK:X.K=Z.K:=by rfl)(hs:pb b:=by exact λ_ _=>rfl):DE Z X (.Subscript a b pos) (Es RE ta tb):=by
 refine (bY (bp.or DH) ha hb hs).imp λσ H Q h=>?_;obtain ⟨G,ρ,P,s,e,h,q⟩:=yt σ H Q h;refine ⟨G,ρ,P,s,e,h,λd hd v G1 H1 x1 dv=>?_⟩;obtain ⟨G',aF,P',s',e',h',q'⟩:=q d hd v G1 H1 x1 dv;refine ⟨G',aF,P',s',e',h',λd2 hd2 v2 G2 H2 x2 Oe=>?_⟩;obtain ⟨G,a,b,P,s,da,db,hr,q⟩:=q' d2 hd2 v2 G2 H2 x2 Oe;unfold RE at hr
 split at hr
 ·obtain ⟨d,h1,hp⟩:=hr
  obtain ⟨_,_,rfl,h,e⟩:=da.uB;obtain ⟨v,hv,dv⟩:=C9 e h1;exact .inl ⟨_,_,_,v,rfl,db.ofInt,aG.of (s _ _ h),hv,q _ hp _ G _ (.refl s) dv⟩
 ·obtain ⟨d,h1,hp⟩:=hr
  obtain ⟨_,_,rfl,h,e⟩:=da.uC;obtain ⟨v,hv,dv⟩:=C9 e h1;exact .inr ⟨_,_,_,v,rfl,db.ofInt,cJ.of (s _ _ h),hv,q _ hp _ G _ (.refl s) dv⟩
 rotate_left
 ·exact hr.elim
 ·obtain ⟨d,h1,hp⟩:=hr
  obtain ⟨_,rfl,h,_⟩:=da.yH;refine .inl ⟨_,_,_, .int d,rfl,db.ofInt,by rw [eK];exact h.mono s,by rw [F5,h1];rfl,q _ hp _ G _ (.refl s) (.int d)⟩
def cutD{α:Type}(xs:List α)(lo hi:Option Int):List α:=(xs.drop (HT.bG xs.length 0 lo)).take (HT.bG xs.length xs.length hi-HT.bG xs.length 0 lo)
theorem De{G:Hp}{vs:List V}{ds:List D}(h:aq Z G vs ds)(lo hi:Option Int):aq Z G (gy vs lo hi) (cutD ds lo hi):=by
 unfold gy cutD;rw [h.length];exact (h.drop _).take _
theorem Ep{α β:Type}(f:α→β)(l:List α)(lo hi:Option Int):cutD (l.map f) lo hi=(cutD l lo hi).map f:=by
 unfold cutD;rw [aP,List.map_take,List.map_drop]
abbrev A9:=DN→(Option Int→Prop)→Prop
def Gp:A9:=λ_ P=>P none
def N5(t:ba):A9:=λρ P=>t ρ λd=>match d with
 | .int i=>P (some i)
 |_=>False
def Pp(Z:DC)(t:A9):TO:=λσ H Q=>∃(G:Hp)(ρ:DN)(P:Option Int→Prop),aC G H∧cX Z G σ ρ∧t ρ P∧∀o,P o→∀G' H',Ext G H G' H'→Q o H'
def DO(Z:DC)(X:Cx)(e:Option Expr)(t:A9):Prop:=PO X e (Pp Z t)
theorem PO.imp{e:Option Expr}{t t':TO}(h:PO X e t)(f:∀σ H Q,t' σ H Q→t σ H Q):PO X e t':=λpins s σ H Q I q=>h pins s σ H Q I (f _ _ _ q)
theorem GC:DO Z X none Gp:=uL.imp λσ H Q ⟨G,ρ,P,s,e,p,q⟩=>q _ p G H (.refl s)
theorem GD(h:DE Z X e te):DO Z X (some e) (N5 te):=by
 refine (lU h).imp ?_;rintro σ H Q ⟨G,ρ,P,s,e,h,q⟩;refine ⟨G,ρ,_,s,e,h,λd hd v G1 H1 x1 dv=>?_⟩;cases dv<;>first|exact hd.elim|skip
 exact ⟨_,rfl,q _ hd G1 H1 x1⟩
def X3(te:ba)(tl th:A9):ba:=λρ P=>te ρ λx=>tl ρ λlo=>th ρ λhi=>match x with
 | .lst l=>P (.lst (cutD l lo hi))
 | .tup l=>¬(HT.bG l.length 0 lo=0∧HT.bG l.length l.length hi=l.length)∧P (.tup (cutD l lo hi))
 | .jb l=>P (.lst ((cutD l lo hi).map D.int))
 |_=>False
variable {lo hi:Option Expr} {tl th:A9} {p2:Pos}
theorem Ex(he:DE Z X e te)(hl:DO Z X lo tl)(hu:DO Z X hi th)(eK:X.K=Z.K:=by rfl):DE Z X (.Subscript e (.Slice lo hi none p2) pos) (X3 te tl th):=by
 refine (mX (qd.or LK) he hl hu).imp ?_;rintro σ H Q ⟨G,ρ,P,s,en,h,q⟩;refine ⟨G,ρ,_,s,en,h,λd hd v G1 H1 x1 dv=>?_⟩;refine ⟨G1,ρ,_,x1.sub,en.mono x1.gg,hd,λl hl G2 H2 x2=>?_⟩;refine ⟨G2,ρ,_,x2.sub,(en.mono x1.gg).mono x2.gg,hl,λu hu G3 H3 x3=>?_⟩;have x:=(x1.trans x2).trans x3;have dv:=(dv.mono x2.gg).mono x3.gg;cases dv<;>first|exact hu.elim|skip
 ·rename_i h e
  exact .inl ⟨_,_,rfl,aG.of (x3.sub _ _ h),λp hn=>q _ hu _ _ _ (x.trans (.new x3.sub hn)) (.lst aa ((De e l u).mono (ay (x3.sub.free hn) _)))⟩
 ·rename_i h e
  refine .inr ⟨_,_,rfl,cJ.of (x3.sub _ _ h),by rw [e.length];exact hu.1,λp hn=>q _ hu.2 _ _ _ (x.trans (.new x3.sub hn)) (.tup aa ((De e l u).mono (ay (x3.sub.free hn) _)))⟩
 ·rename_i h _
  refine .inl ⟨_,_,rfl,by rw [eK];exact h.mono x3.sub,λp hn=>q _ hu _ _ _ (x.trans (.new x3.sub hn)) (.lst aa ?_)⟩
  show aq Z _ (cutD _ l u) _;rw [Ep];exact .ints _
def F7:fm:=λds P=>match ds with
 | [.lst l]=>P (.int l.length)
 | [.tup l]=>P (.int l.length)
 | [.jb l]=>P (.int l.length)
 |_=>False
theorem ix(eK:X.K=Z.K:=by rfl):cT X (.builtin "len") (lO Z F7):=by
 refine bU.imp ?_;rintro xs H Q ⟨G,ds,P,s,dv,hr,q⟩;unfold F7 at hr
 split at hr
 ·obtain ⟨_,rfl,a⟩:=dv.ofOne
  obtain ⟨_,_,rfl,h,e⟩:=a.uB;exact ⟨_,_,rfl, .inl (aG.of (s _ _ h)),by rw [e.length];exact q _ hr _ G H (.refl s) (.int _)⟩
 ·obtain ⟨_,rfl,a⟩:=dv.ofOne
  obtain ⟨_,_,rfl,h,e⟩:=a.uC;exact ⟨_,_,rfl, .inr (cJ.of (s _ _ h)),by rw [e.length];exact q _ hr _ G H (.refl s) (.int _)⟩
 ·obtain ⟨_,rfl,a⟩:=dv.ofOne
  obtain ⟨_,rfl,h,_⟩:=a.yH;exact ⟨_,_,rfl, .inl (by rw [eK];exact h.mono s),by rw [aP];exact q _ hr _ G H (.refl s) (.int _)⟩
 ·exact hr.elim
def aab:fm:=λds P=>match ds with
 | [.int i]=>P (.int i)
 | [.bl b]=>P (.int (if b then 1 else 0))
 |_=>False
def Ud:String→D→Bool
 |"int", .int _=>true
 |"int", .bl _=>true
 |"bool", .bl _=>true
 |"list", .lst _=>true
 |"tuple", .tup _=>true
 |_,_=>false
def PM(n:String):Bool:=n=="int"||n=="bool"||n=="list"||n=="tuple"
def Nf:D→Bool
 | .aL=>true
 | .bl _=>true
 | .int _=>true
 | .str _=>true
 | .lst _=>true
 | .tup _=>true
 |_=>false
def My(n:String)(t:ba):ba:=λρ P=>t ρ λd=>Nf d=true∧P (.bl (Ud n d))
theorem KQ{K:PySem.W.Frag}{H:Hp}{v:V}{d:D}{n:String}(hn:PM n=true)(hd:Nf d=true)(h:Dv Z H v d):∃t,jc K H v t∧PySem.W.kitOne K t (.type n)=some (Ud n d):=by
 unfold PM at hn;rw [Bool.or_eq_true,Bool.or_eq_true,Bool.or_eq_true,beq_iff_eq,beq_iff_eq,beq_iff_eq,beq_iff_eq] at hn;cases h with
 |aL=>refine ⟨_, .aL,?_⟩;rcases hn with ((rfl|rfl) |rfl) |rfl<;>kernel_rfl
 |bl b=>refine ⟨_, .bl b,?_⟩;rcases hn with ((rfl|rfl) |rfl) |rfl<;>kernel_rfl
 |int b=>refine ⟨_, .int b,?_⟩;rcases hn with ((rfl|rfl) |rfl) |rfl<;>kernel_rfl
 |str b=>refine ⟨_, .str b,?_⟩;rcases hn with ((rfl|rfl) |rfl) |rfl<;>kernel_rfl
 |lst h a=>refine ⟨_, .lst h,?_⟩;rcases hn with ((rfl|rfl) |rfl) |rfl<;>kernel_rfl
 |tup h a=>refine ⟨_, .tup h,?_⟩;rcases hn with ((rfl|rfl) |rfl) |rfl<;>kernel_rfl
 |_=>cases hd
end
section
variable {Z:DC} {X:Cx} {a b c e:Expr} {ta tb tc te:ba} {pos:Pos}
theorem pk(n:String){x:Str}{p p':Pos}(ha:DE Z X a ta)(hg:Gl X "isinstance")(hm:X.mg "isinstance"=none)(Y8:Gl X x)(BM:X.mg x=none)(hv:bootBuiltins x=some (.type n))(ok:PM n=true:=by decide)
  (hn:x≠"__name__":=by decide) (hd:(x==("__debug__":Str))=false:=by decide) (hs:starEach [a, .Name x p'] X.env=(false,eval a X.env)::starEach [.Name x p'] X.env:=by rfl)
  (fq:(backTo pos (starEach [.Name x p'] X.env)).any (·.1)=false:=by rfl) (qD:starEach [.Name x p'] X.env=(false,eval (.Name x p') X.env)::starEach [] X.env:=by rfl):
  DE Z X (.Call (.Name "isinstance" p) [a, .Name x p'] [] pos) (My n ta):=by
 have hb:PE X (.Name x p') (tC (.ty n)):=II Y8 BM hv rfl hn hd;refine (cA xF hg hm (by decide+kernel) (ae ha (ae hb ar qD) hs) (by decide) (by decide) hs fq).imp ?_
 rintro σ H Q ⟨G,ρ,P,s,e,h,q⟩;refine ⟨G,ρ,_,s,e,h,?_⟩;rintro d ⟨hk,hp⟩ v G1 H1 x1 dv;obtain ⟨t,ht,gd⟩:=KQ (K:=X.K) (H:=H1) ok hk (dv.mono x1.sub);exact ⟨v,n,t,_,rfl,ht,gd,q _ hp _ G1 H1 x1 (.bl _)⟩
def oF(Z:DC)(g:dJ):TG:=λv σ H Q=>∃(G:Hp)(ρ:DN)(d:D)(P:DN→Prop),aC G H∧cX Z G σ ρ∧Dv Z G v d∧g d ρ P∧∀aF,P aF→∀av,cX Z G av aF→Q av H
def DG(Z:DC)(X:Cx)(e:Expr)(g:dJ):Prop:=PG X e (oF Z g)
theorem PG.imp{e:Expr}{t t':TG}(h:PG X e t)(f:∀v σ H Q,t' v σ H Q→t v σ H Q):PG X e t':=λpins s σ H v u Q I r q=>h pins s σ H v u Q I r (f _ _ _ _ q)
def mM(i:Nat):dJ:=λd ρ P=>P (ρ.set i (some d))
theorem dP(i:Nat){x:Str}(hN:X.N.Nodup)(hi:X.N[i]? =some x:=by rfl)(hx:Loc X.env.scope x:=by exact Or.inl rfl)(hf:X.fn x=true∨X.env.scope.names.lookup x=some .local:=by first|exact .inl rfl|exact .inr rfl|assumption):DG Z X (.Name x pos) (mM i):=
 (bI hN hi hx hf).imp λv σ H Q ⟨G,ρ,d,P,s,e,dv,h,q⟩=>q _ h _ (e.set dv)
abbrev kK:=List D→DN→(DN→Prop)→Prop
def KY(Z:DC)(g:kK):vE:=λvs σ H Q=>∃(G:Hp)(ρ:DN)(ds:List D)(P:DN→Prop),aC G H∧cX Z G σ ρ∧aq Z G vs ds∧g ds ρ P∧∀aF,P aF→∀av,cX Z G av aF→Q av H
def JN(Z:DC)(X:Cx)(es:List Expr)(g:kK):Prop:=xD X es (KY Z g)
theorem xD.imp{es:List Expr}{t t':vE}(h:xD X es t)(f:∀v σ H Q,t' v σ H Q→t v σ H Q):xD X es t':=λpins s σ H v u Q I r q=>h pins s σ H v u Q I r (f _ _ _ _ q)
def GA:kK:=λds ρ P=>ds= []∧P ρ
def Dl(g:dJ)(gs:kK):kK:=λds ρ P=>match ds with
 |d::r=>g d ρ λaF=>gs r aF P
 | []=>False
theorem tU:JN Z X [] GA:=jU.imp λv σ H Q ⟨G,ρ,ds,P,s,e,dv,⟨h,p⟩,q⟩=>by
 subst h;cases dv;exact ⟨rfl,q _ p _ e⟩
theorem iD{es:List Expr}{g:dJ}{gs:kK}(h1:DG Z X e g)(h2:JN Z X es gs)(hs:(assignEach (e::es) X.env).map (·.2)=assign e X.env::(assignEach es X.env).map (·.2):=by rfl):JN Z X (e::es) (Dl g gs):=by
 refine (dZ h1 h2 hs).imp ?_;rintro v σ H Q ⟨G,ρ,ds,P,s,e,dv,h,q⟩;cases dv with
 |nil=>exact h.elim
 |cons a as=>
  refine ⟨_,_,rfl,G,ρ,_,_,s,e,a,h,λaF hp av e'=>?_⟩;exact ⟨G,aF,_,P,s,e',as,hp,q⟩
def GB(n:Nat)(gs:kK):dJ:=λd ρ P=>match d with
 | .tup l=>l.length=n∧gs l ρ P
 |_=>False
theorem xN(n:Nat){es:List Expr}{k:Nat}{gs:kK}(hc:X.calm=true)(h:JN Z X es gs)(hn:(assignEach es X.env).length=n:=by rfl)(yh:(assignEach es X.env).findIdx? (·.1)=none:=by rfl):DG Z X (.Tuple es k pos) (GB n gs):=by
 refine (mY hc h hn yh).imp ?_;rintro v σ H Q ⟨G,ρ,d,P,s,e,dv,h,q⟩;cases dv<;>first|exact h.elim|skip
 rename_i a xs ds ha es
 exact ⟨a,xs,rfl,cJ.of (s _ _ ha),by rw [es.length];exact h.1,G,ρ,_,P,s,e,es,h.2,q⟩
def rg(Z:DC)(G:Hp)(J:It)(ds:List D):Prop:=∀G2 H2,aC G G2→aC G2 H2→∀i:Nat,(i<ds.length→J.go i H2)∧(ds.length≤i→J.stop i H2)∧
 ∀x H',i<ds.length→J.yld i H2 x H'→∃G3 d,Ext G2 H2 G3 H'∧ds[i]? =some d∧Dv Z G3 x d
def qK(Z:DC)(wi:il):TI:=λσ H R=>∃(G:Hp)(ρ:DN)(P:List D→Prop),aC G H∧cX Z G σ ρ∧wi ρ P∧∀ds,P ds→∀J G' H',Ext G H G' H'→rg Z G' J ds→R J H'
def DI(Z:DC)(X:Cx)(tg e:Expr)(wi:il):Prop:=PI X tg e (qK Z wi)
theorem PI.imp{tg e:Expr}{t t':TI}(h:PI X tg e t)(f:∀σ H Q,t' σ H Q→t σ H Q):PI X tg e t':=λpins s σ H Q I q=>h pins s σ H Q I (f _ _ _ q)
def Ob(t:ba):il:=λρ P=>t ρ λd=>match d with
 | .lst l=>P l
 |_=>False
def Oc(t:ba):il:=λρ P=>t ρ λd=>match d with
 | .tup l=>P l
 |_=>False
theorem HN{K:PySem.W.Frag}{G:Hp}{a:Addr}{xs:List V}{ds:List D}(h:G a=some (.lst xs))(e:aq Z G xs ds):rg Z G (Ek K a) ds:=by
 intro G2 H2 s1 s2 i;have h2:=aG.of (K:=K) (s2 _ _ (s1 _ _ h));have l:=e.length;refine ⟨λhi=>⟨xs,xs[i],h2,cK (by omega)⟩,λhi=>⟨xs,h2,by omega⟩,?_⟩
 rintro x H' hi ⟨rfl,hx⟩;obtain ⟨d,hd,dv⟩:=e.zR (hx _ h2);exact ⟨G2,d, .refl s2,hd,dv.mono s1⟩
theorem KG{K:PySem.W.Frag}{G:Hp}{a:Addr}{xs:List V}{ds:List D}(h:G a=some (.tup xs))(e:aq Z G xs ds):rg Z G (Nv K a) ds:=by
 intro G2 H2 s1 s2 i;have h2:=cJ.of (K:=K) (s2 _ _ (s1 _ _ h));have l:=e.length;refine ⟨λhi=>⟨xs,xs[i],h2,cK (by omega)⟩,λhi=>⟨xs,h2,by omega⟩,?_⟩
 rintro x H' hi ⟨rfl,hx⟩;obtain ⟨d,hd,dv⟩:=e.zR (hx _ h2);exact ⟨G2,d, .refl s2,hd,dv.mono s1⟩
theorem cO{tg:Expr}(h:DE Z X e te):DI Z X tg e (Ob te):=by
 refine (jV h).imp ?_;rintro σ H Q ⟨G,ρ,P,s,en,h,q⟩;refine ⟨G,ρ,_,s,en,h,λd hd v G1 H1 x1 dv=>?_⟩;cases dv<;>first|exact hd.elim|skip
 rename_i ha e
 exact ⟨_,rfl,⟨_,aG.of (x1.sub _ _ ha)⟩,q _ hd _ G1 H1 x1 (HN ha e)⟩
theorem Ke{tg:Expr}(h:DE Z X e te):DI Z X tg e (Oc te):=by
 refine (Lr h).imp ?_;rintro σ H Q ⟨G,ρ,P,s,en,h,q⟩;refine ⟨G,ρ,_,s,en,h,λd hd v G1 H1 x1 dv=>?_⟩;cases dv<;>first|exact hd.elim|skip
 rename_i ha e
 exact ⟨_,rfl,⟨_,cJ.of (x1.sub _ _ ha)⟩,q _ hd _ G1 H1 x1 (KG ha e)⟩
def gn(lo:Int)(n:Nat):List D:=(List.range n).map λ(k:Nat)=>D.int (lo+(k:Int))
theorem rL{lo:Int}{n i:Nat}(h:i<n):(gn lo n)[i]? =some (.int (lo+i)):=by
 unfold gn;rw [ck,A6 h];rfl
theorem E7{G:Hp}(lo:Int)(n:Nat):rg Z G (zl lo n) (gn lo n):=by
 intro G2 H2 s1 s2 i;have l:(gn lo n).length=n:=by unfold gn;simp
 rw [l];refine ⟨λhi=>hi,λhi=>hi,?_⟩;rintro x H' hi ⟨rfl,rfl⟩;exact ⟨G2,_, .refl s2,rL hi, .int _⟩
def Sh(t:jv):il:=λρ P=>t ρ λds=>match ds with
 | [.int j]=>(-(2^62)≤j∧j<2^62)∧P (gn 0 j.toNat)
 |_=>False
variable {t:jv}
def f9(l:List D):List D:=l.mapIdx λi x=> .tup [.int (i:Int),x]
def Kd(t:jv):il:=λρ P=>t ρ λds=>match ds with
 | [.lst l]=>P (f9 l)
 |_=>False
theorem HM{K:PySem.W.Frag}{G:Hp}{a:Addr}{xs:List V}{ds:List D}(h:G a=some (.lst xs))(e:aq Z G xs ds):rg Z G (Ej K a) (f9 ds):=by
 intro G2 H2 s1 s2 i;have h2:=aG.of (K:=K) (s2 _ _ (s1 _ _ h));have l:=e.length;rw [show (f9 ds).length=ds.length by unfold f9;simp]
 refine ⟨λhi=>⟨xs,xs[i],h2,cK (by omega)⟩,λhi=>⟨xs,h2,by omega⟩,?_⟩
 rintro x H' hi ⟨t,y,rfl,ht,rfl,hx⟩;obtain ⟨d,hd,dv⟩:=e.zR (hx _ h2);refine ⟨_,_, .new s2 ht,by unfold f9;rw [List.getElem?_mapIdx,hd];rfl,?_⟩
 exact .tup aa (.cons (.int _) (.cons ((dv.mono s1).mono (ay (s2.free ht) _)) .nil))
theorem gP{p:Pos}{es:List Expr}{k1}{tp:Pos}(hg:Gl X "enumerate")(hm:X.mg "enumerate"=none)(ha:DA Z X [a] t)(hs:starEach [a] X.env= [(false,eval a X.env)]:=by rfl):DI Z X (.Tuple es k1 tp) (.Call (.Name "enumerate" p) [a] [] pos) (Kd t):=by
 refine (uK hg hm ha hs).imp ?_;rintro σ H Q ⟨G,ρ,P,s,en,h,q⟩;refine ⟨G,ρ,_,s,en,h,λds hd vs G1 H1 x1 dv=>?_⟩
 split at hd
 ·obtain ⟨_,rfl,a⟩:=dv.ofOne
  obtain ⟨_,_,rfl,h,e⟩:=a.uB;exact ⟨_,rfl,⟨_,x1.sub _ _ h⟩,q _ hd _ G1 H1 x1 (HM h e)⟩
 ·exact hd.elim
def u3(src:List (Option Nat))(ρ:DN):DN:=src.map λo=>o.bind λi=>(ρ[i]?).bind id
theorem cX.src{G:Hp}{σ:St}{ρ:DN}(e:cX Z G σ ρ)(src:List (Option Nat)):cX Z G (mw src σ) (u3 src ρ):=by
 refine ⟨by unfold mw u3;simp,λi d h=>?_⟩
 unfold u3 at h;unfold mw;rw [ck] at h ⊢;cases k:src[i]? with
 |none=>rw [k] at h;cases h
 |some o=>
  rw [k] at h;cases o with
  |none=>cases h
  |some j=>
   have h':(ρ[j]?).bind id=some d:=Option.some.inj h;cases m:ρ[j]? with
   |none=>rw [m] at h';cases h'
   |some z=>
    rw [m] at h';have h2:z=some d:=h';subst h2;obtain ⟨v,hv,dv⟩:=e.at_ j d m;exact ⟨v,by show some ((σ[j]?).bind id)=_;rw [hv];rfl,dv⟩
def lcW(g:dJ)(tt:dG)(te:ba):List D→DN→List D→(DN→List D→Prop)→Prop
 | [],ρ,acc,N=>N ρ acc
 |x::xs,ρ,acc,N=>g x ρ λbh=>tt bh λb=>if b=true then te bh λd=>acc.length<sizeLine∧lcW g tt te xs bh (acc++ [d]) N else lcW g tt te xs bh acc N
def RF(wi:il)(g:dJ)(tt:dG)(te:ba)(src:List (Option Nat)):ba:=λρ P=>wi ρ λds=>lcW g tt te ds (u3 src ρ) [] λ_ out=>P (.lst out)
def nI(g:dJ)(tt:dG)(gr:il)(g1:dJ)(eO:dG)(te:ba):List D→DN→List D→(List D→Prop)→Prop
 | [],_,acc,P=>P acc
 |x::xs,ρ,acc,P=>g x ρ λbh=>tt bh λb=>if b=true then gr bh λes=>lcW g1 eO te es bh acc λdF tx=>nI g tt gr g1 eO te xs dF tx P else nI g tt gr g1 eO te xs bh acc P
def Mz(wi:il)(g:dJ)(tt:dG)(gr:il)(g1:dJ)(eO:dG)(te:ba)(src:List (Option Nat)):ba:=λρ P=>wi ρ λds=>nI g tt gr g1 eO te ds (u3 src ρ) [] λout=>P (.lst out)
def rm:dG:=λ_ P=>P true
def Ba(Z:DC)(X:Cx)(ifs:List Expr)(t:dG):Prop:=nX X ifs (liftT Z t)
theorem nX.imp{ifs:List Expr}{t t':TT}(h:nX X ifs t)(f:∀σ H Q,t' σ H Q→t σ H Q):nX X ifs t':=λpins s σ H Q I q=>h pins s σ H Q I (f _ _ _ q)
theorem jL:Ba Z X [] rm:=lW.imp λσ H Q ⟨G,ρ,P,s,e,p,q⟩=>q _ p G H (.refl s)
theorem GO{tA:dG}(h:DT Z X c tA):Ba Z X [c] tA:=Av h
def CS(Z:DC)(G1 H1:Hp)(Ad:Addr)(ρ:DN)(acc:List D)(σ:St)(H:Hp):Prop:=
 ∃(G:Hp)(ys:List V),aC G1 G∧aC G H∧aC H1 H∧(∀b,H1 b≠none→G1 b=none→G b=none)∧G Ad=none∧H Ad=some (.lst ys)∧aq Z G ys acc∧cX Z G σ ρ
theorem gW{H H':Hp}(s:aC H H'){b:Addr}(h:H b≠none):H' b≠none:=λz=>by
 cases e:H b with
 |none=>exact h e
 |some o=>rw [s b o e] at z;cases z
theorem lB{α:Type}{l:List α}{i:Nat}{x:α}(h:l[i]? =some x):l.drop i=x::l.drop (i+1):=by
 obtain ⟨hi,e⟩:=cu.mp h;rw [ql hi,e]
theorem wI{G1 H1:Hp}{Ad:Addr}{J:It}{ds:List D}{g:dJ}{tt:dG}{te:ba}{N:DN→List D→Prop}(hA:H1 Ad=none)(G0:Hp)(it:rg Z G0 J ds)(i:Nat)(ρ:DN)(acc:List D)(σ:St)(H:Hp)
  (c:CS Z G1 H1 Ad ρ acc σ H) (hG:∀G,aC G1 G→aC G0 G) (hi:i<ds.length) (h:lcW g tt te (ds.drop i) ρ acc N):
  J.go i H∧∀x H3,J.yld i H x H3→oF Z g x σ H3 λcS H4=>liftT Z tt cS H4 λb H5=>
   if b=true then dz Z te cS H5 λv H6=>∃ys,H6 Ad=some (.lst ys)∧ys.length<sizeLine∧(∃aF jd,CS Z G1 H1 Ad aF jd cS (upd H6 Ad (.lst (ys++ [v])))∧lcW g tt te (ds.drop (i+1)) aF jd N)
   else ∃aF jd,CS Z G1 H1 Ad aF jd cS H5∧lcW g tt te (ds.drop (i+1)) aF jd N:=by
 obtain ⟨G2,ys,s1,s2,s3,off,gA,om,bB,en⟩:=c;obtain ⟨go,_,yld⟩:=it G2 H (hG _ s1) s2 i;refine ⟨go hi,λx H3 y=>?_⟩;obtain ⟨G3,d,x3,hd,dv⟩:=yld x H3 hi y;rw [lB hd] at h;refine ⟨G3,ρ,d,_,x3.sub,en.mono x3.gg,dv,h,λbh h1 cS su=>?_⟩;refine ⟨G3,bh,_,x3.sub,su,h1,λb hb G5 H5 x5=>?_⟩;have mF:=x3.trans x5;have wR:∀{G tu:Hp},Ext G2 H G tu→G Ad=none:=λx=>x.off Ad (by rw [om];exact λz=>nomatch z) gA
 have Am:∀{G tu:Hp},Ext G2 H G tu→∀b,H1 b≠none→G1 b=none→G b=none:=λx b h1 h2=>x.off b (gW s3 h1) (off b h1 h2);cases b with
 |false=>
  refine dq ⟨bh,acc,⟨G5,ys,s1.trans mF.gg,mF.sub,s3.trans mF.hh,Am mF,wR mF,mF.hh _ _ om,bB.mono mF.gg,su.mono x5.gg⟩,?_⟩;simpa using hb
 |true=>
  refine fQ ⟨G5,bh,_,x5.sub,su.mono x5.gg,(by simpa using hb),λd' i8 v G6 H6 x6 Yi=>?_⟩
  have x:=mF.trans x6;refine ⟨ys,x.hh _ _ om,by rw [bB.length];exact i8.1,bh,_,⟨G6,ys++ [v],s1.trans x.gg,λb o e=>?_,λb o e=>?_,Am x,wR x,aa,(bB.mono x.gg).snoc Yi,(su.mono x5.gg).mono x6.gg⟩,i8.2⟩
  ·rw [ab (ah e (wR x))];exact x.sub _ _ e
  ·rw [ab (ah e hA)];exact (s3.trans x.hh) _ _ e
theorem CS.done{G H G1 H1 H2:Hp}{Ad:Addr}{ρ:DN}{acc:List D}{σ:St}(c:CS Z G1 H1 Ad ρ acc σ H2)(x1:Ext G H G1 H1)(hA:H1 Ad=none):∃G',Ext G H G' H2∧Dv Z G' (.ref Ad) (.lst acc):=by
 obtain ⟨G2,ys,s1,s2,s3,off,gA,om,bB,en⟩:=c;refine ⟨upd G2 Ad (.lst ys),⟨(x1.gg.trans s1).trans (ay gA _),λb o e=>?_,x1.hh.trans s3,λb hb hg=>?_⟩, .lst aa (bB.mono (ay gA _))⟩
 ·by_cases z:b=Ad
  ·subst z;rw [aa] at e;cases e;exact om
  ·rw [ab z] at e;exact s2 _ _ e
 ·have h1:=gW x1.hh hb
  rw [ab (λz=>h1 (by rw [z];exact hA))]
  exact off b h1 (x1.off b hb hg)
theorem CS.begin{G1 H1:Hp}{Ad:Addr}{ρ:DN}{σ:St}(s:aC G1 H1)(hA:H1 Ad=none)(en:cX Z G1 σ ρ):CS Z G1 H1 Ad ρ [] σ (upd H1 Ad (.lst [])):=
 ⟨G1,[], .refl _,λb o e=>by rw [ab (ah e (s.free hA))];exact s _ _ e,ay hA _,λ_ _ h=>h,s.free hA,aa, .nil,en⟩
variable {tg iter elt:Expr} {ifs:List Expr} {scope:Scope} {NC:List Str} {src:List (Option Nat)} {wi:il} {g:dJ} {tt:dG}
theorem K0:∀σ H Q,dz Z (RF wi g tt te src) σ H Q→JB (qK Z wi) (oF Z g) (liftT Z tt) (dz Z te) src σ H Q:=by
 rintro σ H Q ⟨G,ρ,P,s,en,h,q⟩;refine ⟨G,ρ,_,s,en,h,λds hd J G1 H1 x1 it Ad hA=>?_⟩;refine ⟨λi m cy H2=>m=ds.length-i∧i≤ds.length∧∃dF acc,CS Z G1 H1 Ad dF acc cy H2∧lcW g tt te (ds.drop i) dF acc λ_ out=>P (.lst out),⟨_,rfl,cZ _,_,[], .begin x1.sub hA ((en.mono x1.gg).src src),hd⟩,?_⟩;rintro i m cy H2 ⟨rfl,hi,dF,acc,c,hl⟩
 by_cases bx:i<ds.length
 ·obtain ⟨go,turn⟩:=wI hA G1 it i dF acc cy H2 c (λ_ s=>s) bx hl
  exact .inr ⟨go,_,λav H' n=>⟨ds.length-(i+1),by omega,rfl,bx,n⟩,turn⟩
 ·have e:ds.drop i= []:=xh (by omega)
  rw [e] at hl;obtain ⟨G',x,dv⟩:=c.done x1 hA;obtain ⟨G2,ys,s1,s2,_⟩:=c;exact .inl ⟨(it G2 H2 s1 s2 i).2.1 (by omega),q _ hl _ G' H2 x dv⟩
theorem Bp(hc:X.calm=true)(c:bH X scope)(fP:dm scope X.N src NC)(hi:DI Z X tg iter wi)
  (hg:∀ex s H,DG Z (dO X scope NC ex s H) tg g) (ht:∀ex s H,Ba Z (dO X scope NC ex s H) ifs tt) (he:∀ex s H,DE Z (dO X scope NC ex s H) elt te)
  (hs:∀x,foldedSetIterable iter X.env x=pure x:=by intro _;rfl):DE Z X (.ListComp elt [⟨tg,iter,ifs,0⟩] scope pos) (RF wi g tt te src):=(Co hc c fP hi hg ht he hs).imp K0
variable {t0 i0 t1 i1:Expr} {f0 f1:List Expr} {gr:il} {g1:dJ} {eO:dG}
theorem HZ:∀σ H Q,dz Z (Mz wi g tt gr g1 eO te src) σ H Q→Nl (qK Z wi) (oF Z g) (liftT Z tt) (qK Z gr) (oF Z g1) (liftT Z eO) (dz Z te) src σ H Q:=by
 rintro σ H Q ⟨G,ρ,P,s,en,h,q⟩;refine ⟨G,ρ,_,s,en,h,λds hd J G1 H1 x1 it Ad hA=>?_⟩;refine ⟨λi m cy H2=>m=ds.length-i∧i≤ds.length∧∃dF acc,CS Z G1 H1 Ad dF acc cy H2∧nI g tt gr g1 eO te (ds.drop i) dF acc λout=>P (.lst out),⟨_,rfl,cZ _,_,[], .begin x1.sub hA ((en.mono x1.gg).src src),hd⟩,?_⟩;rintro i m cy H2 ⟨rfl,hi,dF,acc,c,hl⟩
 by_cases bx:i<ds.length
 ·have c0:=c
  obtain ⟨G2,ys,s1,s2,s3,off,gA,om,bB,Oi⟩:=c;obtain ⟨go,_,yld⟩:=it G2 H2 s1 s2 i;refine .inr ⟨go bx,λav H'=>∃aF jd,CS Z G1 H1 Ad aF jd av H'∧nI g tt gr g1 eO te (ds.drop (i+1)) aF jd λout=>P (.lst out),λav H' n=>⟨ds.length-(i+1),by omega,rfl,bx,n⟩,λx H3 y=>?_⟩
  obtain ⟨G3,d,x3,Hq,dv⟩:=yld x H3 bx y;rw [lB Hq] at hl;refine ⟨G3,dF,d,_,x3.sub,Oi.mono x3.gg,dv,hl,λbh h1 cS su=>?_⟩;refine ⟨G3,bh,_,x3.sub,su,h1,λb hb G5 H5 x5=>?_⟩;have mF:=x3.trans x5;have wR:∀{G tu:Hp},Ext G2 H2 G tu→G Ad=none:=λx=>x.off Ad (by rw [om];exact λz=>nomatch z) gA
  have Am:∀{G tu:Hp},Ext G2 H2 G tu→∀b,H1 b≠none→G1 b=none→G b=none:=λx b h1 h2=>x.off b (gW s3 h1) (off b h1 h2);cases b with
  |false=>exact dq ⟨bh,acc,⟨G5,ys,s1.trans mF.gg,mF.sub,s3.trans mF.hh,Am mF,wR mF,mF.hh _ _ om,bB.mono mF.gg,su.mono x5.gg⟩,by simpa using hb⟩
  |true=>
   refine fQ ⟨G5,bh,_,x5.sub,su.mono x5.gg,(by simpa using hb),λes Y5 J1 G6 H6 x6 HL=>?_⟩
   have x:=mF.trans x6;have c6:CS Z G6 H6 Ad bh acc cS H6→True:=λ_=>trivial
   refine ⟨λk m qt H7=>m=es.length-k∧k≤es.length∧∃(JM:DN)(zo:List D),(∃(G:Hp)(ys:List V),aC G6 G∧aC G H7∧aC H1 H7∧(∀b,H1 b≠none→G1 b=none→G b=none)∧G Ad=none∧H7 Ad=some (.lst ys)∧aq Z G ys zo∧cX Z G qt JM)∧
    lcW g1 eO te (es.drop k) JM zo λdF tx=>nI g tt gr g1 eO te (ds.drop (i+1)) dF tx λout=>P (.lst out),
    ⟨_,rfl,cZ _,bh,acc,⟨G6,ys, .refl _,x.sub,s3.trans x.hh,Am x,wR x,x.hh _ _ om,bB.mono x.gg,(su.mono x5.gg).mono x6.gg⟩,Y5⟩,?_⟩
   rintro k m qt H7 ⟨rfl,hk,JM,zo,⟨G7,L5,a1,a2,a3,a4,a5,a6,a7,a8⟩,t8⟩;have Yw:aC G1 G6:=s1.trans x.gg
   by_cases Hu:k<es.length
   ·obtain ⟨YA,_,WS⟩:=HL G7 H7 a1 a2 k
    refine .inr ⟨YA Hu,λav H'=>∃(aF:DN)(jd:List D),(∃(G:Hp)(ys:List V),aC G6 G∧aC G H'∧aC H1 H'∧(∀b,H1 b≠none→G1 b=none→G b=none)∧G Ad=none∧H' Ad=some (.lst ys)∧aq Z G ys jd∧cX Z G av aF)∧
     lcW g1 eO te (es.drop (k+1)) aF jd λdF tx=>nI g tt gr g1 eO te (ds.drop (i+1)) dF tx λout=>P (.lst out),λav H' n=>⟨es.length-(k+1),by omega,rfl,Hu,n⟩,λy H8 hy=>?_⟩
    obtain ⟨G8,d8,x8,Y0,Yj⟩:=WS y H8 Hu hy;rw [lB Y0] at t8;refine ⟨G8,JM,d8,_,x8.sub,a8.mono x8.gg,Yj,t8,λL9 h9 σ9 Ki=>?_⟩;refine ⟨G8,L9,_,x8.sub,Ki,h9,λb hb QA xB JJ=>?_⟩;have xx:=x8.trans JJ;have oA:∀{G tu:Hp},Ext G7 H7 G tu→G Ad=none:=λx=>x.off Ad (by rw [a6];exact λz=>nomatch z) a5
    have oB:∀{G tu:Hp},Ext G7 H7 G tu→∀b,H1 b≠none→G1 b=none→G b=none:=λx b h1 h2=>x.off b (gW a3 h1) (a4 b h1 h2);cases b with
    |false=>exact dq ⟨L9,zo,⟨QA,L5,a1.trans xx.gg,xx.sub,a3.trans xx.hh,oB xx,oA xx,xx.hh _ _ a6,a7.mono xx.gg,Ki.mono JJ.gg⟩,by simpa using hb⟩
    |true=>
     refine fQ ⟨QA,L9,_,JJ.sub,Ki.mono JJ.gg,(by simpa using hb),λd' i8 v W3 Ei WQ Sm=>?_⟩
     have xz:=xx.trans WQ;refine ⟨L5,xz.hh _ _ a6,by rw [a7.length];exact i8.1,L9,_,⟨W3,L5++ [v],a1.trans xz.gg,λb o e=>?_,λb o e=>?_,oB xz,oA xz,aa,(a7.mono xz.gg).snoc Sm,(Ki.mono JJ.gg).mono WQ.gg⟩,i8.2⟩
     ·rw [ab (ah e (oA xz))];exact xz.sub _ _ e
     ·rw [ab (ah e hA)];exact (a3.trans xz.hh) _ _ e
   ·have e:es.drop k= []:=xh (by omega)
    rw [e] at t8;exact .inl ⟨(HL G7 H7 a1 a2 k).2.1 (by omega),JM,zo,⟨G7,L5,Yw.trans a1,a2,a3,a4,a5,a6,a7,a8⟩,t8⟩
 ·have e:ds.drop i= []:=xh (by omega)
  rw [e] at hl;obtain ⟨G',x,dv⟩:=c.done x1 hA;obtain ⟨G2,ys,s1,s2,_⟩:=c;exact .inl ⟨(it G2 H2 s1 s2 i).2.1 (by omega),q _ hl _ G' H2 x dv⟩
theorem J7(hc:X.calm=true)(c:bH X scope)(fP:dm scope X.N src NC)(hi:DI Z X t0 i0 wi)
  (hg:∀ex s H,DG Z (dO X scope NC ex s H) t0 g) (ht:∀ex s H,Ba Z (dO X scope NC ex s H) f0 tt) (vK:∀ex s H,DI Z (dO X scope NC ex s H) t1 i1 gr) (OQ:∀ex s H,DG Z (dO X scope NC ex s H) t1 g1)
  (O7:∀ex s H,Ba Z (dO X scope NC ex s H) f1 eO) (he:∀ex s H,DE Z (dO X scope NC ex s H) elt te)
  (hs:∀x,foldedSetIterable i0 X.env x=pure x:=by intro _;rfl) (E4:∀env x,foldedSetIterable i1 env x=pure x:=by intro _ _;rfl):
  DE Z X (.ListComp elt [⟨t0,i0,f0,0⟩,⟨t1,i1,f1,0⟩] scope pos) (Mz wi g tt gr g1 eO te src):=(Lm hc c fP hi hg ht vK OQ O7 he hs E4).imp HZ
end
inductive cz (R:V→D→List Addr→Prop):List V→List D→List Addr→Prop
 |nil:cz R [] [] []
 |cons {v:V} {vs:List V} {d:D} {ds:List D} {f fs:List Addr}:R v d f→cz R vs ds fs→cz R (v::vs) (d::ds) (f++fs)
def Ue:D→Bool
 | .lst _=>true
 |_=>false
def Own(Z:DC)(G H:Hp):Nat→V→D→List Addr→Prop
 |0,v,d,fp=>Dv Z G v d∧fp= []
 |n+1,v,d,fp=>(∃a xs ds eV,v= .ref a∧d= .lst ds∧H a=some (.lst xs)∧fp=a::eV∧cz (Own Z G H n) xs ds eV)∨(1≤n∧∃a xs ds,v= .ref a∧d= .tup ds∧G a=some (.tup xs)∧cz (λv d f=>(Ue d=true∧Own Z G H n v d f)∨(Ue d=false∧Dv Z G v d∧f= [])) xs ds fp)∨(∃a φ,v= .ref a∧H a=some (.ext φ)∧fp= [a]∧((n=98∧∃b ns,d= .set b ns∧φ=Mb b a ns)∨(n=97∧∃k,d= .x k∧El G a φ k)))
theorem Own.lst{Z:DC}{G H:Hp}{n:Nat}{v:V}{ds:List D}{fp:List Addr}(o:Own Z G H (n+1) v (.lst ds) fp):∃a xs g6 eV,v= .ref a∧D.lst ds= .lst g6∧H a=some (.lst xs)∧fp=a::eV∧cz (Own Z G H n) xs g6 eV:=by
 rcases o with o| ⟨_,a,xs,ds,_,e,_⟩ | ⟨a,φ,_,_,_,⟨_,b,ns,e,_⟩ | ⟨_,k,e,_⟩⟩
 ·exact o
 ·cases e
 ·cases e
 ·cases e
theorem Own.xA{Z:DC}{G H:Hp}{v:V}{k:XD}{fp:List Addr}(o:Own Z G H 98 v (.x k) fp):∃a φ,v= .ref a∧H a=some (.ext φ)∧fp= [a]∧El G a φ k:=by
 rcases o with ⟨_,_,_,_,_,e,_⟩ | ⟨_,a,xs,ds,_,e,_⟩ | ⟨a,φ,h1,h2,h3,⟨_,b,ns,e,e2⟩ | ⟨_,k,e,h4⟩⟩
 ·cases e
 ·cases e
 ·cases e
 ·cases e;exact ⟨a,φ,h1,h2,h3,h4⟩
theorem Own.one{Z:DC}{G H:Hp}{v:V}{d:D}{fp:List Addr}(o:Own Z G H 1 v d fp):∃a xs ds eV,v= .ref a∧d= .lst ds∧H a=some (.lst xs)∧fp=a::eV∧cz (Own Z G H 0) xs ds eV:=by
 rcases o with o| ⟨z,_⟩ | ⟨_,_,_,_,_,⟨z,_⟩ | ⟨z,_⟩⟩
 ·exact o
 ·exact absurd z (by decide)
 ·exact absurd z (by decide)
 ·exact absurd z (by decide)
theorem cz.imp{R R':V→D→List Addr→Prop}:∀{vs:List V}{ds:List D}{fp:List Addr},cz R vs ds fp→(∀v d f,(∀b∈f,b∈fp)→R v d f→R' v d f)→cz R' vs ds fp
 |_,_,_, .nil,_=> .nil
 |_,_,_, .cons a as,h=> .cons (h _ _ _ (λb hb=>fj _ hb) a) (as.imp λv d f hf r=>h v d f (λb hb=>cL _ (hf b hb)) r)
theorem cz.length{R:V→D→List Addr→Prop}:∀{vs:List V}{ds:List D}{fp:List Addr},cz R vs ds fp→vs.length=ds.length
 |_,_,_, .nil=>rfl
 |_,_,_, .cons _ as=>congrArg (·+1) as.length
section
variable {Z:DC} {G G' H H':Hp}
theorem Own.keep:∀{n:Nat}{v:V}{d:D}{fp:List Addr},Own Z G H n v d fp→aC G G'→(∀b∈fp,H' b=H b)→Own Z G' H' n v d fp
 |0,_,_,_,⟨a,b⟩,s,_=>⟨a.mono s,b⟩
 |n+1,_,_,_, .inl ⟨a,xs,ds,eV,hv,hd,ha,hf,ho⟩,s,k=>by
  subst hf;exact .inl ⟨a,xs,ds,eV,hv,hd,by rw [k a (b8 ..)];exact ha,rfl,ho.imp λv d f hb r=>Own.keep r s λb q=>k b (cn _ (hb b q))⟩
 |n+1,_,_,_, .inr (.inl ⟨h1,a,xs,ds,hv,hd,ha,ho⟩),s,k=> .inr (.inl ⟨h1,a,xs,ds,hv,hd,s _ _ ha,ho.imp λv d f hb r=>r.imp (λr=>⟨r.1,Own.keep r.2 s λb q=>k b (hb b q)⟩) λr=>⟨r.1,r.2.1.mono s,r.2.2⟩⟩)
 |n+1,_,_,_, .inr (.inr ⟨a,φ,hv,ha,hf,hx⟩),s,k=> .inr (.inr ⟨a,φ,hv,by rw [k a (by rw [hf];exact b8 ..)];exact ha,hf,hx.imp id λ⟨h1,k,h2,h3⟩=>⟨h1,k,h2,h3.mono s⟩⟩)
theorem cz.zM{R:V→D→List Addr→Prop}:∀{vs:List V}{ds:List D}{fp:List Addr},cz R vs ds fp→(∀v d f,(∀b∈f,b∈fp)→R v d f→Dv Z G' v d)→aq Z G' vs ds
 |_,_,_, .nil,_=> .nil
 |_,_,_, .cons a as,k=> .cons (k _ _ _ (λb hb=>fj _ hb) a) (as.zM λv d f hf r=>k v d f (λb hb=>cL _ (hf b hb)) r)
theorem Own.dv:∀{n:Nat}{v:V}{d:D}{fp:List Addr},Own Z G H n v d fp→aC G G'→(∀b∈fp,∀o,H b=some o→G' b=some o)→Dv Z G' v d
 |0,_,_,_,⟨a,_⟩,s,_=>a.mono s
 |n+1,_,_,_, .inl ⟨a,xs,ds,eV,hv,hd,ha,hf,ho⟩,s,k=>by
  subst hf hv hd;exact .lst (k a (b8 ..) _ ha) (ho.zM λv d f hf r=>Own.dv r s λb hb=>k b (cn _ (hf b hb)))
 |n+1,_,_,_, .inr (.inl ⟨_,a,xs,ds,hv,hd,ha,ho⟩),s,k=>by
  subst hv hd;exact .tup (s _ _ ha) (ho.zM λv d f hf r=>r.elim (λr=>Own.dv r.2 s λb hb=>k b (hf b hb)) λr=>r.2.1.mono s)
 |n+1,_,_,_, .inr (.inr ⟨a,φ,hv,ha,hf,hx⟩),s,k=>by
  subst hv hf
  rcases hx with ⟨_,b,ns,hd,hp⟩ | ⟨_,kx,hd,hp⟩
  ·subst hd hp
   exact .set (k a (b8 ..) _ ha)
  ·subst hd
   exact .x (k a (b8 ..) _ ha) (hp.mono s)
theorem cz.flat:∀{vs:List V}{ds:List D}{fp:List Addr},cz (Own Z G H 0) vs ds fp→aq Z G vs ds∧fp= []
 |_,_,_, .nil=>⟨.nil,rfl⟩
 |_,_,_, .cons a as=>by
  obtain ⟨h1,h2⟩:=as.flat;obtain ⟨a1,a2⟩:=a;exact ⟨.cons a1 h1,by rw [a2,h2];rfl⟩
theorem aq.own:∀{vs:List V}{ds:List D},aq Z G vs ds→cz (Own Z G H 0) vs ds []
 |_,_, .nil=> .nil
 |_,_, .cons a as=> .cons (f:= []) (fs:= []) ⟨a,rfl⟩ as.own
end
mutual
def lR:D→Bool
 | .aL=>true
 | .bl _=>true
 | .int _=>true
 | .str _=>true
 | .tup l=>DL l
 |_=>false
def DL:List D→Bool
 | []=>true
 |d::ds=>lR d&&DL ds
end
mutual
theorem Dv.lR{Z:DC}{G G':Hp}(k:∀b xs,G b=some (.tup xs)→G' b=some (.tup xs)):∀{v:V}{d:D},Dv Z G v d→L2.lR d=true→Dv Z G' v d
 |_,_, .aL,_=> .aL
 |_,_, .bl b,_=> .bl b
 |_,_, .int i,_=> .int i
 |_,_, .str x h,_=> .str x h
 |_,_, .tup h a,f=> .tup (k _ _ h) (aq.lR k a (by rw [L2.lR] at f;exact f))
 |_,_, .lst _ _,f=>by simp [L2.lR] at f
 |_,_, .obj _,f=>by simp [L2.lR] at f
 |_,_, .rng _,f=>by simp [L2.lR] at f
 |_,_, .jb _ _,f=>by simp [L2.lR] at f
 |_,_, .fV _ _ _ _ _,f=>by simp [L2.lR] at f
 |_,_, .set _,f=>by simp [L2.lR] at f
 |_,_, .x _ _,f=>by simp [L2.lR] at f
theorem aq.lR{Z:DC}{G G':Hp}(k:∀b xs,G b=some (.tup xs)→G' b=some (.tup xs)):∀{vs:List V}{ds:List D},aq Z G vs ds→DL ds=true→aq Z G' vs ds
 |_,_, .nil,_=> .nil
 |_,_, .cons a as,f=>by
  rw [DL,xq] at f;exact .cons (Dv.lR k a f.1) (aq.lR k as f.2)
end
def Ng:HO→Bool
 | .lst _=>true
 | .ext _=>true
 |_=>false
theorem Own.Of{Z:DC}{G G' H:Hp}:∀{n:Nat}{v:V}{d:D}{fp:List Addr},Own Z G H n v d fp→aC G G'→(∀b∈fp,∀o,Ng o=true→H b=some o→G' b=some o)→Dv Z G' v d
 |0,_,_,_,⟨a,_⟩,s,_=>a.mono s
 |n+1,_,_,_, .inl ⟨a,xs,ds,eV,hv,hd,ha,hf,ho⟩,s,k=>by
  subst hf hv hd;exact .lst (k a (b8 ..) _ rfl ha) (ho.zM λv d f hf r=>Own.Of r s λb hb=>k b (cn _ (hf b hb)))
 |n+1,_,_,_, .inr (.inl ⟨_,a,xs,ds,hv,hd,ha,ho⟩),s,k=>by
  subst hv hd;exact .tup (s _ _ ha) (ho.zM λv d f hf r=>r.elim (λr=>Own.Of r.2 s λb hb=>k b (hf b hb)) λr=>r.2.1.mono s)
 |n+1,_,_,_, .inr (.inr ⟨a,φ,hv,ha,hf,hx⟩),s,k=>by
  subst hv hf
  rcases hx with ⟨_,b,ns,hd,hp⟩ | ⟨_,kx,hd,hp⟩
  ·subst hd hp
   exact .set (k a (b8 ..) _ rfl ha)
  ·subst hd
   exact .x (k a (b8 ..) _ rfl ha) (hp.mono s)
structure Bs where
 G₀:Hp
 H₀:Hp
 Gf:Hp
structure SIx (Z:DC) (B:Bs) (md:List Nat) (ρ:DN) (σ:St) (H G:Hp) (fp:Nat→List Addr):Prop where
 ex:Ext B.G₀ B.H₀ G H
 fl:aC B.Gf G
 len:ρ.length=σ.length
 at_:∀(i:Nat)(d:D),ρ[i]? =some (some d)→∃v,σ[i]? =some (some v)∧Own Z G H (md.getD i 0) v d (fp i)
 nd:∀i,(fp i).Nodup
 ap:∀i j b,i≠j→b∈fp i→b∉fp j
 nw:∀i b,b∈fp i→B.H₀ b=none∧H b≠none∧G b=none
def SI(Z:DC)(B:Bs)(md:List Nat)(ρ:DN)(σ:St)(H:Hp):Prop:=∃G fp,SIx Z B md ρ σ H G fp
def cN:List Nat→DN→DN
 |_,[]=> []
 | [],o::ρ=>o::ρ
 |0::md,o::ρ=>o::cN md ρ
 | (_+1)::md,_::ρ=>none::cN md ρ
theorem oN:∀(md:List Nat)(ρ:DN),(cN md ρ).length=ρ.length
 |md,[]=>by cases md<;>rfl
 | [],o::ρ=>rfl
 |0::md,o::ρ=>by rw [cN,cv,oN md ρ,cv]
 | (_+1)::md,_::ρ=>by rw [cN,cv,oN md ρ,cv]
theorem qR{d:D}:∀(md:List Nat)(ρ:DN)(i:Nat),(cN md ρ)[i]? =some (some d)→md.getD i 0=0∧ρ[i]? =some (some d)
 |md,[],i,h=>by cases md<;>simp [cN] at h
 | [],o::ρ,i,h=>⟨by simp,h⟩
 |0::md,o::ρ,0,h=>⟨rfl,by simpa [cN] using h⟩
 |0::md,o::ρ,i+1,h=>by
  rw [cN,qm] at h;obtain ⟨a,b⟩:=qR md ρ i h;exact ⟨by rw [zi];exact a,by rw [qm];exact b⟩
 | (_+1)::md,_::ρ,0,h=>by simp [cN] at h
 | (_+1)::md,_::ρ,i+1,h=>by
  rw [cN,qm] at h;obtain ⟨a,b⟩:=qR md ρ i h;exact ⟨by rw [zi];exact a,by rw [qm];exact b⟩
def CU(md:List Nat):Bool→DN→DN
 |true,ρ=>ρ
 |false,ρ=>cN md ρ
def pB:Bool→D→Prop
 |true,d=>lR d=true
 |false,_=>True
section
variable {Z:DC} {B:Bs} {md:List Nat} {ρ:DN} {σ:St} {H G:Hp} {fp:Nat→List Addr}
theorem Cw{i:Nat}{d:D}(h:(cN md ρ)[i]? =some (some d)):md.getD i 0=0∧ρ[i]? =some (some d):=qR md ρ i h
theorem SIx.zO(S:SIx Z B md ρ σ H G fp):cX Z G σ (cN md ρ):=by
 refine ⟨by rw [oN];exact S.len,λi d h=>?_⟩
 obtain ⟨z,h⟩:=Cw h;obtain ⟨v,hv,o⟩:=S.at_ i d h;rw [z] at o;exact ⟨v,hv,o.1⟩
theorem SIx.GU(S:SIx Z B md ρ σ H G fp):cX Z H σ ρ:=by
 refine ⟨S.len,λi d h=>?_⟩;obtain ⟨v,hv,o⟩:=S.at_ i d h;exact ⟨v,hv,o.dv S.ex.sub λb _ u e=>e⟩
theorem SIx.grow{G' H':Hp}(S:SIx Z B md ρ σ H G fp)(x:Ext G H G' H'):SIx Z B md ρ σ H' G' fp where
 ex:=S.ex.trans x
 fl:=S.fl.trans x.gg
 len:=S.len
 at_:=λi d h=>by
  obtain ⟨v,hv,o⟩:=S.at_ i d h;refine ⟨v,hv,o.keep x.gg λb hb=>?_⟩;cases e:H b with
  |none=>exact absurd e (S.nw i b hb).2.1
  |some u=>exact x.hh _ _ e
 nd:=S.nd
 ap:=S.ap
 nw:=λi b hb=>let ⟨h1,h2,h3⟩:=S.nw i b hb;⟨h1,gW x.hh h2,x.off b h2 h3⟩
theorem Ext.all{G' H':Hp}(s:aC G H)(x:Ext H H G' H'):Ext G H G H':=⟨.refl _,s.trans x.hh,x.hh,λ_ _ h=>h⟩
open Classical in
noncomputable def hZ(G H:Hp)(fp:Nat→List Addr):Hp:=λb=>if ∃i,b∈fp i then (match H b with|some (.lst xs)=>some (.lst xs) |some (.ext φ)=>some (.ext φ) |_=>none) else G b
open Classical in
noncomputable def qH(G:Hp)(fp:Nat→List Addr):Hp:=λb=>if ∃i,b∈fp i then none else G b
theorem FQ{b:Addr}{o:HO}(i:Nat)(h:b∈fp i)(ho:Ng o=true)(e:H b=some o):hZ G H fp b=some o:=by
 unfold hZ;rw [if_pos ⟨i,h⟩,e];cases o<;>first|rfl|cases ho
theorem oZ{b:Addr}(h:¬∃i,b∈fp i):hZ G H fp b=G b:=if_neg h
theorem SIx.ME(S:SIx Z B md ρ σ H G fp):aC G (hZ G H fp)∧aC (hZ G H fp) H∧cX Z (hZ G H fp) σ ρ:=by
 have s1:aC G (hZ G H fp):=λb o e=>by
  by_cases h:∃i,b∈fp i
  ·obtain ⟨i,hi⟩:=h
   rw [(S.nw i b hi).2.2] at e;cases e
  ·rw [oZ h];exact e
 refine ⟨s1,λb o e=>?_,S.len,λi d h=>?_⟩
 ·by_cases h:∃i,b∈fp i
  ·unfold hZ at e
   rw [if_pos h] at e
   split at e
   ·next xs hx=>rw [hx];exact e
   ·next φ hx=>rw [hx];exact e
   ·cases e
  ·rw [oZ h] at e;exact S.ex.sub _ _ e
 ·obtain ⟨v,hv,o⟩:=S.at_ i d h
  exact ⟨v,hv,o.Of s1 λb hb u hu hx=>FQ i hb hu hx⟩
theorem SIx.VA{G' H':Hp}(S:SIx Z B md ρ σ H G fp)(x:Ext (hZ G H fp) H G' H'):Ext G H (qH G' fp) H'∧∀b xs,G' b=some (.tup xs)→qH G' fp b=some (.tup xs):=by
 obtain ⟨s1,s2,_⟩:=S.ME;refine ⟨⟨λb o e=>?_,λb o e=>?_,x.hh,λb hb hg=>?_⟩,λb xs e=>?_⟩
 ·have h:¬∃i,b∈fp i:=by
   rintro ⟨i,hi⟩;rw [(S.nw i b hi).2.2] at e;cases e
  unfold qH;rw [if_neg h];exact x.gg _ _ (s1 _ _ e)
 ·unfold qH at e
  split at e
  ·cases e
  ·exact x.sub _ _ e
 ·unfold qH
  split
  ·rfl
  ·next h=>exact x.off b hb (by rw [oZ h];exact hg)
 ·have h:¬∃i,b∈fp i:=by
   rintro ⟨i,hi⟩;have hb:=(S.nw i b hi).2.1;cases hw:hZ G H fp b with
   |none=>rw [x.off b hb hw] at e;cases e
   |some o=>
    have:=x.gg _ _ hw
    rw [e] at this;cases this;unfold hZ at hw;rw [if_pos ⟨i,hi⟩] at hw
    split at hw<;>cases hw
  unfold qH;rw [if_neg h];exact e
theorem SIx.ev{t:ba}{P:D→Prop}{Q:VK}(S:SIx Z B md ρ σ H G fp)(m:Bool)(h:t (CU md m ρ) P)
  (hq:∀d,P d→pB m d∧∀v G' H',SIx Z B md ρ σ H' G' fp→Ext G H G' H'→Dv Z G' v d→Q v H'):dz Z t σ H Q:=by
 cases m with
 |false=>exact ⟨G,_,P,S.ex.sub,S.zO,h,λd hd v G' H' x dv=>(hq d hd).2 v G' H' (S.grow x) x dv⟩
 |true=>
  obtain ⟨s1,s2,e⟩:=S.ME;refine ⟨hZ G H fp,_,P,s2,e,h,λd hd v G' H' x dv=>?_⟩;obtain ⟨x',k⟩:=S.VA x;exact (hq d hd).2 v _ H' (S.grow x') x' (dv.lR k (hq d hd).1)
theorem SIx.Su{t:dG}{P:Bool→Prop}{Q:Bool→Hp→Prop}(S:SIx Z B md ρ σ H G fp)(h:t ρ P)(hq:∀b,P b→∀H',SIx Z B md ρ σ H' G fp→Q b H'):liftT Z t σ H Q:=
 ⟨H,ρ,P, .refl _,S.GU,h,λb hb G' H' x=>hq b hb H' (S.grow (Ext.all S.ex.sub x))⟩
theorem SIx.nO{i:Nat}{v:V}{d:D}(S:SIx Z B md ρ σ H G fp)(hm:md.getD i 0=0)(dv:Dv Z G v d):SIx Z B md (ρ.set i (some d)) (σ.set i (some v)) H G (λj=>if j=i then [] else fp j) where
 ex:=S.ex
 fl:=S.fl
 len:=by rw [fC,fC];exact S.len
 at_:=λj c h=>by
  by_cases z:i=j
  ·subst z
   by_cases hi:i<ρ.length
   ·rw [mH hi] at h
    cases h;exact ⟨v,mH (by rw [←S.len];exact hi),by rw [hm,if_pos rfl];exact ⟨dv,rfl⟩⟩
   ·rw [A0 (kW hi),js (kW hi)] at h;cases h
  ·rw [r8 z] at h ⊢
   rw [if_neg (Ne.symm z)];exact S.at_ j c h
 nd:=λj=>by split;exact ju;exact S.nd j
 ap:=λj k b ne hj hk=>by
  split at hj
  ·cases hj
  ·split at hk
   ·cases hk
   ·exact S.ap j k b ne hj hk
 nw:=λj b hb=>by
  split at hb
  ·cases hb
  ·exact S.nw j b hb
theorem SIx.Jo{i n:Nat}{v:V}{d:D}{f:List Addr}(S:SIx Z B md ρ σ H G fp)(hm:md.getD i 0=n)(o:Own Z G H n v d f)(nd:f.Nodup)(nw:∀b∈f,B.H₀ b=none∧H b≠none∧G b=none)(ap:∀b∈f,∀j,j≠i→b∉fp j):
  SIx Z B md (ρ.set i (some d)) (σ.set i (some v)) H G (λj=>if j=i then f else fp j) where
 ex:=S.ex
 fl:=S.fl
 len:=by rw [fC,fC];exact S.len
 at_:=λj c h=>by
  by_cases z:i=j
  ·subst z
   by_cases hi:i<ρ.length
   ·rw [mH hi] at h
    cases h;exact ⟨v,mH (by rw [←S.len];exact hi),by rw [hm,if_pos rfl];exact o⟩
   ·rw [A0 (kW hi),js (kW hi)] at h;cases h
  ·rw [r8 z] at h ⊢
   rw [if_neg (Ne.symm z)];exact S.at_ j c h
 nd:=λj=>by split;exact nd;exact S.nd j
 ap:=λj k b ne hj hk=>by
  split at hj
  ·next z=>
   rw [if_neg (λw=>ne (z.trans w.symm))] at hk;exact ap b hj k (λw=>ne (z.trans w.symm)) hk
  ·next z=>
   split at hk
   ·exact ap b hk j z hj
   ·exact S.ap j k b ne hj hk
 nw:=λj b hb=>by
  split at hb
  ·exact nw b hb
  ·exact S.nw j b hb
noncomputable def plus(G H:Hp)(F:Addr→Prop):Hp:=λb=>open Classical in if F b then H b else G b
theorem eX{F:Addr→Prop}{b:Addr}(h:F b):plus G H F b=H b:=by unfold plus;rw [if_pos h]
theorem dD{F:Addr→Prop}{b:Addr}(h:¬F b):plus G H F b=G b:=by unfold plus;rw [if_neg h]
theorem jW{F:Addr→Prop}(s:aC G H):aC (plus G H F) H:=λb o e=>by
 by_cases h:F b
 ·rw [eX h] at e;exact e
 ·rw [dD h] at e;exact s _ _ e
theorem iI{F:Addr→Prop}(s:aC G H):aC G (plus G H F):=λb o e=>by
 by_cases h:F b
 ·rw [eX h];exact s _ _ e
 ·rw [dD h];exact e
theorem SIx.Yn{t:ba}{P:D→Prop}{Q:VK}(S:SIx Z B md ρ σ H G fp)(h:t ρ P)(hq:∀d,P d→∀v G' H',Ext B.G₀ B.H₀ G' H'→Dv Z G' v d→Q v H'):dz Z t σ H Q:=by
 let F:Addr→Prop:=λb=>∃i,b∈fp i
 have s:=S.ex.sub
 have x0:Ext B.G₀ B.H₀ (plus G H F) H:=⟨S.ex.gg.trans (iI s),jW s,S.ex.hh,λb hb hg=>by
  rw [dD (λ⟨i,hi⟩=>hb (S.nw i b hi).1)];exact S.ex.off b hb hg⟩
 refine ⟨plus G H F,ρ,P,jW s,⟨S.len,λi d h=>?_⟩,h,λd hd v G' H' x dv=>hq d hd v G' H' (x0.trans x) dv⟩;obtain ⟨v,hv,o⟩:=S.at_ i d h;exact ⟨v,hv,o.dv (iI s) λb hb u e=>by rw [eX ⟨i,hb⟩];exact e⟩
end
structure fY where
 nx:DN→Prop
 rt:D→Prop
 bk:DN→Prop:=λ_=>False
 ct:DN→Prop:=λ_=>False
abbrev dh:=fY→DN→Prop
structure Meets (Z:DC) (B:Bs) (md:List Nat) (rn:Nat) (E:fY) (Dn:Ends):Prop where
 nx:∀ρ,E.nx ρ→∀σ H,SI Z B md ρ σ H→Dn.nx σ H
 rt:∀d,E.rt d→∀v f G' H',Ext B.G₀ B.H₀ G' H'→Own Z G' H' rn v d f→f.Nodup→(∀b∈f,B.H₀ b=none∧H' b≠none∧G' b=none)→Dn.rt v H'
 bk:∀ρ,E.bk ρ→∀σ H,SI Z B md ρ σ H→Dn.bk σ H
 ct:∀ρ,E.ct ρ→∀σ H,SI Z B md ρ σ H→Dn.ct σ H
def oG(Z:DC)(md:List Nat)(rn:Nat)(t:dh):TS:=λDn σ H=>∃(B:Bs)(ρ:DN)(E:fY),SI Z B md ρ σ H∧t E ρ∧Meets Z B md rn E Dn
def DSt(Z:DC)(X:Cx)(md:List Nat)(rn:Nat)(st:Stmt)(t:dh):Prop:=PS X st (oG Z md rn t)
def tm(Z:DC)(X:Cx)(md:List Nat)(rn:Nat)(LW:List Stmt)(t:dh):Prop:=kY X LW (oG Z md rn t)
theorem PS.imp{X:Cx}{st:Stmt}{t t':TS}(h:PS X st t)(f:∀D σ H,t' D σ H→t D σ H):PS X st t':=λpins s σ H D I q=>h pins s σ H D I (f _ _ _ q)
theorem kY.imp{X:Cx}{st:List Stmt}{t t':TS}(h:kY X st t)(f:∀D σ H,t' D σ H→t D σ H):kY X st t':=λpins s σ H D I q=>h pins s σ H D I (f _ _ _ q)
section
variable {Z:DC} {X:Cx} {md:List Nat} {rn:Nat} {st:Stmt} {LW:List Stmt} {t u:dh} {e:Expr} {te:ba} {pos:Pos}
def Gn:dh:=λE ρ=>E.nx ρ
def dSeq(t u:dh):dh:=λE ρ=>t {E with nx:=u E} ρ
theorem bL:tm Z X md rn [] Gn:=lV.imp λD σ H ⟨B,ρ,E,S,h,M⟩=>M.nx _ h _ _ S
theorem au(h1:DSt Z X md rn st t)(h2:tm Z X md rn LW u):tm Z X md rn (st::LW) (dSeq t u):=
 (aD h1 h2).imp λD σ H ⟨B,ρ,E,S,h,M⟩=>⟨B,ρ,_,S,h,⟨λaF h' av H' S'=>⟨B,aF,E,S',h',M⟩,M.rt,M.bk,M.ct⟩⟩
theorem aw(h1:DSt Z X md rn st t):tm Z X md rn [st] t:=bg h1
theorem wc:DSt Z X md rn st (λ_ _=>False):=Fw.imp λD σ H ⟨B,ρ,E,S,h,M⟩=>h
def RL(te:ba):dh:=λE ρ=>te ρ E.rt
theorem bA(he:DE Z X e te):DSt Z X md 0 (.Return (some e) pos) (RL te):=(fh he).imp λD σ H ⟨B,ρ,E,⟨G,fp,S⟩,h,M⟩=>S.Yn h λd hd v G' H' x dv=>M.rt d hd v [] G' H' x ⟨dv,rfl⟩ ju (λb hb=>by cases hb)
def Mx(c:dG)(t u:dh):dh:=λE ρ=>c ρ λb=>if b=true then t E ρ else u E ρ
theorem eF{c:Expr}{a b:List Stmt}{tc:dG}(hc:DT Z X c tc)(ha:tm Z X md rn a t)(hb:tm Z X md rn b u):DSt Z X md rn (.If c a b pos) (Mx tc t u):=by
 refine (uM hc ha hb).imp ?_;rintro D σ H ⟨B,ρ,E,⟨G,fp,S⟩,h,M⟩;refine S.Su h λb hb H' S'=>?_;cases b with
 |true=>exact fQ ⟨B,ρ,E,⟨G,fp,S'⟩,(by simpa using hb),M⟩
 |false=>exact dq ⟨B,ρ,E,⟨G,fp,S'⟩,(by simpa using hb),M⟩
def RM(md:List Nat)(m:Bool)(i:Nat)(te:ba):dh:=λE ρ=>te (CU md m ρ) λd=>pB m d∧E.nx (ρ.set i (some d))
theorem cP(m:Bool)(i:Nat){x:Str}{pos':Pos}(hN:X.N.Nodup)(he:DE Z X e te)(hm:md.getD i 0=0:=by rfl)(hi:X.N[i]? =some x:=by rfl)(hx:Loc X.env.scope x:=by first|exact Or.inl rfl|exact Or.inr rfl)(hs:swapsWith e (some (.Name x pos')) pos.line X.env=pure false:=by rfl)
  (hf:X.fn x=true∨X.env.scope.names.lookup x=some .local:=by first|exact .inl rfl|exact .inr rfl|assumption):DSt Z X md rn (.Assign [.Name x pos'] e pos) (RM md m i te):=by
 refine (bC hN hi hx he hs hf).imp ?_;rintro D σ H ⟨B,ρ,E,⟨G,fp,S⟩,h,M⟩;exact S.ev m h λd hd=>⟨hd.1,λv G' H' S' x dv=>M.nx _ hd.2 _ _ ⟨G',_,S'.nO hm dv⟩⟩
end
end L2
namespace L2
open PySem PySem.Spec PyProof.Rows
section
variable {Z:DC} {X:Cx} {B:Bs} {md:List Nat} {rn:Nat} {ρ:DN} {σ:St} {H G:Hp} {fp:Nat→List Addr}
def DJ(Z:DC)(md:List Nat)(g:dJ):TG:=λv σ H Q=>∃(B:Bs)(ρ:DN)(d:D)(P:DN→Prop)(G:Hp)(fp:Nat→List Addr),SIx Z B md ρ σ H G fp∧Dv Z G v d∧g d ρ P∧∀aF,P aF→∀av Bx,SIx Z B md aF av H G Bx→Q av H
def HY(Z:DC)(md:List Nat)(g:kK):vE:=λvs σ H Q=>∃(B:Bs)(ρ:DN)(ds:List D)(P:DN→Prop)(G:Hp)(fp:Nat→List Addr),SIx Z B md ρ σ H G fp∧aq Z G vs ds∧g ds ρ P∧∀aF,P aF→∀av Bx,SIx Z B md aF av H G Bx→Q av H
def Eg(Z:DC)(X:Cx)(md:List Nat)(e:Expr)(g:dJ):Prop:=PG X e (DJ Z md g)
def C6(Z:DC)(X:Cx)(md:List Nat)(es:List Expr)(g:kK):Prop:=xD X es (HY Z md g)
theorem aO(i:Nat){x:Str}{pos:Pos}(hN:X.N.Nodup)(hm:md.getD i 0=0:=by rfl)(hi:X.N[i]? =some x:=by rfl)(hx:Loc X.env.scope x:=by first|exact Or.inl rfl|exact Or.inr rfl)(hf:X.fn x=true∨X.env.scope.names.lookup x=some .local:=by first|exact .inl rfl|exact .inr rfl|assumption):Eg Z X md (.Name x pos) (mM i):=
 (bI hN hi hx hf).imp λv σ H Q ⟨B,ρ,d,P,G,fp,S,dv,h,q⟩=>q _ h _ _ (S.nO hm dv)
theorem dY:C6 Z X md [] GA:=jU.imp λv σ H Q ⟨B,ρ,ds,P,G,fp,S,dv,⟨h,p⟩,q⟩=>by
 subst h;cases dv;exact ⟨rfl,q _ p _ _ S⟩
theorem aY{e:Expr}{es:List Expr}{g:dJ}{gs:kK}(h1:Eg Z X md e g)(h2:C6 Z X md es gs)(hs:(assignEach (e::es) X.env).map (·.2)=assign e X.env::(assignEach es X.env).map (·.2):=by rfl):C6 Z X md (e::es) (Dl g gs):=by
 refine (dZ h1 h2 hs).imp ?_;rintro v σ H Q ⟨B,ρ,ds,P,G,fp,S,dv,h,q⟩;cases dv with
 |nil=>exact h.elim
 |cons a as=>exact ⟨_,_,rfl,B,ρ,_,_,G,fp,S,a,h,λaF hp av Bx S'=>⟨B,aF,_,P,G,Bx,S',as,hp,q⟩⟩
theorem gL(n:Nat){es:List Expr}{k:Nat}{pos:Pos}{gs:kK}(hc:X.calm=true)(h:C6 Z X md es gs)(hn:(assignEach es X.env).length=n:=by rfl)(yh:(assignEach es X.env).findIdx? (·.1)=none:=by rfl):Eg Z X md (.Tuple es k pos) (GB n gs):=by
 refine (mY hc h hn yh).imp ?_;rintro v σ H Q ⟨B,ρ,d,P,G,fp,S,dv,h,q⟩;cases dv<;>first|exact h.elim|skip
 rename_i a xs ds ha es
 exact ⟨a,xs,rfl,cJ.of (S.ex.sub _ _ ha),by rw [es.length];exact h.1,B,ρ,_,P,G,fp,S,es,h.2,q⟩
def RA(md:List Nat)(te:ba)(g:dJ):dh:=λE ρ=>te (cN md ρ) λd=>g d ρ E.nx
theorem xP{tg e:Expr}{te:ba}{g:dJ}{pos:Pos}(he:DE Z X e te)(hg:Eg Z X md tg g)(hs:swapsWithSole [tg] e pos.line X.env=pure false:=by rfl)(hw:swappedStores [tg] e X.env=pure none:=by rfl)
  (h1:(assignEach [tg] X.env).map (·.2)= [assign tg X.env]:=by rfl):DSt Z X md rn (.Assign [tg] e pos) (RA md te g):=by
 refine (mZ he hg hs hw h1).imp ?_;rintro D σ H ⟨B,ρ,E,⟨G,fp,S⟩,h,M⟩;exact S.ev false h λd hd=>⟨trivial,λv G' H' S' x dv=>⟨B,ρ,d,E.nx,G',fp,S',dv,hd,λaF h' av Bx S2=>M.nx _ h' _ _ ⟨G',Bx,S2⟩⟩⟩
def ji(g:dJ)(tb:dh)(E:fY):List D→DN→Prop
 | [],ρ=>E.nx ρ
 |x::xs,ρ=>g x ρ λbh=>tb {nx:=ji g tb E xs,ct:=ji g tb E xs,bk:=E.nx,rt:=E.rt} bh
def Mw(md:List Nat)(m:Bool)(wi:il)(g:dJ)(tb:dh):dh:=λE ρ=>wi (CU md m ρ) λds=>ji g tb E ds ρ
theorem wy{D':Ends}{J:It}{ds:List D}{g:dJ}{tb:dh}{E:fY}(S:SIx Z B md ρ σ H G fp)(it:rg Z G J ds)(hd:ji g tb E ds ρ)(M:Meets Z B md rn E D'):
  ∃W:Nat→Nat→St→Hp→Prop,(∃m,W 0 m σ H)∧∀i m σ H,W i m σ H→
   (J.stop i H∧D'.nx σ H)∨(J.go i H∧∃N:St→Hp→Prop,(∀av H',N av H'→∃m',m'<m∧W (i+1) m' av H')∧∀x H',J.yld i H x H'→DJ Z md g x σ H' λcy H2=>oG Z md rn tb {D' with nx:=N,ct:=N,bk:=D'.nx} cy H2):=by
 let B1:Bs:={B with Gf:=G}
 have back:∀ρ σ H,SI Z B1 md ρ σ H→SI Z B md ρ σ H:=λρ σ H ⟨G2,By,S2⟩=>⟨G2,By,⟨S2.ex,S.fl.trans S2.fl,S2.len,S2.at_,S2.nd,S2.ap,S2.nw⟩⟩;have S1:SIx Z B1 md ρ σ H G fp:=⟨S.ex, .refl _,S.len,S.at_,S.nd,S.ap,S.nw⟩;refine ⟨λi m σ H=>m=ds.length-i∧i≤ds.length∧∃ρ,SI Z B1 md ρ σ H∧ji g tb E (ds.drop i) ρ,⟨_,rfl,cZ _,ρ,⟨G,fp,S1⟩,hd⟩,?_⟩;rintro i m cy H2 ⟨rfl,hi,dF,⟨G2,By,S2⟩,hf⟩;obtain ⟨go,stop,yld⟩:=it G2 H2 S2.fl S2.ex.sub i
 by_cases bx:i<ds.length
 ·refine .inr ⟨go bx,λav H'=>∃aF,SI Z B1 md aF av H'∧ji g tb E (ds.drop (i+1)) aF,λav H' n=>⟨ds.length-(i+1),by omega,rfl,bx,n⟩,λx H' y=>?_⟩
  obtain ⟨G3,d,x3,Hq,dv⟩:=yld x H' bx y;rw [lB Hq] at hf;refine ⟨B1,dF,d,_,G3,By,S2.grow x3,dv,hf,λρ4 h4 cS Yt S4=>?_⟩;exact ⟨B1,ρ4,_,⟨G3,Yt,S4⟩,h4,⟨λaF h' av H' s'=>⟨aF,s',h'⟩,M.rt,λaF h' av H' s'=>M.nx _ h' _ _ (back _ _ _ s'),λaF h' av H' s'=>⟨aF,s',h'⟩⟩⟩
 ·have e:ds.drop i= []:=xh (by omega)
  rw [e] at hf;exact .inl ⟨stop (by omega),M.nx _ hf _ _ (back _ _ _ ⟨G2,By,S2⟩)⟩
variable {tg iter:Expr} {body:List Stmt} {wi:il} {g:dJ} {tb:dh} {pos:Pos}
theorem eJ(hc:X.calm=true)(hp:PassesOwn (model X.prog X.w) X.A X.env X.xe)(hi:DI Z X tg iter wi)(hg:Eg Z X md tg g)(hb:tm Z X md rn body tb)
  (hs:∀x,foldedSetIterable iter X.env x=pure x:=by intro _;rfl):DSt Z X md rn (.For tg iter body [] pos) (Mw md false wi g tb):=by
 refine (iB hp hc hi hg hb hs).imp ?_;rintro D σ H ⟨B,ρ,E,⟨G,fp,S⟩,h,M⟩;exact ⟨G,_,_,S.ex.sub,S.zO,h,λds hd J G1 H1 x1 it=>wy (S.grow x1) it hd M⟩
def KZ(Z:DC)(wi:il):TI:=λσ H R=>∃(G:Hp)(ρ:DN)(P:List D→Prop),aC G H∧cX Z G σ ρ∧wi ρ P∧∀ds,P ds→∀J G' H',Ext G H G' H'→(∀G2,rg Z G2 J ds)→R J H'
def Qz(Z:DC)(X:Cx)(tg e:Expr)(wi:il):Prop:=PI X tg e (KZ Z wi)
theorem GJ(hc:X.calm=true)(hp:PassesOwn (model X.prog X.w) X.A X.env X.xe)(hi:Qz Z X tg iter wi)(hg:Eg Z X md tg g)(hb:tm Z X md rn body tb)
  (hs:∀x,foldedSetIterable iter X.env x=pure x:=by intro _;rfl):DSt Z X md rn (.For tg iter body [] pos) (Mw md true wi g tb):=by
 refine (iB hp hc hi hg hb hs).imp ?_;rintro D σ H ⟨B,ρ,E,⟨G,fp,S⟩,h,M⟩;exact ⟨H,ρ,_, .refl _,S.GU,h,λds hd J G1 H1 x1 it=>wy (S.grow (Ext.all S.ex.sub x1)) (it _) hd M⟩
variable {a b e:Expr} {ta te:ba} {t:jv}
theorem Bq{p:Pos}(hg:Gl X "range")(hm:X.mg "range"=none)(ha:DA Z X [a] t)(hs:starEach [a] X.env= [(false,eval a X.env)]:=by rfl):Qz Z X tg (.Call (.Name "range" p) [a] [] pos) (Sh t):=by
 refine (kD hg hm ha hs).imp ?_;rintro σ H Q ⟨G,ρ,P,s,en,h,q⟩;refine ⟨G,ρ,_,s,en,h,λds hd vs G1 H1 x1 dv=>?_⟩
 split at hd
 ·obtain ⟨_,rfl,a⟩:=dv.ofOne
  exact ⟨_,by rw [a.ofInt],hd.1.1,hd.1.2,q _ hd.2 _ G1 H1 x1 λ_=>E7 0 _⟩
 ·exact hd.elim
def Dj(c:dG)(tb:dh):dh:=λE ρ=>∃W:Nat→DN→Prop,(∃m,W m ρ)∧∀m ρ,W m ρ→c ρ λb=>if b=true then tb {nx:=λaF=>∃m',m'<m∧W m' aF,ct:=λaF=>∃m',m'<m∧W m' aF,bk:=E.nx,rt:=E.rt} ρ else E.nx ρ
theorem qB{c:Expr}{tc:dG}(hp:PassesOwn (model X.prog X.w) X.A X.env X.xe)(hc:DT Z X c tc)(hb:tm Z X md rn body tb):DSt Z X md rn (.While c body [] pos) (Dj tc tb):=by
 refine (wW hp hc hb).imp ?_;rintro D σ H ⟨B,ρ,E,S,⟨W,⟨m0,w0⟩,turn⟩,M⟩;refine ⟨λm σ H=>∃ρ,SI Z B md ρ σ H∧W m ρ,⟨m0,ρ,S,w0⟩,?_⟩;rintro m cy H2 ⟨dF,⟨G2,By,S2⟩,w2⟩;refine S2.Su (turn m dF w2) λb hb H' S'=>?_;cases b with
 |false=>exact dq (M.nx _ (by simpa using hb) _ _ ⟨G2,By,S'⟩)
 |true=>
  refine fQ ⟨λav H'=>∃aF m',m'<m∧SI Z B md aF av H'∧W m' aF,λav H' ⟨aF,m',h1,h2,h3⟩=>⟨m',h1,aF,h2,h3⟩,B,dF,_,⟨G2,By,S'⟩,(by simpa using hb),?_⟩
  exact ⟨λaF ⟨m',h1,h2⟩ av H' s'=>⟨aF,m',h1,s',h2⟩,M.rt,M.nx,λaF ⟨m',h1,h2⟩ av H' s'=>⟨aF,m',h1,s',h2⟩⟩
abbrev jG:=DN→(List D→Prop)→Prop
def uv(Z:DC)(n:Nat)(t:jG):TE:=λσ H Q=>∃(G:Hp)(ρ:DN)(P:List D→Prop),aC G H∧cX Z G σ ρ∧t ρ P∧∀ds,P ds→∀v f G' H',Ext G H G' H'→Own Z G' H' n v (.lst ds) f→f.Nodup→(∀b∈f,H b=none∧H' b≠none∧G' b=none)→Q v H'
def DF(Z:DC)(X:Cx)(n:Nat)(e:Expr)(t:jG):Prop:=PE X e (uv Z n t)
theorem Ext.side{p:Addr}{o:HO}{G1 H1:Hp}(x:Ext G H G1 H1)(hp:H1 p=none):Ext G H G1 (upd H1 p o):=
 ⟨x.gg,λb u e=>by rw [ab (ah e (x.sub.free hp))];exact x.sub _ _ e,x.hh.trans (ay hp _),x.off⟩
theorem uI{p:Addr}{xs:List V}{ds:List D}{G1 H1:Hp}(x:Ext G H G1 H1)(hp:H1 p=none)(dv:aq Z G1 xs ds):
  Own Z G1 (upd H1 p (.lst xs)) 1 (.ref p) (.lst ds) [p]∧([p]:List Addr).Nodup∧∀b∈([p]:List Addr),H b=none∧(upd H1 p (.lst xs)) b≠none∧G1 b=none:=by
 refine ⟨.inl ⟨p,xs,ds,[],rfl,rfl,aa,rfl,dv.own⟩,by simp,λb hb=>?_⟩
 have:b=p:=by simpa using hb
 subst this;exact ⟨x.hh.free hp,(by rw [aa];exact λz=>nomatch z),x.sub.free hp⟩
def GX(t:jv):jG:=λρ P=>t ρ λds=>ds.length≤sizeLine∧P ds
theorem pA{es:List Expr}(h:DA Z X es t):DF Z X 1 (.List es pos) (GX t):=by
 refine (dN h).imp ?_;rintro σ H Q ⟨G,ρ,P,s,e,h,q⟩;refine ⟨G,ρ,_,s,e,h,?_⟩;rintro ds ⟨hl,hp⟩ vs G1 H1 x1 bB;refine ⟨by rw [bB.length];exact hl,λp zY=>?_⟩
 obtain ⟨o1,o2,o3⟩:=uI x1 zY bB;exact q _ hp _ _ _ _ (x1.side zY) o1 o2 o3
def GW(te:ba):jG:=λρ P=>te ρ λd=>match d with
 | .lst l=>P l
 | .tup l=>P l
 |_=>False
theorem zJ{x:Str}{p:Pos}(hx:x="list")(hg:Gl X x)(hm:X.mg x=none)(hv:bootBuiltins x=some (.type "list"))(ha:DE Z X a ta)(hn:x≠"__name__":=by decide)(lI:(x==("__debug__":Str))=false:=by decide)
  (he:starEach [a] X.env=(false,eval a X.env)::starEach [] X.env:=by rfl) (fq:(backTo pos (starEach [] X.env)).any (·.1)=false:=by rfl):DF Z X 1 (.Call (.Name x p) [a] [] pos) (GW ta):=by
 refine (uJ vG hg hm hv (ae ha ar he) hn lI he fq).imp ?_;rintro σ H Q ⟨G,ρ,P,s,e,h,q⟩;refine ⟨G,ρ,_,s,e,h,λd hd v G1 H1 x1 dv=>?_⟩;cases dv<;>first|exact hd.elim|skip
 ·rename_i h e
  refine ⟨_,_,rfl, .inl (aG.of (x1.sub _ _ h)),λp hp=>?_⟩;obtain ⟨o1,o2,o3⟩:=uI x1 hp e;exact q _ hd _ _ _ _ (x1.side hp) o1 o2 o3
 ·rename_i h e
  refine ⟨_,_,rfl, .inr (cJ.of (x1.sub _ _ h)),λp hp=>?_⟩;obtain ⟨o1,o2,o3⟩:=uI x1 hp e;exact q _ hd _ _ _ _ (x1.side hp) o1 o2 o3
def Oo(wi:il)(g:dJ)(tt:dG)(te:ba)(src:List (Option Nat)):jG:=λρ P=>wi ρ λds=>lcW g tt te ds (u3 src ρ) [] λ_ out=>P out
theorem Af{src:List (Option Nat)}{tt:dG}:∀σ H Q,uv Z 1 (Oo wi g tt te src) σ H Q→JB (qK Z wi) (oF Z g) (liftT Z tt) (dz Z te) src σ H Q:=by
 rintro σ H Q ⟨G,ρ,P,s,en,h,q⟩;refine ⟨G,ρ,_,s,en,h,λds hd J G1 H1 x1 it Ad hA=>?_⟩;refine ⟨λi m cy H2=>m=ds.length-i∧i≤ds.length∧∃dF acc,CS Z G1 H1 Ad dF acc cy H2∧lcW g tt te (ds.drop i) dF acc λ_ out=>P out,⟨_,rfl,cZ _,_,[], .begin x1.sub hA ((en.mono x1.gg).src src),hd⟩,?_⟩;rintro i m cy H2 ⟨rfl,hi,dF,acc,c,hl⟩
 by_cases bx:i<ds.length
 ·obtain ⟨go,turn⟩:=wI hA G1 it i dF acc cy H2 c (λ_ s=>s) bx hl
  exact .inr ⟨go,_,λav H' n=>⟨ds.length-(i+1),by omega,rfl,bx,n⟩,turn⟩
 ·have e:ds.drop i= []:=xh (by omega)
  rw [e] at hl;obtain ⟨G2,ys,s1,s2,s3,off,gA,om,bB,en⟩:=c;refine .inl ⟨(it G2 H2 s1 s2 i).2.1 (by omega),q _ hl (.ref Ad) [Ad] G2 H2 ⟨x1.gg.trans s1,s2,x1.hh.trans s3,λb hb hg=>off b (gW x1.hh hb) (x1.off b hb hg)⟩ (.inl ⟨Ad,ys,acc,[],rfl,rfl,om,rfl,bB.own⟩) (by simp) λb hb=>?_⟩
  have:b=Ad:=by simpa using hb
  subst this;exact ⟨x1.hh.free hA,(by rw [om];exact λz=>nomatch z),gA⟩
variable {elt:Expr} {ifs:List Expr} {scope:Scope} {NC:List Str} {src:List (Option Nat)} {tt:dG}
def Gm(md:List Nat)(i:Nat)(t:jG):dh:=λE ρ=>t (cN md ρ) λds=>E.nx (ρ.set i (some (.lst ds)))
theorem qN{n i:Nat}{t:jG}{D':Ends}{E:fY}(hm:md.getD i 0=n)(S:SIx Z B md ρ σ H G fp)(h:t (cN md ρ) λds=>E.nx (ρ.set i (some (.lst ds))))(M:Meets Z B md rn E D'):uv Z n t σ H λv H'=>D'.nx (σ.set i (some v)) H':=by
 refine ⟨G,_,_,S.ex.sub,S.zO,h,λds hd v f G' H' x o nd nw=>?_⟩;refine M.nx _ hd _ _ ⟨G',_,(S.grow x).Jo hm o nd (λb hb=>⟨S.ex.hh.free (nw b hb).1,(nw b hb).2⟩) λb hb j _ hj=>(S.nw j b hj).2.1 (nw b hb).1⟩
theorem sS(i:Nat){n:Nat}{x:Str}{pos':Pos}{t:jG}(hN:X.N.Nodup)(he:DF Z X n e t)(hm:md.getD i 0=n:=by rfl)(hi:X.N[i]? =some x:=by rfl)(hx:Loc X.env.scope x:=by first|exact Or.inl rfl|exact Or.inr rfl)(hs:swapsWith e (some (.Name x pos')) pos.line X.env=pure false:=by rfl)
  (hf:X.fn x=true∨X.env.scope.names.lookup x=some .local:=by first|exact .inl rfl|exact .inr rfl|assumption):DSt Z X md rn (.Assign [.Name x pos'] e pos) (Gm md i t):=by
 refine (bC hN hi hx he hs hf).imp ?_;rintro D σ H ⟨B,ρ,E,⟨G,fp,S⟩,h,M⟩;exact qN hm S h M
theorem EA(i:Nat){x:Str}{px mv:Pos}(hc:X.calm=true)(hN:X.N.Nodup)(c:bH X scope)(fP:dm scope X.N src NC)(hi:DI Z X tg iter wi)
  (hg:∀ex s H,DG Z (dO X scope NC ex s H) tg g) (ht:∀ex s H,Ba Z (dO X scope NC ex s H) ifs tt) (he:∀ex s H,DE Z (dO X scope NC ex s H) elt te)
  (ot:swapsWith (.ListComp elt [⟨tg,iter,ifs,0⟩] scope pos) (some (.Name x px)) mv.line X.env=pure true:=by rfl) (hm:md.getD i 0=1:=by rfl) (eW:X.N[i]? =some x:=by rfl) (hx:Loc X.env.scope x:=by first|exact Or.inl rfl|exact Or.inr rfl)
  (hf:X.fn x=true∨X.env.scope.names.lookup x=some .local:=by first|exact .inl rfl|exact .inr rfl|assumption)
  (hs:∀x,foldedSetIterable iter X.env x=pure x:=by intro _;rfl):DSt Z X md rn (.Assign [.Name x px] (.ListComp elt [⟨tg,iter,ifs,0⟩] scope pos) mv) (Gm md i (Oo wi g tt te src)):=by
 refine (jX hc hN eW hx c fP hi hg ht he ot hf hs).imp ?_;rintro D σ H ⟨B,ρ,E,⟨G,fp,S⟩,h,M⟩;exact Af σ H _ (qN hm S h M)
end
section
variable {Z:DC} {X:Cx} {B:Bs} {md:List Nat} {rn:Nat} {ρ:DN} {σ:St} {H G:Hp} {fp:Nat→List Addr} {a e k o:Expr} {ta te tk tp:ba} {pos apos aN p2:Pos}
theorem SIx.mut{i:Nat}{v:V}{d':D}{b:Addr}{c:HO}(S:SIx Z B md ρ σ H G fp)(hi:σ[i]? =some (some v))(hb:b∈fp i)(o:Own Z G (upd H b c) (md.getD i 0) v d' (fp i)):SIx Z B md (ρ.set i (some d')) σ (upd H b c) G fp where
 ex:=by
  obtain ⟨h1,h2,h3⟩:=S.nw i b hb;exact ⟨S.ex.gg,λx u e=>by rw [ab (ah e h3)];exact S.ex.sub _ _ e,λx u e=>by rw [ab (ah e h1)];exact S.ex.hh _ _ e,S.ex.off⟩
 fl:=S.fl
 len:=by rw [fC];exact S.len
 at_:=λj w h=>by
  by_cases z:i=j
  ·subst z
   by_cases hl:i<ρ.length
   ·rw [mH hl] at h
    cases h;exact ⟨v,hi,o⟩
   ·rw [A0 (kW hl),js (kW hl)] at h;cases h
  ·rw [r8 z] at h
   obtain ⟨u,hu,ow⟩:=S.at_ j w h;exact ⟨u,hu,ow.keep (.refl _) λx hx=>ab λq=>S.ap i j b z hb (by rw [←q];exact hx)⟩
 nd:=S.nd
 ap:=S.ap
 nw:=λj x hx=>by
  obtain ⟨h1,h2,h3⟩:=S.nw j x hx;refine ⟨h1,?_,h3⟩
  by_cases z:x=b
  ·rw [z,aa];exact λq=>nomatch q
  ·rw [ab z];exact h2
theorem SIx.one{i:Nat}{d:D}(S:SIx Z B md ρ σ H G fp)(hm:md.getD i 0=1)(h:ρ[i]? =some (some d)):∃l xs ds,d= .lst ds∧σ[i]? =some (some (.ref l))∧H l=some (.lst xs)∧aq Z G xs ds∧
  ∀iX g6,aq Z G iX g6→SIx Z B md (ρ.set i (some (.lst g6))) σ (upd H l (.lst iX)) G fp:=by
 obtain ⟨v,hv,o⟩:=S.at_ i d h;rw [hm] at o;obtain ⟨l,xs,ds,eV,rfl,rfl,hl,hf,ol⟩:=o.one;obtain ⟨dv,rfl⟩:=ol.flat;refine ⟨l,xs,ds,rfl,hv,hl,dv,λiX g6 n6=>S.mut hv (by rw [hf];simp) ?_⟩
 rw [hm,hf];exact .inl ⟨l,iX,g6,[],rfl,rfl,aa,rfl,n6.own⟩
theorem cz.nj:∀{ys:List V}{eG:List D}{eV:List Addr}(p:Nat){dp:D},cz (Own Z G H 1) ys eG eV→eV.Nodup→eG[p]? =some dp→∃l xs ds,dp= .lst ds∧ys[p]? =some (.ref l)∧H l=some (.lst xs)∧aq Z G xs ds∧l∈eV∧
  ∀iX g6,aq Z G iX g6→cz (Own Z G (upd H l (.lst iX)) 1) ys (eG.set p (.lst g6)) eV
 |_,_,_,_,_, .nil,_,h=>by simp at h
 |_,_,_,0,dp, .cons (f:=f) (fs:=fs) a as,nd,h=>by
  simp at h;subst h;obtain ⟨l,xs,ds,eV,rfl,rfl,hl,hf,ol⟩:=a.one;obtain ⟨dv,rfl⟩:=ol.flat;subst hf;refine ⟨l,xs,ds,rfl,rfl,hl,dv,by simp,λiX g6 n6=> .cons (.inl ⟨l,iX,g6,[],rfl,rfl,aa,rfl,n6.own⟩) (as.imp λv d f hf r=>r.keep (.refl _) λb hb=>ab λz=>?_)⟩
  have:=(fk.mp nd).1
  exact this (by subst z;exact hf _ hb)
 |_,_,_,p+1,dp, .cons (f:=f) (fs:=fs) a as,nd,h=>by
  obtain ⟨qM,nz,uz⟩:=b7.mp nd;obtain ⟨l,xs,ds,e1,e2,e3,e4,e5,e6⟩:=cz.nj p (dp:=dp) as nz (by simpa using h)
  refine ⟨l,xs,ds,e1,by simpa using e2,e3,e4,cL _ e5,λiX g6 n6=>?_⟩
  refine .cons (a.keep (.refl _) λb hb=>ab λz=>?_) (e6 iX g6 n6);exact uz b hb l e5 z
theorem SIx.two{i p:Nat}{eG:List D}{dp:D}(S:SIx Z B md ρ σ H G fp)(hm:md.getD i 0=2)(h:ρ[i]? =some (some (.lst eG)))(hp:eG[p]? =some dp):∃T ys l xs ds,dp= .lst ds∧σ[i]? =some (some (.ref T))∧H T=some (.lst ys)∧ys.length=eG.length∧ys[p]? =some (.ref l)∧H l=some (.lst xs)∧aq Z G xs ds∧
  ∀iX g6,aq Z G iX g6→SIx Z B md (ρ.set i (some (.lst (eG.set p (.lst g6))))) σ (upd H l (.lst iX)) G fp:=by
 obtain ⟨v,hv,o⟩:=S.at_ i _ h;rw [hm] at o;obtain ⟨T,ys,GF,eV,rfl,e0,hT,hf,ol⟩:=o.lst;cases e0;have nd:=S.nd i;rw [hf] at nd;obtain ⟨nT,nz⟩:=fk.mp nd;obtain ⟨l,xs,ds,e1,e2,e3,e4,e5,e6⟩:=cz.nj p ol nz hp;refine ⟨T,ys,l,xs,ds,e1,hv,hT,ol.length,e2,e3,e4,λiX g6 n6=>S.mut hv (by rw [hf];exact cn _ e5) ?_⟩
 rw [hm,hf];exact .inl ⟨T,ys,_,eV,rfl,rfl,by rw [ab (λz=>nT (by rw [z];exact e5))];exact hT,rfl,e6 iX g6 n6⟩
theorem ty_list{K:PySem.W.Frag}{l:Addr}{xs:List V}(h:H l=some (.lst xs)):L1 K "list" (.ref l) H:= .inl ⟨rfl,_,aG.of h⟩
def Rz(md:List Nat)(m:Bool)(i:Nat)(te:ba):dh:=λE ρ=>∃ds,ρ[i]? =some (some (.lst ds))∧te (CU md m ρ) λd=>pB m d∧ds.length<sizeLine∧E.nx (ρ.set i (some (.lst (ds++ [d]))))
theorem xO(m:Bool)(i:Nat){x:Str}{px:Pos}(he:DE Z X e te)(hm:md.getD i 0=1:=by rfl)(hi:X.N[i]? =some x:=by rfl)(hv:qw X.env.scope x:=by first|exact Or.inl rfl|exact Or.inr (Or.inl rfl) |exact Or.inr (Or.inr rfl))(hd:(x==("__debug__":Str))=false:=by decide)(fH:(x==("__classdict__":Str))=false:=by decide)
  (dM:attributeBase (.Name x px) "append" X.env (eval (.Name x px) X.env)=eval (.Name x px) X.env:=by rfl)
  (jN:((backTo aN (starEach [e] X.env)).all (λx=>!x.1)&&(backToKw aN (keywordEach [] X.env)).all (λx=>x.1.isSome)&&decide (([e]:List Expr).length+([]:List Keyword).length+(if ([]:List Keyword).isEmpty then 0 else 1)<30))=true:=by rfl)
  (cG:(apos.endLine==aN.line)=true:=by rfl) (hs:starEach [e] X.env=(false,eval e X.env)::starEach [] X.env:=by rfl) (fe:(backTo aN (starEach [] X.env)).any (·.1)=false:=by rfl)
  (ot:swapsWith (.Call (.Attribute (.Name x px) "append" apos) [e] [] aN) none pos.line X.env=pure false:=by rfl):
  DSt Z X md rn (.Expr (.Call (.Attribute (.Name x px) "append" apos) [e] [] aN) pos) (Rz md m i te):=by
 refine (cR (fM PySem.F.plainAttrs_list PySem.F.slot_list_append PySem.F.type_list_append fL (pv i hi hv hd fH) (ae he ar hs) dM jN cG hs fe) ot).imp ?_;rintro D σ H ⟨B,ρ,E,⟨G,fp,S⟩,⟨ds,h1,h⟩,M⟩;obtain ⟨l,xs,_,_,e2,e3,_⟩:=S.one hm h1;refine ⟨_,e2,ty_list e3,S.ev m h λd hd=>⟨hd.1,λv G' H' S' x dv=>?_⟩⟩;obtain ⟨_,h2,h3⟩:=hd;obtain ⟨l',iX,g6,e1,nq,GR,bB,put⟩:=S'.one hm h1;cases e1;rw [e2] at nq;cases nq;exact ⟨l,iX,v,rfl,rfl,GR,by rw [bB.length];exact h2,M.nx _ h3 _ _ ⟨G',fp,put _ _ (bB.snoc dv)⟩⟩
def Gh(md:List Nat)(m:Bool)(i:Nat)(tp te:ba):dh:=λE ρ=>∃eG,ρ[i]? =some (some (.lst eG))∧tp ρ λpp=>∃p j ds,pp= .int p∧iO eG.length p=some j∧eG[j]? =some (.lst ds)∧
 te (CU md m ρ) λd=>pB m d∧ds.length<sizeLine∧E.nx (ρ.set i (some (.lst (eG.set j (.lst (ds++ [d]))))))
theorem Dc{α:Type}{xs:List α}{i:Int}{j n:Nat}{v:α}(hn:xs.length=n)(h:iO n i=some j)(e:xs[j]? =some v):f6 xs i=some v:=by unfold f6;rw [hn,h];exact e
theorem GH(m:Bool)(i:Nat){x:Str}{px ps:Pos}(hp:DE Z X k tp)(he:DE Z X e te)(hm:md.getD i 0=2:=by rfl)(yd:pb k:=by exact λ_ _=>rfl)(hi:X.N[i]? =some x:=by rfl)(hv:qw X.env.scope x:=by first|exact Or.inl rfl|exact Or.inr (Or.inl rfl) |exact Or.inr (Or.inr rfl))(hd:(x==("__debug__":Str))=false:=by decide)(fH:(x==("__classdict__":Str))=false:=by decide)
  (dM:attributeBase (.Subscript (.Name x px) k ps) "append" X.env (eval (.Subscript (.Name x px) k ps) X.env)=eval (.Subscript (.Name x px) k ps) X.env:=by rfl)
  (jN:((backTo aN (starEach [e] X.env)).all (λx=>!x.1)&&(backToKw aN (keywordEach [] X.env)).all (λx=>x.1.isSome)&&decide (([e]:List Expr).length+([]:List Keyword).length+(if ([]:List Keyword).isEmpty then 0 else 1)<30))=true:=by rfl)
  (cG:(apos.endLine==aN.line)=true:=by rfl) (hs:starEach [e] X.env=(false,eval e X.env)::starEach [] X.env:=by rfl) (fe:(backTo aN (starEach [] X.env)).any (·.1)=false:=by rfl)
  (ot:swapsWith (.Call (.Attribute (.Subscript (.Name x px) k ps) "append" apos) [e] [] aN) none pos.line X.env=pure false:=by rfl):
  DSt Z X md rn (.Expr (.Call (.Attribute (.Subscript (.Name x px) k ps) "append" apos) [e] [] aN) pos) (Gh md m i tp te):=by
 refine (cR (fM PySem.F.plainAttrs_list PySem.F.slot_list_append PySem.F.type_list_append fL (bY bp (pv i hi hv hd fH) hp yd) (ae he ar hs) dM jN cG hs fe) ot).imp ?_;rintro D σ H ⟨B,ρ,E,⟨G,fp,S⟩,⟨eG,h1,h⟩,M⟩;obtain ⟨v0,i9,o⟩:=S.at_ i _ h1;refine ⟨_,i9,S.ev true h ?_⟩;rintro _ ⟨p,j,ds,rfl,hj,hd,h⟩;refine ⟨rfl,λv1 G1 H1 S1 x1 GP=>?_⟩;cases GP;obtain ⟨T,ys,l,xs,g6,e1,e2,e3,e4,e5,e6,bB,_⟩:=S1.two hm h1 hd;rw [e2] at i9;cases i9;refine ⟨T,ys,p, .ref l,rfl,rfl,aG.of e3,Dc e4 hj e5,ty_list e6,S1.ev m h λd i8=>⟨i8.1,λv G' H' S' x dv=>?_⟩⟩;obtain ⟨T',ys',l',iX,jK,Yk,nq,GR,e4',Sq,Yl,MC,put⟩:=S'.two hm h1 hd;cases Yk;rw [e2] at nq;cases nq
 have:ys'=ys:=by
  have:=x.hh _ _ e3
  rw [GR] at this;cases this;rfl
 rw [this,e5] at Sq;cases Sq;exact ⟨l,iX,v,rfl,rfl,Yl,by rw [MC.length];exact i8.2.1,M.nx _ i8.2.2 _ _ ⟨G',fp,put _ _ (MC.snoc dv)⟩⟩
def J5(md:List Nat)(m:Bool)(i:Nat)(tk te:ba):dh:=λE ρ=>te (CU md m ρ) λd=>pB m d∧∃ds,ρ[i]? =some (some (.lst ds))∧tk ρ λkk=>∃k j,kk= .int k∧iO ds.length k=some j∧E.nx (ρ.set i (some (.lst (ds.set j d))))
theorem wd(m:Bool)(i:Nat){x:Str}{px ps:Pos}(hk:DE Z X k tk)(he:DE Z X e te)(hm:md.getD i 0=1:=by rfl)(hi:X.N[i]? =some x:=by rfl)(hv:qw X.env.scope x:=by first|exact Or.inl rfl|exact Or.inr (Or.inl rfl) |exact Or.inr (Or.inr rfl))(hd:(x==("__debug__":Str))=false:=by decide)(fH:(x==("__classdict__":Str))=false:=by decide)
  (ha:∀v,assign (.Subscript (.Name x px) k ps) X.env v=(do
   let ov ←holding [v] (eval (.Name x px) X.env)
   let iv ←holding [v,ov] (eval k X.env)
   standAt ps
   holding [v,ov,iv] (setItem ov iv v)
   release [v,ov,iv] []):=by intro _;rfl)
  (hs:swapsWithSole [.Subscript (.Name x px) k ps] e pos.line X.env=pure false:=by rfl) (hw:swappedStores [.Subscript (.Name x px) k ps] e X.env=pure none:=by rfl)
  (h1:(assignEach [.Subscript (.Name x px) k ps] X.env).map (·.2)= [assign (.Subscript (.Name x px) k ps) X.env]:=by rfl):DSt Z X md rn (.Assign [.Subscript (.Name x px) k ps] e pos) (J5 md m i tk te):=by
 refine (mZ he (yO (pv i hi hv hd fH) hk set_list ha) hs hw h1).imp ?_;rintro D σ H ⟨B,ρ,E,⟨G,fp,S⟩,h,M⟩;refine S.ev m h λd hd=>⟨hd.1,λv G' H' S' x dv=>?_⟩;obtain ⟨_,ds,h1,h⟩:=hd;obtain ⟨l,xs,_,_,e2,e3,_⟩:=S'.one hm h1;refine ⟨_,e2,S'.ev true h ?_⟩;rintro _ ⟨k,j,rfl,hj,h3⟩;refine ⟨rfl,λv1 G1 H1 S1 x1 GP=>?_⟩;cases GP;obtain ⟨l',iX,g6,e1,nq,GR,bB,put⟩:=S1.one hm h1;cases e1;rw [e2] at nq;cases nq;exact ⟨l,iX,k,j,rfl,rfl,GR,by rw [bB.length];exact hj,M.nx _ h3 _ _ ⟨G1,fp,put _ _ (bB.set (dv.mono x1.gg) j)⟩⟩
def RK(md:List Nat)(i j:Nat):dh:=λE ρ=>∃ds d,ρ[j]? =some (some (.lst (ds++ [d])))∧E.nx ((ρ.set j (some (.lst ds))).set i (some d))
theorem Kf(i j:Nat){x y:Str}{px py:Pos}(hN:X.N.Nodup)(hm:md.getD i 0=0:=by rfl)(OY:md.getD j 0=1:=by rfl)(hi:X.N[i]? =some x:=by rfl)(hx:Loc X.env.scope x:=by first|exact Or.inl rfl|exact Or.inr rfl)
  (hj:X.N[j]? =some y:=by rfl) (hv:qw X.env.scope y:=by first|exact Or.inl rfl|exact Or.inr (Or.inl rfl) |exact Or.inr (Or.inr rfl)) (hd:(y==("__debug__":Str))=false:=by decide) (fH:(y==("__classdict__":Str))=false:=by decide)
  (dM:attributeBase (.Name y py) "pop" X.env (eval (.Name y py) X.env)=eval (.Name y py) X.env:=by rfl) (cG:(apos.endLine==aN.line)=true:=by rfl)
  (hs:swapsWith (.Call (.Attribute (.Name y py) "pop" apos) [] [] aN) (some (.Name x px)) pos.line X.env=pure false:=by rfl)
  (hf:X.fn x=true∨X.env.scope.names.lookup x=some .local:=by first|exact .inl rfl|exact .inr rfl|assumption):DSt Z X md rn (.Assign [.Name x px] (.Call (.Attribute (.Name y py) "pop" apos) [] [] aN) pos) (RK md i j):=by
 refine (bC hN hi hx (DP PySem.F.plainAttrs_list PySem.F.slot_list_pop PySem.F.type_list_pop K2 (pv j hj hv hd fH) dM cG) hs hf).imp ?_;rintro D σ H ⟨B,ρ,E,⟨G,fp,S⟩,⟨ds,d,h1,h⟩,M⟩;obtain ⟨l,xs,g6,e1,e2,e3,bB,put⟩:=S.one OY h1;cases e1;have hl:xs.length=ds.length+1:=by rw [bB.length];simp
 obtain ⟨v,ud,dv⟩:=bB.get (i:=xs.length-1) (d:=d) (by rw [hl];simp)
 refine ⟨_,e2,ty_list e3,l,xs,v,rfl,rfl,e3,ud,M.nx _ h _ _ ⟨G,_,(put xs.dropLast ds ?_).nO hm dv⟩⟩
 have:=bB.take ds.length
 rw [List.take_left'] at this
 ·rw [List.dropLast_eq_take,hl];exact this
 ·rfl
end
structure Qw (mg:Str→Option Value):Prop where
 len:mg "len"=none
 range:mg "range"=none
 max:mg "max"=none
 min:mg "min"=none
 enumerate:mg "enumerate"=none
 zip:mg "zip"=none
 sorted:mg "sorted"=none
 all:mg "all"=none
 isinstance:mg "isinstance"=none
 int:mg "int"=none
 bool:mg "bool"=none
 list:mg "list"=none
 tuple:mg "tuple"=none
 sum:mg "sum"=none
 reversed:mg "reversed"=none
theorem JV:bootBuiltins "max"=some (.builtin "max"):=by decide+kernel
theorem tF:bootBuiltins "bool"=some (.type "bool"):=by decide+kernel
theorem JU:bootBuiltins "int"=some (.type "int"):=by decide+kernel
theorem zu:bootBuiltins "list"=some (.type "list"):=by decide+kernel
theorem Em:bootBuiltins "tuple"=some (.type "tuple"):=by decide+kernel
theorem n4:bootBuiltins "sorted"=some (.builtin "sorted"):=by decide+kernel
theorem iw:bootBuiltins "len"=some (.builtin "len"):=by decide+kernel
section
variable {P:Program} {w:World} {K:PySem.W.Frag} {mg:Str→Option Value} {base:Heap} {Z:DC}
def sY(N:List Str)(ds:List D):DN:=ds.map some++List.replicate (N.length-ds.length) none
def uw(Z:DC)(n:Nat)(sd:fm):Sp:=λvs H Q _=>∃(G:Hp)(ds:List D)(P:D→Prop),aC G H∧aq Z G vs ds∧sd ds P∧∀d,P d→∀v f G' H',Ext G H G' H'→Own Z G' H' n v d f→f.Nodup→(∀b∈f,H b=none∧H' b≠none∧G' b=none)→Q v H'
theorem Own.pure{n:Nat}{v:V}{d:D}{f:List Addr}{G H G' H':Hp}(x:Ext G H G' H')(o:Own Z G' H' n v d f)(nw:∀b∈f,H b=none∧H' b≠none∧G' b=none):∃G2,Ext G H G2 H'∧Dv Z G2 v d:=by
 refine ⟨plus G' H' λb=>b∈f,⟨x.gg.trans (iI x.sub),jW x.sub,x.hh,λb hb hg=>?_⟩,o.dv (iI x.sub) λb hb u e=>by rw [eX hb];exact e⟩
 rw [dD (λz=>hb (nw b z).1)];exact x.off b hb hg
theorem Ws{n:Nat}{sd:fm}:∀vs H Q E,aX Z sd vs H Q E→uw Z n sd vs H Q E:=by
 rintro vs H Q E ⟨G,ds,P,s,dv,h,q⟩;exact ⟨G,ds,P,s,dv,h,λd hd v f G' H' x o nd nw=>let ⟨G2,x2,Oe⟩:=o.pure x nw;q d hd v G2 H' x2 Oe⟩
theorem wq(rn:Nat){x qual:Str}{st:Stmt}{f:Addr}{fd:FuncData}{N ps:List Str}{k:Nat}{sd:fm}(F:vD K x qual st f fd)(S:aJ N ps (ao st))(md:List Nat)(OX:∀i,i<ps.length→md.getD i 0=0)(len:∀ds P,sd ds P→ds.length=ps.length)
  (oq:∀(br:Value)(A:Around)(outer:List Env)(s:Shared)(H:Hp)(E:XK)(ds:List D)(R:D→Prop),cC k (A.deeper (envOfC qual (ao st) s.heap.objs.size f br))→sd ds R→
   ∃t,tm Z (pj cw P w K mg base N qual (ao st) f br A outer s H E).ja md rn (eU st) t∧t {nx:=λ_=>rn=0∧R .aL,rt:=R} (sY N ds)):FnOk P w K mg base cw (k+1) f fd ps (uw Z rn sd):=by
 refine F.ok S (λvs H Q E h=>?_) (λbr A outer s H vs Q E hr h=>?_)
 ·obtain ⟨G,ds,R,s,dv,h,q⟩:=h
  rw [dv.length];exact len _ _ h
 obtain ⟨G,ds,R,s0,dv,h,q⟩:=h;have TV:=q;obtain ⟨t,ht,hq⟩:=oq br A outer s H E ds R hr h;have hl:=len _ _ h;refine ⟨_,ht,⟨G,H,G⟩,_,_,⟨G,λ_=> [],?_⟩,hq,⟨λρ T9 av H' ⟨G',fp,S'⟩=>q _ T9.2 _ [] G' H' S'.ex (by rw [T9.1];exact ⟨.aL,rfl⟩) ju (λb hb=>by cases hb),TV,λ_ z=>z.elim,λ_ z=>z.elim⟩⟩
 refine ⟨.refl s0, .refl _,by unfold sY start;simp [dv.length],λi d hi=>?_,λ_=>ju,(λ_ _ _ _ z=>by cases z),(λ_ _ z=>by cases z)⟩
 unfold sY at hi
 have BJ:i<ds.length:=by
  apply Classical.byContradiction;intro z;rw [jr (by simpa using kW z),A4] at hi
  split at hi<;>cases hi
 rw [j2 (by simpa using BJ),ck] at hi
 have i8:ds[i]? =some d:=by
  cases z:ds[i]? with
  |none=>rw [z] at hi;cases hi
  |some d'=>rw [z] at hi;cases hi;rfl
 obtain ⟨v,hv,n6⟩:=dv.get i8;refine ⟨v,?_,by rw [OX i (by omega)];exact ⟨n6,rfl⟩⟩
 unfold start;rw [j2 (by simpa [dv.length] using BJ),ck,hv];rfl
theorem bM{x qual:Str}{st:Stmt}{f:Addr}{fd:FuncData}{N ps:List Str}{k:Nat}{sd:fm}(F:vD K x qual st f fd)(S:aJ N ps (ao st))(md:List Nat)(OX:∀i,i<ps.length→md.getD i 0=0)(len:∀ds P,sd ds P→ds.length=ps.length)
  (oq:∀(br:Value)(A:Around)(outer:List Env)(s:Shared)(H:Hp)(E:XK)(ds:List D)(R:D→Prop),cC k (A.deeper (envOfC qual (ao st) s.heap.objs.size f br))→sd ds R→
   ∃t,tm Z (pj cw P w K mg base N qual (ao st) f br A outer s H E).ja md 0 (eU st) t∧t {nx:=λ_=>0=0∧R .aL,rt:=R} (sY N ds)):FnOk P w K mg base cw (k+1) f fd ps (aX Z sd):=
 (wq 0 F S md OX len λbr A outer s H E ds R hr h=>let ⟨t,a,b⟩:=oq br A outer s H E ds R hr h;⟨t,a,b⟩).imp Ws
end
section
variable {Z:DC} {X:Cx} {a b c e o:Expr} {ta tb te:ba} {t:jv} {es:List Expr} {pos apos:Pos}
def MA(ta:ba):ba:=λρ P=>ta ρ λd=>match d with
 | .int i=>P (.int (-i))
 |_=>False
theorem J8(ha:DE Z X a ta):DE Z X (.UnaryOp .USub a pos) (MA ta):=by
 refine (PY L3 ha).imp ?_;rintro σ H Q ⟨G,ρ,P,s,en,h,q⟩;refine ⟨G,ρ,_,s,en,h,λd hd v G1 H1 x1 dv=>?_⟩;cases dv<;>first|exact hd.elim|skip
 exact ⟨_,rfl,q _ hd _ G1 H1 x1 (.int _)⟩
def NH:fm:=λds P=>∃i j,ds= [.int i, .int j]∧P (.int (if j>i then j else i))
theorem JF{G:Hp}{vs:List V}{i j:Int}(h:aq Z G vs [.int i, .int j]):vs= [.int i, .int j]:=by
 cases h with
 |cons a as=>
  cases as with
  |cons b bs=>cases bs;cases a;cases b;rfl
theorem Gd(hc:X.calm=true):cT X (.builtin "max") (lO Z NH):=by
 refine (tN hc).imp ?_;rintro xs H Q ⟨G,ds,P,s,dv,⟨i,j,rfl,h⟩,q⟩;exact ⟨i,j,JF dv,q _ h _ G H (.refl s) (.int _)⟩
theorem Ds{G:Hp}:∀{vs:List V}{bs:List Bool},aq Z G vs (bs.map D.bl)→vs=bs.map V.bl
 |vs,[],h=>by cases h;rfl
 |vs,b::bs,h=>by
  cases h with
  |cons a as=>cases a;rw [Ds as];rfl
theorem tW{G:Hp}:∀{vs:List V}{ns:List Int},aq Z G vs (ns.map D.int)→vs=ns.map V.int
 |vs,[],h=>by cases h;rfl
 |vs,b::bs,h=>by
  cases h with
  |cons a as=>cases a;rw [tW as];rfl
def pairD(k:Nat×Nat):D:= .tup [.int (k.1:Nat), .int (k.2:Nat)]
def JS:fm:=λds P=>∃ns:List (Nat×Nat),ds= [.lst (ns.map pairD)]∧ns.length≤1000∧∀ms:List (Nat×Nat),ms.Perm ns→ms.Pairwise Wb.lexLe→P (.lst (ms.map pairD))
theorem we{G:Hp}:∀{vs:List V}{ns:List (Nat×Nat)},aq Z G vs (ns.map pairD)→∃L:List (Addr×(Nat×Nat)),vs=L.map (λe=>V.ref e.1)∧L.map (·.2)=ns∧nY G L
 |vs,[],h=>by cases h;exact ⟨[],rfl,rfl,λp hp=>by cases hp⟩
 |vs,n::ns,h=>by
  cases h with
  |cons a as=>
   obtain ⟨L,h1,h2,h3⟩:=we as;unfold pairD at a;cases a with
   | @tup p xs ds hp e=>
    refine ⟨(p,n)::L,by rw [h1];rfl,by rw [←h2];rfl,λq hq=>?_⟩
    rcases bE.mp hq with rfl|hq
    ·have:xs=gk n:=by
      cases e with
      |cons a1 a2=>
       cases a2 with
       |cons b1 b2=>cases a1;cases b1;cases b2;rfl
     rw [←this];exact hp
    ·exact h3 q hq
theorem nY.dv{G:Hp}:∀{L:List (Addr×(Nat×Nat))},nY G L→aq Z G (L.map λe=>V.ref e.1) ((L.map (·.2)).map pairD)
 | [],_=> .nil
 |x::L,h=> .cons (.tup (h x (b8 ..)) (.cons (.int _) (.cons (.int _) .nil))) (nY.dv λp hp=>h p (cn _ hp))
theorem v5:cT X (.builtin "sorted") (lO Z JS):=by
 refine vH.imp ?_;rintro xs H Q ⟨G,ds,P,s,dv,⟨ns,rfl,hl,hp⟩,q⟩;cases dv with
 |cons a as=>
  cases as;cases a with
  | @lst p iX ds h e=>
   obtain ⟨L,rfl,h2,h3⟩:=we e;have hL:L.length=ns.length:=by rw [←h2];simp
   refine ⟨_,L,rfl,aG.of (s _ _ h),λp hp=>s _ _ (h3 p hp),by omega,λp M hn m1 m2=>?_⟩
   have pm:(M.map (·.2)).Perm ns:=by rw [←h2];exact m1.map _
   have hM:nY (upd G p (.lst (M.map λe=>V.ref e.1))) M:=λx hx=>ay (s.free hn) _ _ _ (h3 x (m1.mem_iff.mp hx));exact q _ (hp _ pm m2) _ _ _ (.new s hn) (.lst aa hM.dv)
def J3(ta tb:ba):ba:=λρ P=>ta ρ λd=>∃l,d= .lst l∧tb ρ λy=>g7 y=true∧l.all g7=true∧∃(j:Nat)(z:D),l[j]? =some z∧jg z y=true∧(∀(m:Nat) z,m<j→l[m]? =some z→jg z y=false)∧P (.int (j:Nat))
theorem wa{aN:Pos}(ho:DE Z X o ta)(he:DE Z X e tb)
  (dM:attributeBase o "index" X.env (eval o X.env)=eval o X.env:=by rfl)
  (jN:((backTo aN (starEach [e] X.env)).all (λx=>!x.1)&&(backToKw aN (keywordEach [] X.env)).all (λx=>x.1.isSome)&&decide (([e]:List Expr).length+([]:List Keyword).length+(if ([]:List Keyword).isEmpty then 0 else 1)<30))=true:=by rfl)
  (cG:(apos.endLine==aN.line)=true:=by rfl) (hs:starEach [e] X.env=(false,eval e X.env)::starEach [] X.env:=by rfl) (fe:(backTo aN (starEach [] X.env)).any (·.1)=false:=by rfl):
  DE Z X (.Call (.Attribute o "index" apos) [e] [] aN) (J3 ta tb):=by
 refine (fM PySem.F.plainAttrs_list PySem.F.slot_list_index PySem.F.type_list_index mU ho (ae he ar hs) dM jN cG hs fe).imp ?_;rintro σ H Q ⟨G,ρ,P,s,en,h,q⟩;refine ⟨G,ρ,_,s,en,h,?_⟩;rintro _ ⟨l,rfl,hd⟩ v G1 H1 x1 dv;cases dv with
 | @lst p xs ds hp e=>
  refine ⟨ty_list (x1.sub _ _ hp),G1,ρ,_,x1.sub,en.mono x1.gg,hd,λy hy u G2 H2 x2 du=>?_⟩;obtain ⟨h1,h2,j,z,h3,h4,h5,h6⟩:=hy;have e2:=e.mono x2.gg;obtain ⟨w,hw,dw⟩:=e2.get h3;refine ⟨p,xs,u,j,w,rfl,rfl,x2.hh _ _ (x1.sub _ _ hp),by rw [pC du];exact h1,by rw [jh e2];exact h2,hw,by rw [xR dw du];exact h4,λm z' hm hz=>?_,q _ h6 _ G2 H2 (x1.trans x2) (.int _)⟩
  obtain ⟨d',i8,n6⟩:=e2.zR hz;rw [xR n6 du];exact h5 m d' hm i8
end
structure C7 (Z:DC):Prop where
 cl:tj Z.K Z.C
 nR:j6 Z.K Z.C "rows"
section
variable {Z:DC} {X:Cx} {a b c e o:Expr} {ta tb te:ba} {t:jv} {es:List Expr} {pos apos:Pos}
def N7(ta:ba):ba:=λρ P=>ta ρ λd=>∃w,d= .fV w∧P (bJ w)
theorem tT(T:C7 Z)(ha:DE Z X o ta)(eK:X.K=Z.K:=by rfl)(hb:attributeBase o "rows" X.env (eval o X.env)=eval o X.env:=by rfl):DE Z X (.Attribute o "rows" apos) (N7 ta):=by
 refine (Ll ha hb).imp ?_;rintro σ H Q ⟨G,ρ,P,s,en,h,q⟩;refine ⟨G,ρ,_,s,en,h,?_⟩;rintro _ ⟨w,rfl,hd⟩ v G1 H1 x1 dv;cases dv with
 | @fV p dx R w hp hr g h1 h2=>exact ⟨p,Z.C,dx,_, .ref R,rfl,x1.sub _ _ hp,by rw [eK];exact T.cl,by rw [eK];exact T.nR,rfl,q _ hd _ G1 H1 x1 hr⟩
def Bo(sd:fm)(ta:ba)(t:jv):ba:=λρ P=>ta ρ λd=>∃w,d= .fV w∧t ρ λds=>sd (.fV w::ds) P
theorem wL{m:Str}{sd:fm}(hm:([("rows",V.ref 0)]:List (Str×V)).lookup m=none):∀σ H Q,dz Z (Bo sd ta t) σ H Q→CL Z.C m (aX Z sd) [] E0 (dz Z ta) (B4 Z t) σ H Q:=by
 rintro σ H Q ⟨G,ρ,P,s,en,h,q⟩;refine ⟨G,ρ,_,s,en,h,?_⟩;rintro _ ⟨w,rfl,hd⟩ v G1 H1 x1 dv;have Yg:=dv;cases dv with
 | @fV p dx R w hp hr g h1 h2=>
  refine ⟨p,dx,_,rfl,x1.sub _ _ hp,?_,G1,ρ,_,x1.sub,en.mono x1.gg,hd,λds EW vs G2 H2 x2 bB=>?_⟩
  ·have hz:(m==("rows":Str))=false:=by
    cases z:(m==("rows":Str)) with
    |false=>rfl
    |true=>simp [List.lookup,z] at hm
   simp [List.lookup,hz]
  ·show aX Z sd (V.ref p::(vs++ [])) H2 Q E0
   rw [j4];exact ⟨G2,_,P,x2.sub, .cons (Yg.mono x2.gg) bB,EW,λd hd v G3 H3 x3 Yh=>q d hd v G3 H3 ((x1.trans x2).trans x3) Yh⟩
variable {sd:fm} {k:Nat} {f:Addr} {fd:FuncData} {ps:List Str} {m:Str}
theorem zH{pl:Sem Bool}(T:C7 Z)(ho:DE Z X o ta)(hm:Meth Z.K Z.C m f)(F:FnOk X.prog X.w X.K X.mg X.base cw k f fd ps (aX Z sd))(hr:cC k X.A)(hb:Binds X.K fd ps [])(ha:DA Z X (e::es) t)(eK:X.K=Z.K:=by rfl)
  (O0:([("rows",V.ref 0)]:List (Str×V)).lookup m=none:=by decide) (yh:starEach (e::es) X.env=(false,eval e X.env)::starEach es X.env:=by rfl) (fq:(backTo pos (starEach es X.env)).any (·.1)=false:=by rfl)
  (ht:eval (.Call (.Attribute o m apos) (e::es) [] pos) X.env=(do
   let ov ←eval o X.env
   standAt apos.atName
   let (f,first) ←holding [ov] (getMethod ov m pl)
   callWith pos f first (backTo pos (starEach (e::es) X.env)) (backToKw pos (keywordEach [] X.env))):=by rfl):DE Z X (.Call (.Attribute o m apos) (e::es) [] pos) (Bo sd ta t):=
 (IM (pl:=pl) ho (by rw [eK];exact T.cl) (by rw [eK];exact hm) F hr hb .nil bR ha yh fq ht).imp (wL O0)
theorem jJ{pl:Sem Bool}(T:C7 Z)(ho:DE Z X o ta)(hm:Meth Z.K Z.C m f)(F:FnOk X.prog X.w X.K X.mg X.base cw k f fd ps (aX Z sd))(hr:cC k X.A)(hb:Binds X.K fd ps [])(eK:X.K=Z.K:=by rfl)
  (O0:([("rows",V.ref 0)]:List (Str×V)).lookup m=none:=by decide)
  (ht:eval (.Call (.Attribute o m apos) [] [] pos) X.env=(do
   let ov ←eval o X.env
   standAt apos.atName
   let (f,first) ←holding [ov] (getMethod ov m pl)
   callWith pos f first (backTo pos (starEach [] X.env)) (backToKw pos (keywordEach [] X.env))):=by rfl):DE Z X (.Call (.Attribute o m apos) [] [] pos) (Bo sd ta zE):=
 (Fs (pl:=pl) ho (by rw [eK];exact T.cl) (by rw [eK];exact hm) F hr hb .nil bR ht).imp λσ H Q h=>by
  obtain ⟨G,ρ,P,s,en,h,q⟩:=wL O0 σ H Q h;refine ⟨G,ρ,P,s,en,h,λd hd v G1 H1 x1 dv=>?_⟩;obtain ⟨p,dx,fs,h1,h2,h3,G',aF,P',s',en',h',q'⟩:=q d hd v G1 H1 x1 dv;exact ⟨p,dx,fs,h1,h2,h3,q' _ h' _ G' _ (.refl s') .nil⟩
end
section
variable {Z:DC} {X:Cx} {pos:Pos}
def HV(g:dJ)(tf:jG):List D→DN→List D→(List D→Prop)→Prop
 | [],_,acc,N=>N acc
 |x::xs,ρ,acc,N=>g x ρ λbh=>tf bh λds=>acc.length<sizeLine∧HV g tf xs bh (acc++ [.lst ds]) N
def MF(wi:il)(g:dJ)(tf:jG)(src:List (Option Nat)):jG:=λρ P=>wi ρ λds=>HV g tf ds (u3 src ρ) [] P
def Qy(Z:DC)(n:Nat)(G1 H1:Hp)(Ad:Addr)(ρ:DN)(acc:List D)(σ:St)(H:Hp):Prop:=
 ∃(G:Hp)(ys:List V)(fs:List Addr),aC G1 G∧aC G H∧aC H1 H∧(∀b,H1 b≠none→G1 b=none→G b=none)∧H Ad=some (.lst ys)∧cz (Own Z G H n) ys acc fs∧(Ad::fs).Nodup∧(∀b∈Ad::fs,H1 b=none∧H b≠none∧G b=none)∧cX Z G σ ρ
theorem cz.snoc{R:V→D→List Addr→Prop}:∀{vs:List V}{ds:List D}{fs:List Addr}{v:V}{d:D}{f:List Addr},cz R vs ds fs→R v d f→cz R (vs++ [v]) (ds++ [d]) (fs++f)
 |_,_,_,v,d,f, .nil,r=>by simpa using cz.cons r .nil
 |_,_,_,v,d,f, .cons a as,r=>by rw [kU];exact .cons a (as.snoc r)
theorem Fe{n:Nat}{src:List (Option Nat)}{wi:il}{g:dJ}{tf:jG}:∀σ H Q,uv Z (n+1) (MF wi g tf src) σ H Q→JB (qK Z wi) (oF Z g) Ea (uv Z n tf) src σ H Q:=by
 rintro σ H Q ⟨G,ρ,P,s,en,h,q⟩;refine ⟨G,ρ,_,s,en,h,λds hd J G1 H1 x1 it Ad hA=>?_⟩;refine ⟨λi m cy H2=>m=ds.length-i∧i≤ds.length∧∃dF acc,Qy Z n G1 H1 Ad dF acc cy H2∧HV g tf (ds.drop i) dF acc P,⟨_,rfl,cZ _,_,[],⟨G1,[],[], .refl _,λb o e=>?_,ay hA _,λ_ _ h=>h,aa, .nil,by simp,λb hb=>?_,(en.mono x1.gg).src src⟩,hd⟩,?_⟩
 ·rw [ab (ah e (x1.sub.free hA))];exact x1.sub _ _ e
 ·have:b=Ad:=by simpa using hb
  subst this;exact ⟨hA,(by rw [aa];exact λz=>nomatch z),x1.sub.free hA⟩
 rintro i m cy H2 ⟨rfl,hi,dF,acc,⟨G2,ys,fs,s1,s2,s3,off,om,ol,nd,nw,Oi⟩,hl⟩
 by_cases bx:i<ds.length
 ·obtain ⟨go,_,yld⟩:=it G2 H2 s1 s2 i
  refine .inr ⟨go bx,λav H'=>∃aF jd,Qy Z n G1 H1 Ad aF jd av H'∧HV g tf (ds.drop (i+1)) aF jd P,λav H' k=>⟨ds.length-(i+1),by omega,rfl,bx,k⟩,λx H3 y=>?_⟩
  obtain ⟨G3,d,x3,Hq,dv⟩:=yld x H3 bx y;rw [lB Hq] at hl;refine ⟨G3,dF,d,_,x3.sub,Oi.mono x3.gg,dv,hl,λbh h1 cS su=>?_⟩;unfold Ea;dsimp only;rw [if_pos rfl];refine ⟨G3,bh,_,x3.sub,su,h1,λg6 i8 v f G6 H6 x6 ow Yr Sz=>?_⟩;have x:=x3.trans x6;have aA:Ad∈Ad::fs:=b8 ..
  have qF:∀b∈Ad::fs,H6 b=H2 b∧G6 b=none:=λb hb=>by
   obtain ⟨_,q2,q3⟩:=nw b hb;refine ⟨?_,x.off b q2 q3⟩;cases e:H2 b with
   |none=>exact absurd e q2
   |some o=>exact x.hh _ _ e
  have YF:H6 Ad=some (.lst ys):=by rw [(qF Ad aA).1];exact om
  have Sv:∀b∈f,H2 b=none:=λb hb=>x3.hh.free (Sz b hb).1;have Sy:∀b∈f,∀c∈Ad::fs,b≠c:=λb hb c hc z=>(nw c hc).2.1 (by rw [←z];exact Sv b hb)
  refine ⟨ys,YF,by rw [ol.length];exact i8.1,bh,_,⟨G6,ys++ [v],fs++f,s1.trans x.gg,λb o e=>?_,λb o e=>?_,λb hb hg=>x.off b (gW s3 hb) (off b hb hg),aa,?_,?_,λb hb=>?_,su.mono x6.gg⟩,i8.2⟩
  ·rw [ab (ah e (qF Ad aA).2)];exact x.sub _ _ e
  ·rw [ab (ah e hA)];exact (s3.trans x.hh) _ _ e
  ·refine cz.snoc (ol.imp λv d f' hf r=>r.keep x.gg λb hb=>?_) (ow.keep (.refl _) λb hb=>?_)
   ·have BE:b∈fs:=hf b hb
    rw [ab (λz=>(fk.mp nd).1 (by rw [←z];exact BE))]
    exact (qF b (cn _ BE)).1
   ·exact ab (Sy b hb Ad aA)
  ·rw [←List.cons_append]
   exact b7.mpr ⟨nd,Yr,λa ha b hb=>Ne.symm (Sy b hb a ha)⟩
  ·rw [←List.cons_append] at hb
   by_cases z:b=Ad
   ·subst z
    exact ⟨hA,(by rw [aa];exact λz=>nomatch z),(qF b aA).2⟩
   ·rcases b9.mp hb with hb|hb
    ·rw [ab z,(qF b hb).1]
     exact ⟨(nw b hb).1,(nw b hb).2.1,(qF b hb).2⟩
    ·rw [ab z]
     exact ⟨s3.free (Sv b hb),(Sz b hb).2⟩
 ·have e:ds.drop i= []:=xh (by omega)
  rw [e] at hl;refine .inl ⟨(it G2 H2 s1 s2 i).2.1 (by omega),q _ hl (.ref Ad) (Ad::fs) G2 H2 ⟨x1.gg.trans s1,s2,x1.hh.trans s3,λb hb hg=>off b (gW x1.hh hb) (x1.off b hb hg)⟩ (.inl ⟨Ad,ys,acc,fs,rfl,rfl,om,rfl,ol⟩) nd λb hb=>⟨x1.hh.free (nw b hb).1,(nw b hb).2⟩⟩
variable {tg iter elt:Expr} {scope:Scope} {NC:List Str} {src:List (Option Nat)} {wi:il} {g:dJ} {tf:jG} {md:List Nat} {rn:Nat}
theorem tV(i:Nat){n:Nat}{x:Str}{px mv:Pos}(hc:X.calm=true)(hN:X.N.Nodup)(c:bH X scope)(fP:dm scope X.N src NC)(hi:DI Z X tg iter wi)
  (hg:∀ex s H,DG Z (dO X scope NC ex s H) tg g) (he:∀ex s H,DF Z (dO X scope NC ex s H) n elt tf)
  (ot:swapsWith (.ListComp elt [⟨tg,iter,[],0⟩] scope pos) (some (.Name x px)) mv.line X.env=pure true:=by rfl) (hm:md.getD i 0=n+1:=by rfl) (eW:X.N[i]? =some x:=by rfl) (hx:Loc X.env.scope x:=by first|exact Or.inl rfl|exact Or.inr rfl)
  (hf:X.fn x=true∨X.env.scope.names.lookup x=some .local:=by first|exact .inl rfl|exact .inr rfl|assumption)
  (hs:∀x,foldedSetIterable iter X.env x=pure x:=by intro _;rfl):DSt Z X md rn (.Assign [.Name x px] (.ListComp elt [⟨tg,iter,[],0⟩] scope pos) mv) (Gm md i (MF wi g tf src)):=by
 refine (jX hc hN eW hx c fP hi hg (λ_ _ _=>lW) he ot hf hs).imp ?_;rintro D σ H ⟨B,ρ,E,⟨G,fp,S⟩,h,M⟩;exact Fe σ H _ (qN hm S h M)
end
abbrev iG:=inClass
structure Bc (Z:DC) (m qual:Str) (st:Stmt) (ps:List Str) where
 f:Addr
 fd:FuncData
 F:vD Z.K m qual st f fd
 b:Binds Z.K fd ps []
 m:Meth Z.K Z.C m f
def qf(K:PySem.W.Frag):Sp:=λvs H Q _=>∃(a:Addr)(ns:List Int),vs= [.ref a]∧aG K H a (ns.map V.int)∧ns.length≤63∧∀H',Q (.bl true) H'
def D5:fm:=λds P=>∃ns:List Int,ds= [.jb ns]∧ns.length≤63∧P (.bl true)
theorem KU{Z:DC}:∀vs H Q E,qf Z.K vs H Q E→aX Z D5 vs H Q E:=by
 rintro vs H Q E ⟨a,ns,rfl,hS,hl,q⟩;exact ⟨H,[.jb ns],λd=>d= .bl true, .refl _, .cons (.jb hS hl) .nil,⟨ns,rfl,hl,rfl⟩,λd hd v G' H' x dv=>by subst hd;cases dv;exact q H'⟩
theorem Qq(k:Nat){l:PySem.W.OpenLaw}{q:Program}{loose:List Str}{XP:(Str→Option Value)→Heap→Prop}{YP:World→Heap→Prop}{d:DefRec}{K:Params→PySem.W.Frag}(vL:3*k<150)(hn:l.most=some 63)(BH:d.params.defaults= [])
  (hY:∀(w:World)(h:Heap),YP w h→(K w.params).In h)
  (F:∀(w:World)(mg:Str→Option Value)(fa:Addr)(h:Heap),(K w.params).In h→h.Ns mainGlobals mg→mg d.name=some (.ref fa)→
   ∃fd:FuncData,(∀(s:Shared)(u:Value),BindsTo s fd ⟨[u],[]⟩ [("_law_script",u)])∧∀base:Heap,(K w.params).In base→base.Ns mainGlobals mg→FnOk l.prog w (K w.params) mg base cw k fa fd ["_law_script"] (qf (K w.params))):
  PySem.W.WalkO q loose XP YP l.row.toRowW d [] (λf vs=>PySem.call f vs):=
 L2.JG (n:=63) (k:=50) (x:="_law_script") (CX:=λ_=>cw) (sp:=λw=>qf (K w.params)) hn (by decide) BH ⟨rfl,by decide,by decide⟩ hY (λw mg fa h a b c=>by
  obtain ⟨fd,h1,h2⟩:=F w mg fa h a b c;exact ⟨fd,h1,λbase x y=>(h2 base x y).mono (by omega)⟩) (λ_ _ a ns hl _ hS=>⟨a,ns,rfl,hS,hl,λ_=>rfl⟩) λ_ _ _ _ _ z=>z
theorem kh{c:Bool}{A B:Prop}(h1:c=true→A)(h2:c=false→B):if c=true then A else B:=by
 cases c with
 |true=>exact fQ (h1 rfl)
 |false=>exact dq (h2 rfl)
theorem uk{i:Nat}{tt:dG}{te:ba}{ρ:DN}{α:Type}(enc:α→D)(p:α→Bool)(f:α→D):∀(ys:List α)(aF:DN)(acc:List D)(N:DN→List D→Prop),(∀y∈ys,∀(Y:D→Prop)(Nn:Prop),(p y=true→Y (f y))→(p y=false→Nn)→tt (ρ.set i (some (enc y))) λb=>if b=true then te (ρ.set i (some (enc y))) Y else Nn)→
  (∃o,aF=ρ.set i o)→acc.length+ys.length≤sizeLine→(∀aF,N aF (acc++(ys.filter p).map f))→lcW (mM i) tt te (ys.map enc) aF acc N
 | [],aF,acc,N,_,_,_,h=>by
  show N aF acc;simpa using h aF
 |y::ys,aF,acc,N,hs,⟨o,ho⟩,hz,h=>by
  show tt (aF.set i (some (enc y))) _;rw [ho,List.set_set];rw [cv] at hz;refine hs y (b8 ..) _ _ (λhp=>⟨by omega,?_⟩) (λhp=>?_)
  ·refine uk enc p f ys _ (acc++ [f y]) N (λz hz=>hs z (cn _ hz)) ⟨_,rfl⟩ (by simp;omega) λvB=>?_
   have:=h vB
   rw [List.filter_cons,hp] at this;simpa using this
  ·refine uk enc p f ys _ acc N (λz hz=>hs z (cn _ hz)) ⟨_,rfl⟩ (by omega) λvB=>?_
   have:=h vB
   rw [List.filter_cons,hp] at this;simpa using this
theorem yo{i:Nat}{te:ba}{ρ:DN}{α:Type}(enc:α→D)(f:α→D)(ys:List α)(N:DN→List D→Prop)(hs:∀y∈ys,∀(Y:D→Prop),Y (f y)→te (ρ.set i (some (enc y))) Y)(h0:ρ[i]? =some none)(hz:ys.length≤sizeLine)(h:∀aF,N aF (ys.map f)):lcW (mM i) rm te (ys.map enc) ρ [] N:=by
 refine uk (ρ:=ρ) enc (λ_=>true) f ys ρ [] N (λy hy Y Nn h1 _=>?_) ⟨none,?_⟩ (by simpa using hz) λaF=>by rw [List.filter_eq_self.mpr (λ_ _=>rfl),xv];exact h aF
 ·unfold rm
  dsimp only;rw [if_pos rfl];exact hs y hy Y (h1 rfl)
 ·obtain ⟨hi,e⟩:=cu.mp h0
  rw [←e,List.set_getElem_self]
theorem wu{g:dJ}{tb:dh}{E:fY}(I:Nat→DN→Prop):∀(ds:List D)(k:Nat)(ρ:DN),I k ρ→(∀(j:Nat)(d:D)(ρ:DN),ds[j]? =some d→I (k+j) ρ→∀A:DN→Prop,(∀ρ,I (k+j+1) ρ→A ρ)→g d ρ λbh=>tb {nx:=A,ct:=A,bk:=E.nx,rt:=E.rt} bh)→
  (∀ρ,I (k+ds.length) ρ→E.nx ρ)→ji g tb E ds ρ
 | [],k,ρ,h0,hs,he=>he ρ h0
 |d::ds,k,ρ,h0,hs,he=>by
  refine hs 0 d ρ rfl h0 _ λaF h'=>?_
  exact wu I ds (k+1) aF h' (λj d' dF hj h2 A hA=>by
   refine hs (j+1) d' dF (by simpa using hj) (by rw [show k+(j+1)=k+1+j by omega];exact h2) A λρ3 h3=>hA ρ3 ?_
   rw [show k+1+j+1=k+(j+1)+1 by omega];exact h3) (λdF h2=>he dF (by rw [cv,show k+(ds.length+1)=k+1+ds.length by omega];exact h2))
theorem cE{g:dJ}{tb:dh}{E:fY}{ds:List D}{ρ:DN}(I:Nat→DN→Prop)(h0:I 0 ρ)(hs:∀(j:Nat)(d:D)(ρ:DN),ds[j]? =some d→I j ρ→∀A:DN→Prop,(∀ρ,I (j+1) ρ→A ρ)→g d ρ λbh=>tb {nx:=A,ct:=A,bk:=E.nx,rt:=E.rt} bh)
  (he:∀ρ,I ds.length ρ→E.nx ρ):ji g tb E ds ρ:=wu I ds 0 ρ h0 (λj d ρ hj h A hA=>hs j d ρ hj (by simpa using h) A λaF h'=>hA aF (by simpa using h')) (λρ h=>he ρ (by simpa using h))
theorem Ha{g:dJ}{tb:dh}{E:fY}{lo:Int}{n:Nat}{ρ:DN}(I:Nat→DN→Prop)(h0:I 0 ρ)(hs:∀(j:Nat)(ρ:DN),j<n→I j ρ→∀A:DN→Prop,(∀ρ,I (j+1) ρ→A ρ)→g (.int (lo+j)) ρ λbh=>tb {nx:=A,ct:=A,bk:=E.nx,rt:=E.rt} bh)
  (he:∀ρ,I n ρ→E.nx ρ):ji g tb E (gn lo n) ρ:=by
 have l:(gn lo n).length=n:=by unfold gn;simp
 refine cE I h0 (λj d ρ hj h A hA=>?_) (λρ h=>he ρ (by rw [l] at h;exact h))
 have bx:j<n:=by
  have:=(cu.mp hj).1
  rw [l] at this;exact this
 rw [rL bx] at hj;cases hj;exact hs j ρ bx h A hA
theorem oY{c:dG}{tb:dh}{E:fY}{ρ:DN}(I:Nat→DN→Prop)(m0:Nat)(h0:I m0 ρ)(hs:∀m ρ,I m ρ→c ρ λb=>if b=true then tb {nx:=λaF=>∃m',m'<m∧I m' aF,ct:=λaF=>∃m',m'<m∧I m' aF,bk:=E.nx,rt:=E.rt} ρ else E.nx ρ):Dj c tb E ρ:=⟨I,⟨m0,h0⟩,hs⟩
section
variable {X:Cx} {elt t0 i0 t1 i1:Expr} {f0 f1:List Expr} {scope:Scope} {pos:Pos} {wi gr:TI} {g g1:TG} {tt eO:TT} {te:TE} {src:List (Option Nat)} {NC:List Str}
end
section
variable {Z:DC} {X:Cx} {md:List Nat} {rn:Nat} {elt t0 i0 t1 i1:Expr} {f0 f1:List Expr} {scope:Scope} {pos:Pos} {wi gr:il} {g g1:dJ} {tt eO:dG} {te:ba} {src:List (Option Nat)} {NC:List Str}
end
section
variable {Z:DC} {X:Cx} {md:List Nat} {rn:Nat} {e:Expr} {pos:Pos}
end
theorem kc{l:List D}{j:Nat}{d:D}(h:(f9 l)[j]? =some d):∃x,l[j]? =some x∧d= .tup [.int (j:Int),x]:=by
 unfold f9 at h;rw [List.getElem?_mapIdx] at h;cases e:l[j]? with
 |none=>rw [e] at h;cases h
 |some x=>rw [e] at h;cases h;exact ⟨x,rfl,rfl⟩
theorem n9(l:List D):(f9 l).length=l.length:=by unfold f9;simp
theorem dA{α β:Type}{f:α→β}{l:List α}{j:Nat}{y:β}(h:(l.map f)[j]? =some y):∃x,l[j]? =some x∧y=f x:=by
 rw [ck] at h;cases e:l[j]? with
 |none=>rw [e] at h;cases h
 |some x=>rw [e] at h;cases h;exact ⟨x,rfl,rfl⟩
theorem iE(r:List Nat):(r.map aI).all g7=true:=by simp [aI,g7]
theorem uf{r:List Nat}{p:Nat}:inD (aI p) (r.map aI)=decide (p∈r):=by
 unfold inD;rw [List.any_map]
 have:((λy=>jg y (aI p))∘aI)=λq:Nat=>decide (q=p):=by
  funext q
  simp [aI,jg,Function.comp]
  by_cases z:q=p
  ·simp [z]
  ·have:¬(q:Int)=(p:Int):=by omega
   simp [z,this]
 rw [this]
 by_cases h:p∈r
 ·rw [decide_eq_true h,vq];exact ⟨p,h,by simp⟩
 ·rw [decide_eq_false h]
  apply A8.mpr;intro z;rw [vq] at z;obtain ⟨q,hq,e⟩:=z
  exact h (by have:q=p:=by simpa using e
              rw [←this];exact hq)
theorem jI{l:List D}{p:Nat}{d:D}(h:l[p]? =some d):f6 l (p:Int)=some d:=bW h
theorem ve{w:List (List Nat)}{p:Nat}(h:p<w.length):(w.map aZ)[p]? =some (aZ (Wb.row w p)):=by
 rw [ck,Wb.Ay h];rfl
section
variable {Z:DC} {X:Cx} {md:List Nat} {rn:Nat} {e:Expr} {te:ba} {pos:Pos}
end
theorem Nr{ρ:DN}{A B:Prop}(h:A):rm ρ (λb=>if b=true then A else B):=by
 unfold rm;dsimp only;rw [if_pos rfl];exact h
theorem MS{c:Bool}{A B:Prop}(e:c=false)(h:B):if c=true then A else B:=by rw [if_neg (by rw [e];exact dE)];exact h
theorem pM{g:dJ}{tt:dG}{te:ba}{α:Type}(I:DN→Prop)(enc:α→D)(p:α→Bool)(f:α→D):∀(ys:List α)(aF:DN)(acc:List D)(N:DN→List D→Prop),(∀y∈ys,∀aF,I aF→∀(Y:DN→D→Prop)(Nn:DN→Prop),(∀bh,I bh→p y=true→Y bh (f y))→(∀bh,I bh→p y=false→Nn bh)→g (enc y) aF λbh=>tt bh λb=>if b=true then te bh (Y bh) else Nn bh)→
  I aF→acc.length+ys.length≤sizeLine→(∀aF,I aF→N aF (acc++(ys.filter p).map f))→lcW g tt te (ys.map enc) aF acc N
 | [],aF,acc,N,_,hI,_,h=>by
  show N aF acc;simpa using h aF hI
 |y::ys,aF,acc,N,hs,hI,hz,h=>by
  rw [cv] at hz;refine hs y (b8 ..) aF hI (λbh d=>acc.length<sizeLine∧lcW g tt te (ys.map enc) bh (acc++ [d]) N) (λbh=>lcW g tt te (ys.map enc) bh acc N) (λbh h1 hp=>⟨by omega,?_⟩) (λbh h1 hp=>?_)
  ·refine pM I enc p f ys _ (acc++ [f y]) N (λz hz=>hs z (cn _ hz)) h1 (by simp;omega) λvB h2=>?_
   have:=h vB h2
   rw [List.filter_cons,hp] at this;simpa using this
  ·refine pM I enc p f ys _ acc N (λz hz=>hs z (cn _ hz)) h1 (by omega) λvB h2=>?_
   have:=h vB h2
   rw [List.filter_cons,hp] at this;simpa using this
theorem ig{α:Type}{us:List α}(h:us.length=1):∃a0,us= [a0]:=by
 cases us with
 |nil=>cases h
 |cons a l=>
  cases l with
  |nil=>exact ⟨a,rfl⟩
  |cons _ _=>cases h
theorem lN{α:Type}{us:List α}(h:us.length=2):∃a0 a1,us= [a0,a1]:=by
 cases us with
 |nil=>cases h
 |cons a l=>
  obtain ⟨a1,rfl⟩:=ig (Nat.succ.inj h);exact ⟨a,a1,rfl⟩
theorem Ab{α:Type}{us:List α}(h:us.length=3):∃a0 a1 a2,us= [a0,a1,a2]:=by
 cases us with
 |nil=>cases h
 |cons a l=>
  obtain ⟨a1,a2,rfl⟩:=lN (Nat.succ.inj h);exact ⟨a,a1,a2,rfl⟩
section
variable {Z:DC} {X:Cx} {e:Expr} {es:List Expr} {t:jv} {pos:Pos}
theorem bu{sd:fm}{k j:Nat}{x:Str}{st:Stmt}{ps:List Str}{p:Pos}(d:bP X.K X.mg x st ps)(F:FnOk X.prog X.w X.K X.mg X.base cw k d.f d.fd ps (aX Z sd))(hr:cC j X.A)(ha:DA Z X (e::es) t)(hg:Gl X x:=by rfl)(hk:k≤j:=by first|decide|omega)
  (lI:(x==("__debug__":Str))=false:=by decide) (he:starEach (e::es) X.env=(false,eval e X.env)::starEach es X.env:=by rfl) (fq:(backTo pos (starEach es X.env)).any (·.1)=false:=by rfl):
  DE Z X (.Call (.Name x p) (e::es) [] pos) (xH sd t):=Gs F (hr.mono hk) hg d.m d.F.kp d.b ha lI he fq
theorem zC{scope:Scope}(sc:Scope)(e:X.env.scope=sc:=by rfl)(k:scope.kind= .function:=by rfl)(a:∀x∈scope.names,x.2= .local→scope.names.lookup x.1=some .local:=by decide+kernel)(b:∀x∈scope.names,x.2≠ .cell:=by decide+kernel)
  (c:∀x∈scope.names,x.2= .free→sc.names.lookup x.1=some .cell∨sc.names.lookup x.1=some .free:=by decide+kernel):bH X scope:=bH.of sc e k a b c
end
section
variable {K:PySem.W.Frag} {h:Heap} {mg:Str→Option Value}
abbrev gZ(K:PySem.W.Frag)(x:Str)(d:Addr):Prop:=PySem.W.nsIn K mainGlobals x=some (some (.ref d))
abbrev fo(K:PySem.W.Frag)(x qual:Str)(st:Stmt)(d:Addr)(od an:Option Addr)(sl:Array (Option Value))(oc kV dc pm cd ct:Value):Prop:=K.lookup d=some ⟨oc,od, .func (PySem.W.fnOf x qual (iN st) (eU st) (ao st) .none kV dc pm an cd ct),sl⟩
def bP.of{x:Str}{st:Stmt}{ps:List Str}{d:Addr}{od an:Option Addr}{sl:Array (Option Value)}{oc kV dc pm cd ct:Value}(X:K.In h)(G:h.Ns mainGlobals mg)(a:gZ K x d)(l:fo K x x st d od an sl oc kV dc pm cd ct)(c:PySem.W.codeIn K cd x=true)(k:PySem.W.keepIn K (.ref d)=true)
  (b:∀(kV doc pm:Value)(an:Option Addr)(br ct:Value)(us:List Value),us.length=ps.length→bindArgs (PySem.W.fnOf x x (iN st) (eU st) (ao st) .none kV doc pm an br ct) ⟨us,[]⟩=pure (ps.zip us)):bP K mg x st ps:=
 ⟨d,_,pF l c k,(pF l c k).binds b,PySem.W.mg_of X G a⟩
def Bc.of{Z:DC}{m qual:Str}{st:Stmt}{ps:List Str}{d:Addr}{od an:Option Addr}{sl:Array (Option Value)}{oc kV dc pm cd ct:Value}(a:PySem.W.findIn Z.K (.ref Z.C) m=some (some (.ref d)))(f:PySem.W.isFn Z.K (.ref d)=true)(l:fo Z.K m qual st d od an sl oc kV dc pm cd ct)(c:PySem.W.codeIn Z.K cd qual=true)(k:PySem.W.keepIn Z.K (.ref d)=true)
  (b:∀(kV doc pm:Value)(an:Option Addr)(br ct:Value)(us:List Value),us.length=ps.length→bindArgs (PySem.W.fnOf m qual (iN st) (eU st) (ao st) .none kV doc pm an br ct) ⟨us,[]⟩=pure (ps.zip us)):Bc Z m qual st ps:=
 ⟨d,_,pF l c k,(pF l c k).binds b,⟨a,f,k⟩⟩
end
end L2
namespace Wb
def fc(w:W):Nat:=(w.map List.length).sum
theorem pz{r:List Nat}:∀{w:W}{p:Nat},p<w.length→fc (w.set p r)+(row w p).length=fc w+r.length
 | [],_,h=>by simp at h
 |a::w,0,_=>by simp [fc,row];omega
 |a::w,p+1,h=>by
  have ih:=pz (r:=r) (w:=w) (p:=p) (by simpa using h)
  have e:row (a::w) (p+1)=row w p:=by simp [row]
  rw [e];simp only [fc,List.set_cons_succ,fD,List.sum_cons] at ih ⊢;omega
theorem Ez(w:W)(r:List Nat):fc (w++ [r])=fc w+r.length:=by simp [fc]
theorem Ey{w:W}{p i:Nat}(h:p<w.length):fc (leaf w p i)=fc w+2:=by
 unfold leaf
 have:=pz (r:=ins (row w p) i w.length) h
 rw [ug] at this;rw [Ez];simp;omega
theorem zI{w:W}{p i u j:Nat}(hp:p<w.length)(hu:u<w.length)(ne:u≠p):fc (lg w p i u j)=fc w+2:=by
 unfold lg;have h1:=pz (r:=ins (row w p) i u) hp;have h2:=pz (w:=w.set p (ins (row w p) i u)) (r:=ins (row w u) j p) (p:=u) (by simpa using hu)
 rw [fz hp,if_neg (Ne.symm ne)] at h2;rw [ug] at h1 h2;omega
theorem Fu{l l':List Nat}(h:l.Perm l'):l.sum=l'.sum:=by
 induction h with
 |nil=>rfl
 |cons x _ ih=>simp [ih]
 |swap x y l=>simp;omega
 |trans _ _ ZQ ZR=>exact ZQ.trans ZR
theorem qy(w:W):fc w=((List.range w.length).map λp=>(row w p).length).sum:=by
 unfold fc
 congr 1
 refine List.ext_getElem (by simp) λi h1 h2=>?_
 rw [List.getElem_map,List.getElem_map,List.getElem_range];have hi:i<w.length:=by simpa using h1
 have:=Ay hi
 rw [cK hi] at this;rw [Option.some.inj this]
theorem Gy{w w':W}{ord:List Nat}(hl:w'.length=w.length)(pm:ord.Perm (List.range w.length))(gS:∀p,p<w.length→(row w' (ord.getD p 0)).Perm ((row w p).map λx=>ord.getD x 0)):fc w'=fc w:=by
 rw [qy w',hl,qy w,←Fu (pm.map λp=>(row w' p).length)]
 congr 1
 have ll:ord.length=w.length:=by rw [pm.length_eq,vz]
 refine List.ext_getElem (by simp [ll]) λi h1 h2=>?_
 rw [List.getElem_map,List.getElem_map,List.getElem_range];have hi:i<w.length:=by simpa using h2
 have e:ord.getD i 0=ord[i]'(by rw [ll];exact hi):=by rw [fW,cK (by rw [ll];exact hi)];rfl
 have:=(gS i hi).length_eq
 rw [aP,e] at this;exact this
theorem j8(w:W):(aE w).length=fc w:=by
 rw [qy];unfold aE;rw [List.length_flatMap]
 congr 1
 apply List.map_congr_left;intro p _;rw [aP]
theorem bb{w:W}(g:Good w):(aE w).Nodup:=by
 unfold aE List.Nodup;refine lT (λp _=>?_) ?_
 ·rw [iZ]
  exact (g.nod p).imp λne e=>ne (congrArg Prod.snd e)
 ·refine List.Pairwise.imp ?_ List.pairwise_lt_range
  intro a b lt x hx y hy e;obtain ⟨_,_,rfl⟩:=bS.mp hx;obtain ⟨_,_,rfl⟩:=bS.mp hy
  have:=congrArg Prod.fst e
  simp at this;omega
theorem mB(w:W):iC (row w) w.length=(aE w).filter λd=>decide (d.1<d.2):=by
 unfold iC aE;rw [List.filter_flatMap]
 congr 1
 funext p
 rw [List.filter_map];rfl
theorem CO{w:W}(g:Good w):2*(iC (row w) w.length).length≤fc w:=by
 rw [mB,←j8];have h1:=List.length_eq_countP_add_countP (λd:Nat×Nat=>decide (d.1<d.2)) (l:=aE w)
 have h2:((aE w).filter λd=>decide (d.1<d.2)).length≤((aE w).filter λd=>decide (d.2<d.1)).length:=by
  have:=aT (l:=((aE w).filter λd=>decide (d.1<d.2)).map λd=>(d.2,d.1)) (m:=(aE w).filter λd=>decide (d.2<d.1)) ?_ ?_
  ·rwa [aP] at this
  ·unfold List.Nodup
   rw [iZ];refine List.Pairwise.imp ?_ ((bb g).filter _);intro a b ne e;have e1:=congrArg Prod.fst e;have e2:=congrArg Prod.snd e;exact ne (Prod.ext e2 e1)
  ·intro x hx
   obtain ⟨d,hd,rfl⟩:=bS.mp hx;obtain ⟨YY,hd2⟩:=vt.mp hd;refine vt.mpr ⟨aB.mpr (g.sym _ _ (aB.mp YY)),?_⟩;simpa using hd2
 have h3:((aE w).filter λd=>decide (d.2<d.1)).length≤(aE w).countP λd=>!decide (d.1<d.2):=by
  rw [←List.countP_eq_length_filter];apply List.countP_mono_left;intro d _ h;simp at h ⊢;omega
 rw [List.countP_eq_length_filter] at h1
 have h4:(aE w).countP (λd=>!decide (d.1<d.2))=List.countP (λa=>decide ¬(decide (a.1<a.2)=true)) (aE w):=by
  congr 1
  funext d
  by_cases h:d.1<d.2<;>simp [h]
 omega
structure RI (w:W) (bs:List Bool) (ws ex:List Nat) (c:Nat):Prop where
 len:bs.length=w.length
 z:bs[0]? =some true
 wt:∀x∈ws,bs[x]? =some true
 cl:∀x,bs[x]? =some true→x∈ws∨x∈ex∨∀q∈row w x,bs[q]? =some true
 cnt:bs.count false+ws.length≤c
theorem RI.pop{w:W}{bs:List Bool}{ws:List Nat}{p c:Nat}(h:RI w bs (ws++ [p]) [] (c+1)):RI w bs ws [p] c:=
 ⟨h.len,h.z,λx hx=>h.wt x (fj _ hx),λx hx=>by
  rcases h.cl x hx with q|q|q
  ·rcases b9.mp q with q|q
   ·exact .inl q
   ·exact .inr (.inl q)
  ·cases q
  ·exact .inr (.inr q),by have:=h.cnt;rw [dX] at this;simp at this;omega⟩
theorem RI.push{w:W}{bs:List Bool}{ws ex:List Nat}{q c:Nat}(h:RI w bs ws ex c)(hq:bs[q]? =some false):RI w (bs.set q true) (ws++ [q]) ex c:=by
 obtain ⟨hl,he⟩:=cu.mp hq
 have up:∀x,bs[x]? =some true→(bs.set q true)[x]? =some true:=λx hx=>by
  rw [qp]
  by_cases e:q=x
  ·rw [if_pos e,if_pos hl]
  ·rw [if_neg e];exact hx
 refine ⟨by rw [fC];exact h.len,up _ h.z,λx hx=>?_,λx hx=>?_,?_⟩
 ·rcases b9.mp hx with z|z
  ·exact up _ (h.wt x z)
  ·have:x=q:=by simpa using z
   rw [this,qp,if_pos rfl,if_pos hl]
 ·by_cases e:q=x
  ·exact .inl (by rw [e];simp)
  ·rw [qp,if_neg e] at hx
   rcases h.cl x hx with z|z|z
   ·exact .inl (fj _ z)
   ·exact .inr (.inl z)
   ·exact .inr (.inr λy hy=>up _ (z y hy))
 ·have hc:=h.cnt
  have:0<bs.count false:=List.count_pos_iff.mpr (by rw [←he];exact nW hl)
  rw [List.count_set hl,he,dX];simp;omega
theorem RI.close{w:W}{bs:List Bool}{ws:List Nat}{p c:Nat}(h:RI w bs ws [p] c)(hp:∀q∈row w p,bs[q]? =some true):RI w bs ws [] c:=
 ⟨h.len,h.z,h.wt,λx hx=>by
  rcases h.cl x hx with q|q|q
  ·exact .inl q
  ·have:x=p:=by simpa using q
   rw [this];exact .inr (.inr hp)
  ·exact .inr (.inr q),h.cnt⟩
theorem RI.all{w:W}{bs:List Bool}{c:Nat}(g:Good w)(h:RI w bs [] [] c):bs=List.replicate w.length true:=by
 have:=zB g (S:=λx=>bs[x]? =some true) h.z λp q hp hq=>by
  rcases h.cl p hp with z|z|z
  ·cases z
  ·cases z
  ·exact z q hq
 refine vA λi=>?_
 by_cases hi:i<w.length
 ·rw [this i hi,A4,if_pos hi]
 ·rw [js (by rw [h.len];omega),js (by simp;omega)]
end Wb
namespace Bb
open PySem L2 Wb
def top(i:Nat):Stmt:=PySem.Challenge.pw_mapdye_k14_counted.main.body.getD i (.Pass ⟨0,0,0,0⟩)
abbrev jE:Stmt:=top 9
abbrev mj:Stmt:=top 10
abbrev uV:Stmt:=top 11
abbrev mh:Stmt:=top 12
abbrev lZ:Stmt:=top 15
abbrev iS:Stmt:=top 16
abbrev jF:Stmt:=top 17
abbrev iV:Stmt:=top 18
abbrev jD:Stmt:=top 19
abbrev cH:Stmt:=top 20
abbrev iT:Stmt:=top 21
abbrev iU:Stmt:=top 22
abbrev p5:Stmt:=top 25
abbrev nM:Stmt:=top 26
abbrev lY:Stmt:=top 27
abbrev p6:Stmt:=top 28
abbrev p7:Stmt:=top 29
abbrev kG:Stmt:=top 30
abbrev jC:Stmt:=top 31
abbrev rO:Stmt:=top 32
abbrev kM:Stmt:=top 33
abbrev rP:Stmt:=top 34
abbrev iR:Stmt:=top 35
abbrev qZ:Stmt:=top 36
abbrev dU:Stmt:=L2.iG (top 23) 0
abbrev lX:Stmt:=L2.iG (top 23) 1
abbrev p4:Stmt:=L2.iG (top 23) 2
abbrev jn:Stmt:=L2.iG (top 23) 3
abbrev rN:Stmt:=L2.iG (top 23) 4
abbrev jB:Stmt:=L2.iG (top 23) 5
theorem mq:aJ ["web","side","sides","p","q"] ["web","side"] (ao jE):=⟨rfl,rfl,rfl,by decide+kernel,rfl,by decide+kernel,by decide+kernel⟩
theorem xa:aJ ["web","walked","told","side","sides","step"] ["web"] (ao mj):=⟨rfl,rfl,rfl,by decide+kernel,rfl,by decide+kernel,by decide+kernel⟩
theorem w9:aJ ["web"] ["web"] (ao uV):=⟨rfl,rfl,rfl,by decide+kernel,rfl,by decide+kernel,by decide+kernel⟩
theorem qb:aJ ["web","points","ties","rounds"] ["web"] (ao mh):=⟨rfl,rfl,rfl,by decide+kernel,rfl,by decide+kernel,by decide+kernel⟩
theorem qa:aJ ["thing","many"] ["thing","many"] (ao lZ):=⟨rfl,rfl,rfl,by decide+kernel,rfl,by decide+kernel,by decide+kernel⟩
theorem kO:aJ ["rows","p","row","q"] ["rows"] (ao iS):=⟨rfl,rfl,rfl,by decide+kernel,rfl,by decide+kernel,by decide+kernel⟩
theorem mr:aJ ["rows","p","row"] ["rows"] (ao jF):=⟨rfl,rfl,rfl,by decide+kernel,rfl,by decide+kernel,by decide+kernel⟩
theorem kR:aJ ["rows","p","row","place","q"] ["rows"] (ao iV):=⟨rfl,rfl,rfl,by decide+kernel,rfl,by decide+kernel,by decide+kernel⟩
theorem mn:aJ ["rows","p","row","q"] ["rows"] (ao jD):=⟨rfl,rfl,rfl,by decide+kernel,rfl,by decide+kernel,by decide+kernel⟩
theorem gq:aJ ["rows","reached","waiting","p","q"] ["rows"] (ao cH):=⟨rfl,rfl,rfl,by decide+kernel,rfl,by decide+kernel,by decide+kernel⟩
theorem kP:aJ ["rows","q","reached"] ["rows"] (ao iT):=⟨rfl,rfl,rfl,by decide+kernel,rfl,by decide+kernel,by decide+kernel⟩
theorem kQ:aJ ["rows","fault"] ["rows"] (ao iU):=⟨rfl,rfl,rfl,by decide+kernel,rfl,by decide+kernel,by decide+kernel⟩
theorem nN:aJ ["_law_turns","_law_side","_law_p","_law_q"] ["_law_turns","_law_side"] (ao kG):=⟨rfl,rfl,rfl,by decide+kernel,rfl,by decide+kernel,by decide+kernel⟩
theorem mm:aJ ["_law_turns","_law_side","_law_found","_law_here"] ["_law_turns","_law_side"] (ao jC):=⟨rfl,rfl,rfl,by decide+kernel,rfl,by decide+kernel,by decide+kernel⟩
theorem kN:aJ ["_law_turns","_law_seen","_law_many","_law_p","_law_turn","_law_q","_law_side"] ["_law_turns"] (ao iR):=⟨rfl,rfl,rfl,by decide+kernel,rfl,by decide+kernel,by decide+kernel⟩
theorem D4:aJ ["_law_script","_law_built","_law_turns","_law_handed","_law_web_here","_law_due","_law_again","_law_found","_law_told"] ["_law_script"] (ao qZ):=⟨rfl,rfl,rfl,by decide+kernel,rfl,by decide+kernel,by decide+kernel⟩
theorem jY:aJ ["self","turns","rows","fault"] ["self","turns"] (ao dU):=⟨rfl,rfl,rfl,by decide+kernel,rfl,by decide+kernel,by decide+kernel⟩
theorem p8:aJ ["self"] ["self"] (ao lX):=⟨rfl,rfl,rfl,by decide+kernel,rfl,by decide+kernel,by decide+kernel⟩
theorem p9:aJ ["self"] ["self"] (ao jn):=⟨rfl,rfl,rfl,by decide+kernel,rfl,by decide+kernel,by decide+kernel⟩
theorem ml:aJ ["self","p","q","row"] ["self","p","q"] (ao jB):=⟨rfl,rfl,rfl,by decide+kernel,rfl,by decide+kernel,by decide+kernel⟩
structure Txt (Z:DC) (mg:Str→Option Value) where
 B:Qw mg
 x_set:mg "set"=none
 x_any:mg "any"=none
 d_round_from:bP Z.K mg "round_from" jE ["web","side"]
 d_lands:bP Z.K mg "lands" mj ["web"]
 d_count:bP Z.K mg "count" uV ["web"]
 d_is_plane:bP Z.K mg "is_plane" mh ["web"]
 d_is_among:bP Z.K mg "is_among" lZ ["thing","many"]
 d_alien_fault:bP Z.K mg "alien_fault" iS ["rows"]
 d_self_fault:bP Z.K mg "self_fault" jF ["rows"]
 d_twice_fault:bP Z.K mg "twice_fault" iV ["rows"]
 d_lone_fault:bP Z.K mg "lone_fault" jD ["rows"]
 d_reached_from_first:bP Z.K mg "reached_from_first" cH ["rows"]
 d_apart_fault:bP Z.K mg "apart_fault" iT ["rows"]
 d_first_fault:bP Z.K mg "first_fault" iU ["rows"]
 d__law_cell:bP Z.K mg "_law_cell" p5 ["_law_script","_law_k"]
 d__law_mixed:bP Z.K mg "_law_mixed" nM ["_law_script","_law_turn"]
 d__law_digits:bP Z.K mg "_law_digits" lY ["_law_script","_law_at"]
 d__law_take:bP Z.K mg "_law_take" p6 ["_law_left","_law_many"]
 d__law_tree:bP Z.K mg "_law_tree" p7 ["_law_many","_law_left"]
 d__law_next:bP Z.K mg "_law_next" kG ["_law_turns","_law_side"]
 d__law_round:bP Z.K mg "_law_round" jC ["_law_turns","_law_side"]
 d__law_tie:bP Z.K mg "_law_tie" rO ["_law_turns","_law_left","_law_plane"]
 d__law_renamed:bP Z.K mg "_law_renamed" kM ["_law_turns","_law_order","_law_left"]
 d__law_web:bP Z.K mg "_law_web" rP ["_law_script","_law_most","_law_plane"]
 d__law_rounds:bP Z.K mg "_law_rounds" iR ["_law_turns"]
 d_law:bP Z.K mg "law" qZ ["_law_script"]
 W:C7 Z
 mC:mg "Web"=some (.ref Z.C)
 i_f:Addr
 i_fd:FuncData
 i_F:vD Z.K "__init__" "Web.__init__" dU i_f i_fd
 mkW:Mk Z.K Z.C i_f
 m___init__b:Binds Z.K i_fd ["self","turns"] []
 m_many:Bc Z "many" "Web.many" lX ["self"]
 m_turns:Bc Z "turns" "Web.turns" p4 ["self"]
 m_ties:Bc Z "ties" "Web.ties" jn ["self"]
 m_tied:Bc Z "tied" "Web.tied" rN ["self","a","b"]
 m_behind:Bc Z "behind" "Web.behind" jB ["self","p","q"]
 c_MOST_POINTS:∃tk,mg "MOST_POINTS"=some (.int 14 tk)
variable {P:Program} {w:World} {mg:Str→Option Value} {base:Heap} {Z:DC} (T:Txt Z mg)
def Jr:fm:=λds P=>∃(i n:Int),ds= [.int i, .int n]∧P (.bl (decide (0≤i∧i<n)))
theorem yK:FnOk P w Z.K mg base cw 1 T.d_is_among.f T.d_is_among.fd ["thing","many"] (aX Z Jr):=by
 have nd:=qa.nd;refine bM T.d_is_among.F qa [0,0] (by decide) (λds R h=>by obtain ⟨_,_,rfl,_⟩:=h;rfl) (λbr A outer s H E ds R hr h=>?_)
 have hu:=hr.units;refine ⟨_,(aw (bA (Dk (pk "int" (U 0) rfl T.B.isinstance rfl T.B.int JU) (Dk (J9 (pk "bool" (U 0) rfl T.B.isinstance rfl T.B.bool tF)) (Ka (Et yD Iq aU (U 0) (U 1))))))),?_⟩;obtain ⟨i,n,rfl,q⟩:=h;refine ⟨_,rfl,rfl,true,rfl,fQ ⟨_,rfl,rfl,false,rfl,true,rfl,fQ ⟨_,rfl,?_⟩⟩⟩;refine ⟨_,rfl,kh (λh0=>⟨_,rfl,?_⟩) (λh0=>?_)⟩
 ·have h0:0≤i:=of_decide_eq_true h0
  show R (.bl (decide (i<n)));rw [show decide (i<n)=decide (0≤i∧i<n) by simp [h0]]
  exact q
 ·have h0:¬0≤i:=of_decide_eq_false h0
  rw [show decide (0≤i∧i<n)=false by simp [h0]] at q
  exact q
def ng:fm:=λds P=>∃(w:W),ds= [bJ w]∧Good w∧1≤w.length∧w.length≤14∧P .aL
theorem AU{w:W}{j:Nat}{d:D}(h:(f9 (w.map aZ))[j]? =some d):j<w.length∧d= .tup [.int (j:Int),aZ (row w j)]:=by
 obtain ⟨x,hx,rfl⟩:=kc h;obtain ⟨r,hr,rfl⟩:=dA hx;have hj:j<w.length:=(cu.mp hr).1;refine ⟨hj,?_⟩;rw [LH hr]
theorem sH:FnOk P w Z.K mg base cw 2 T.d_alien_fault.f T.d_alien_fault.fd ["rows"] (aX Z ng):=by
 have nd:=kO.nd;refine bM T.d_alien_fault.F kO [0,0,0,0] (by decide) (λds R h=>by obtain ⟨_,rfl,_⟩:=h;rfl) (λbr A outer s H E ds R hr h=>?_)
 have hu:=hr.units
 refine ⟨_,(au (eJ rfl PassesOwn.never (gP rfl T.B.enumerate (af (U 0) ax)) (gL 2 rfl (aY (aO 1 nd) (aY (aO 2 nd) dY))) (aw (eJ rfl PassesOwn.never (cO (U 2)) (aO 3 nd) (aw (eF (j9 (iy (bu T.d_is_among (yK T) hr (af (U 3) (af (cc ix rfl T.B.len iw (af (U 0) ax)) ax))))) (aw (bA (eH (af pq (af (U 1) (af (U 3) ax)))))) bL)))))
   (aw (bA gK))),?_⟩
 obtain ⟨w',rfl,g,h1,cF,q⟩:=h;refine ⟨_,rfl,cE (λ_ ρ=>∃o1 o2 o3,ρ= [some (bJ w'),o1,o2,o3]) ⟨_,_,_,rfl⟩ ?_ ?_⟩
 ·rintro j d _ hd ⟨o1,o2,o3,rfl⟩ A hA
  obtain ⟨hj,rfl⟩:=AU hd;refine ⟨rfl,rfl,?_⟩;refine ⟨_,rfl,cE (λ_ ρ=>∃o3,ρ= [some (bJ w'),some (.int (j:Int)),some (aZ (row w' j)),o3]) ⟨_,rfl⟩ ?_ ?_⟩
  ·rintro k d' _ hk ⟨o4,rfl⟩ A' BB
   obtain ⟨x,hx,rfl⟩:=dA hk;refine ⟨_,rfl,_,rfl,_,_,rfl,⟨rfl,?_⟩⟩;have bx:x<w'.length:=g.rng _ _ (di hx);rw [show decide ((0:Int)≤(x:Int)∧(x:Int)<((w'.map aZ).length:Int))=true by simp;omega]
   exact dq (BB _ ⟨_,rfl⟩)
  ·rintro _ ⟨o4,rfl⟩
   exact hA _ ⟨_,_,_,rfl⟩
 ·rintro _ ⟨o1,o2,o3,rfl⟩
  exact q
theorem uH:FnOk P w Z.K mg base cw 1 T.d_self_fault.f T.d_self_fault.fd ["rows"] (aX Z ng):=by
 have nd:=mr.nd;refine bM T.d_self_fault.F mr [0,0,0] (by decide) (λds R h=>by obtain ⟨_,rfl,_⟩:=h;rfl) (λbr A outer s H E ds R hr h=>?_)
 have hu:=hr.units
 refine ⟨_,(au (eJ rfl PassesOwn.never (gP rfl T.B.enumerate (af (U 0) ax)) (gL 2 rfl (aY (aO 1 nd) (aY (aO 2 nd) dY))) (aw (eF (dj Ip (U 1) (U 2) (by with_unfolding_all rfl)) (aw (bA (eH (af pq (af (U 1) (af (U 1) ax)))))) bL)))
   (aw (bA gK))),?_⟩
 obtain ⟨w',rfl,g,h1,cF,q⟩:=h;refine ⟨_,rfl,cE (λ_ ρ=>∃o1 o2,ρ= [some (bJ w'),o1,o2]) ⟨_,_,rfl⟩ ?_ ?_⟩
 ·rintro j d _ hd ⟨o1,o2,rfl⟩ A hA
  obtain ⟨hj,rfl⟩:=AU hd;refine ⟨rfl,rfl,?_⟩;refine ⟨_,rfl,_,rfl,rfl,iE _,_,rfl,?_⟩
  have e:inD (.int (j:Int)) ((row w' j).map aI)=false:=by
   have:=uf (r:=row w' j) (p:=j)
   rw [decide_eq_false (g.irr j)] at this;exact this
  rw [if_neg dE,e];exact dq (hA _ ⟨_,_,rfl⟩)
 ·rintro _ ⟨o1,o2,rfl⟩
  exact q
theorem Bn{α:Type}(l:List α)(k:Nat)(h:k≤l.length):cutD l none (some (k:Int))=l.take k:=by
 unfold cutD;have e1:HT.bG l.length 0 none=0:=rfl
 have e2:HT.bG l.length l.length (some (k:Int))=k:=by
  simp only [HT.bG]
  split<;>omega
 rw [e1,e2];simp
theorem sM:FnOk P w Z.K mg base cw 1 T.d_twice_fault.f T.d_twice_fault.fd ["rows"] (aX Z ng):=by
 have nd:=kR.nd;refine bM T.d_twice_fault.F kR [0,0,0,0,0] (by decide) (λds R h=>by obtain ⟨_,rfl,_⟩:=h;rfl) (λbr A outer s H E ds R hr h=>?_)
 have hu:=hr.units
 refine ⟨_,(au (eJ rfl PassesOwn.never (gP rfl T.B.enumerate (af (U 0) ax)) (gL 2 rfl (aY (aO 1 nd) (aY (aO 2 nd) dY))) (aw (eJ rfl PassesOwn.never (gP rfl T.B.enumerate (af (U 2) ax)) (gL 2 rfl (aY (aO 3 nd) (aY (aO 4 nd) dY))) (aw (eF (dj Ip (U 4) (Ex (U 2) GC (GD (U 3))) (by with_unfolding_all rfl)) (aw (bA (eH (af pq (af (U 1) (af (U 4) ax)))))) bL)))))
   (aw (bA gK))),?_⟩
 obtain ⟨w',rfl,g,h1,cF,q⟩:=h;refine ⟨_,rfl,cE (λ_ ρ=>∃o1 o2 o3 o4,ρ= [some (bJ w'),o1,o2,o3,o4]) ⟨_,_,_,_,rfl⟩ ?_ ?_⟩
 ·rintro j d _ hd ⟨o1,o2,o3,o4,rfl⟩ A hA
  obtain ⟨hj,rfl⟩:=AU hd;refine ⟨rfl,rfl,?_⟩;refine ⟨_,rfl,cE (λ_ ρ=>∃o3 o4,ρ= [some (bJ w'),some (.int (j:Int)),some (aZ (row w' j)),o3,o4]) ⟨_,_,rfl⟩ ?_ ?_⟩
  ·rintro k d' _ hk ⟨o5,o6,rfl⟩ A' BB
   obtain ⟨y,hy,rfl⟩:=kc hk;obtain ⟨x,hx,rfl⟩:=dA hy;have gd:k<(row w' j).length:=(cu.mp hx).1;refine ⟨rfl,rfl,?_⟩;refine ⟨_,rfl,_,rfl,_,rfl,?_⟩;have ec:cutD ((row w' j).map aI) none (some (k:Int))=((row w' j).take k).map aI:=by rw [Bn _ _ (by simp;omega),List.map_take]
   refine (?_:J2 false (aI x) (.lst (cutD ((row w' j).map aI) none (some (k:Int)))) _);rw [ec];refine ⟨rfl,iE _,_,rfl,?_⟩
   have e:inD (aI x) (((row w' j).take k).map aI)=false:=by
    rw [uf,decide_eq_false];intro z;obtain ⟨m,hm⟩:=gz z
    have BM:m<k:=by
     have:=(cu.mp hm).1
     rw [jt] at this;omega
    rw [Ee BM] at hm;exact absurd ((List.getElem?_inj (by omega) (g.nod j)).mp (hm.trans hx.symm)) (by omega)
   rw [if_neg dE,e];exact dq (BB _ ⟨_,_,rfl⟩)
  ·rintro _ ⟨o5,o6,rfl⟩
   exact hA _ ⟨_,_,_,_,rfl⟩
 ·rintro _ ⟨o1,o2,o3,o4,rfl⟩
  exact q
theorem uF:FnOk P w Z.K mg base cw 1 T.d_lone_fault.f T.d_lone_fault.fd ["rows"] (aX Z ng):=by
 have nd:=mn.nd;refine bM T.d_lone_fault.F mn [0,0,0,0] (by decide) (λds R h=>by obtain ⟨_,rfl,_⟩:=h;rfl) (λbr A outer s H E ds R hr h=>?_)
 have hu:=hr.units
 refine ⟨_,(au (eJ rfl PassesOwn.never (gP rfl T.B.enumerate (af (U 0) ax)) (gL 2 rfl (aY (aO 1 nd) (aY (aO 2 nd) dY))) (aw (eJ rfl PassesOwn.never (cO (U 2)) (aO 3 nd) (aw (eF (dj Fm (U 1) (fG (U 0) (U 3)) (by with_unfolding_all rfl)) (aw (bA (eH (af pq (af (U 1) (af (U 3) ax)))))) bL)))))
   (aw (bA gK))),?_⟩
 obtain ⟨w',rfl,g,h1,cF,q⟩:=h;refine ⟨_,rfl,cE (λ_ ρ=>∃o1 o2 o3,ρ= [some (bJ w'),o1,o2,o3]) ⟨_,_,_,rfl⟩ ?_ ?_⟩
 ·rintro j d _ hd ⟨o1,o2,o3,rfl⟩ A hA
  obtain ⟨hj,rfl⟩:=AU hd;refine ⟨rfl,rfl,?_⟩;refine ⟨_,rfl,cE (λ_ ρ=>∃o3,ρ= [some (bJ w'),some (.int (j:Int)),some (aZ (row w' j)),o3]) ⟨_,rfl⟩ ?_ ?_⟩
  ·rintro k d' _ hk ⟨o4,rfl⟩ A' BB
   obtain ⟨x,hx,rfl⟩:=dA hk;have T5:=di hx;have bx:x<w'.length:=g.rng _ _ T5;refine ⟨_,rfl,_,rfl,_,rfl,_,jI (ve bx),rfl,iE _,_,rfl,?_⟩
   have e:inD (.int (j:Int)) ((row w' x).map aI)=true:=by
    have:=uf (r:=row w' x) (p:=j)
    rw [decide_eq_true (g.sym _ _ T5)] at this;exact this
   rw [if_pos rfl,e];exact dq (BB _ ⟨_,rfl⟩)
  ·rintro _ ⟨o4,rfl⟩
   exact hA _ ⟨_,_,_,rfl⟩
 ·rintro _ ⟨o1,o2,o3,rfl⟩
  exact q
def tL(bs:List Bool):List D:=bs.map D.bl
theorem Ga{bs:List Bool}{i:Nat}{b:Bool}(h:bs[i]? =some b):(tL bs)[i]? =some (.bl b):=by unfold tL;rw [ck,h];rfl
theorem zy(bs:List Bool)(i:Nat)(b:Bool):(tL bs).set i (.bl b)=tL (bs.set i b):=by unfold tL;rw [List.map_set]
theorem zx(bs:List Bool):(tL bs).length=bs.length:=aP _
theorem wD{n k:Nat}(h:k<n):iO n (k:Int)=some k:=by unfold iO;rw [if_pos (by omega),if_pos (by omega)];simp
def CH:fm:=λds P=>∃(w:W),ds= [bJ w]∧Good w∧1≤w.length∧w.length≤14∧P (.lst (tL (List.replicate w.length true)))
theorem kB:FnOk P w Z.K mg base cw 1 T.d_reached_from_first.f T.d_reached_from_first.fd ["rows"] (aX Z CH):=by
 have nd:=gq.nd;refine bM T.d_reached_from_first.F gq [0,1,1,0,0] (by decide) (λds R h=>by obtain ⟨_,rfl,_⟩:=h;rfl) (λbr A outer s H E ds R hr h=>?_)
 have hu:=hr.units
 refine ⟨_,(au (EA 1 (NC:= ["row"]) (src:= [none]) rfl nd (zC (ao cH)) trivial (cO (U 0)) (λ_ _ _=>(dP 0 (show (["row"]:List Str).Nodup from by decide+kernel))) (λ_ _ _=>jL) (λ_ _ _=>n5))
   (au (wd false 1 aU n5)
   (au (sS 2 nd (pA (af aU ax)))
   (au (qB PassesOwn.never (iy (U 2)) (au (Kf 3 2 nd)
   (aw (eJ rfl PassesOwn.never (cO (fG (U 0) (U 3))) (aO 4 nd) (aw (eF (j9 (iy (fG (U 1) (U 4)))) (au (wd false 1 (U 4) n5)
   (aw (xO false 2 (U 4)))) bL))))))
   (aw (bA (U 1))))))),?_⟩
 obtain ⟨w',rfl,g,h1,cF,q⟩:=h;refine ⟨_,rfl,yo (ρ:= [none]) aZ (λ_=> .bl false) w' _ (λy hy Y h=>h) rfl (small (by omega)) λaF=>?_⟩
 have e0:w'.map (λ_=>D.bl false)=tL (List.replicate w'.length false):=by unfold tL;rw [List.map_replicate,List.map_const']
 rw [e0];refine ⟨trivial,_,rfl,0,0,rfl,by rw [zx,r6];exact wD (k:=0) (by omega),?_⟩
 rw [zy];refine ⟨by show 1≤sizeLine;decide,?_⟩
 refine oY (λm ρ=>∃(bs:List Bool)(ws:List Nat)(o3 o4:Option D),ρ= [some (bJ w'),some (.lst (tL bs)),some (.lst (ws.map aI)),o3,o4]∧RI w' bs ws [] m∧m≤14∧bs.count false+ws.length=m) w'.length ?_ ?_
 ·refine ⟨_,[0],none,none,rfl,⟨by simp,?_,?_,λx hx=>?_,?_⟩,cF,?_⟩
  ·rw [qp,if_pos rfl,if_pos (by rw [r6];omega)]
  ·intro x hx
   have:x=0:=by simpa using hx
   rw [this,qp,if_pos rfl,if_pos (by rw [r6];omega)]
  ·by_cases e:0=x
   ·exact .inl (by rw [←e];simp)
   ·rw [qp,if_neg e,A4] at hx
    split at hx<;>cases hx
  ·rw [List.count_set (by rw [r6];omega),List.count_replicate_self,List.getElem_replicate]
   simp;omega
  ·rw [List.count_set (by rw [r6];omega),List.count_replicate_self,List.getElem_replicate]
   simp;omega
 ·rintro m _ ⟨bs,ws,o3,o4,rfl,ri,hc,S9⟩
  refine ⟨_,rfl,rfl,?_⟩
  rcases List.eq_nil_or_concat ws with rfl| ⟨Qr,p,e⟩
  ·refine dq ?_
   have e:=ri.all g;rw [←e] at q;exact ⟨_,rfl,q⟩
  ·rw [List.concat_eq_append] at e
   subst e;rw [show AN (.lst ((Qr++ [p]).map aI))=true by simp [AN]]
   refine fQ ?_;rw [dX] at S9;simp only [List.length_singleton] at S9;obtain ⟨c',rfl⟩:∃c',m=c'+1:=⟨m-1,by omega⟩
   have ri2:=ri.pop;have hp:bs[p]? =some true:=ri.wt p (by simp)
   have BP:p<w'.length:=by rw [←ri.len];exact (cu.mp hp).1
   refine ⟨Qr.map aI,aI p,by rw [dW];rfl,?_⟩
   refine ⟨_,rfl,_,rfl,_,jI (ve BP),cE (λj ρ=>∃(ph:List Bool)(vZ:List Nat)(o4:Option D),ρ= [some (bJ w'),some (.lst (tL ph)),some (.lst (vZ.map aI)),some (aI p),o4]∧RI w' ph vZ [p] c'∧(∀k y,k<j→(row w' p)[k]? =some y→ph[y]? =some true)∧ph.count false+vZ.length=c') ?_ ?_ ?_⟩
   ·exact ⟨bs,Qr,_,rfl,ri2,(λk n hk=>by omega),by omega⟩
   ·rintro j x _ hx ⟨ph,vZ,o5,rfl,Jh,Dm,NJ⟩ A hA
    obtain ⟨n,hn,rfl⟩:=dA hx;have O1:=g.rng _ _ (di hn);have Kt:n<ph.length:=by rw [Jh.len];exact O1
    have Hn:ph[n]? =some (ph[n]):=cK Kt;refine ⟨_,rfl,_,rfl,_,jI (Ga Hn),rfl,?_⟩;generalize ph[n]=bn at Hn;cases bn with
    |true=>
     refine dq (hA _ ⟨ph,vZ,_,rfl,Jh,λk y hk hy=>?_,NJ⟩)
     by_cases e:k=j
     ·rw [e,hn] at hy;cases hy;exact Hn
     ·exact Dm k y (by omega) hy
    |false=>
     refine fQ ?_;refine ⟨trivial,_,rfl,_,rfl,_,n,rfl,by rw [zx];exact wD Kt,?_⟩
     rw [zy];have LF:=Jh.push Hn;have aac:=LF.cnt;refine ⟨_,rfl,_,rfl,trivial,bq (by rw [aP];omega),?_⟩
     have er:vZ.map aI++ [aI n]=(vZ++ [n]).map aI:=by rw [dW];rfl
     rw [er];refine hA _ ⟨ph.set n true,vZ++ [n],_,rfl,LF,λk y hk hy=>?_,?_⟩
     ·rw [qp]
      by_cases e:n=y
      ·rw [if_pos e,if_pos Kt]
      ·rw [if_neg e]
       refine Dm k y ?_ hy;apply Classical.byContradiction;intro z
       have:k=j:=by omega
       rw [this,hn] at hy;cases hy;exact e rfl
     ·obtain ⟨hl,he⟩:=cu.mp Hn
      have:0<ph.count false:=List.count_pos_iff.mpr (by rw [←he];exact nW hl)
      rw [List.count_set hl,he,dX];simp;omega
   ·rintro _ ⟨ph,vZ,o5,rfl,Jh,Dm,NJ⟩
    have LF:=Jh.close λy hy=>by
     obtain ⟨k,hk⟩:=gz hy;exact Dm k y (by rw [aP];exact (cu.mp hk).1) hk
    exact ⟨c',by omega,ph,vZ,_,_,rfl,LF,by omega,NJ⟩
theorem sI:FnOk P w Z.K mg base cw 2 T.d_apart_fault.f T.d_apart_fault.fd ["rows"] (aX Z ng):=by
 have nd:=kP.nd;refine bM T.d_apart_fault.F kP [0,0,0] (by decide) (λds R h=>by obtain ⟨_,rfl,_⟩:=h;rfl) (λbr A outer s H E ds R hr h=>?_)
 have hu:=hr.units
 refine ⟨_,(au (eJ rfl PassesOwn.never (gP rfl T.B.enumerate (af (bu T.d_reached_from_first (kB T) hr (af (U 0) ax)) ax)) (gL 2 rfl (aY (aO 1 nd) (aY (aO 2 nd) dY))) (aw (eF (j9 (iy (U 2))) (aw (bA (eH (af pq (af aU (af (U 1) ax)))))) bL)))
   (aw (bA gK))),?_⟩
 obtain ⟨w',rfl,g,h1,cF,q⟩:=h;refine ⟨_,rfl,w',rfl,g,h1,cF,cE (λ_ ρ=>∃o1 o2,ρ= [some (bJ w'),o1,o2]) ⟨_,_,rfl⟩ ?_ ?_⟩
 ·rintro j d _ hd ⟨o1,o2,rfl⟩ A hA
  obtain ⟨y,hy,rfl⟩:=kc hd
  have ey:y= .bl true:=by
   obtain ⟨b,hb,rfl⟩:=dA hy
   have:=di hb
   rw [List.mem_replicate] at this;rw [this.2]
  subst ey;refine ⟨rfl,rfl,?_⟩;exact ⟨_,rfl,rfl,dq (hA _ ⟨_,_,rfl⟩)⟩
 ·rintro _ ⟨o1,o2,rfl⟩
  exact q
theorem sL:FnOk P w Z.K mg base cw 3 T.d_first_fault.f T.d_first_fault.fd ["rows"] (aX Z ng):=by
 have nd:=kQ.nd;refine bM T.d_first_fault.F kQ [0,0] (by decide) (λds R h=>by obtain ⟨_,rfl,_⟩:=h;rfl) (λbr A outer s H E ds R hr h=>?_)
 have hu:=hr.units
 refine ⟨_,(au (cP false 1 nd (bu T.d_alien_fault (sH T) hr (af (U 0) ax)))
   (au (eF (dj yC (U 1) gK (bK _)) (aw (cP false 1 nd (bu T.d_self_fault (uH T) hr (af (U 0) ax)))) bL)
   (au (eF (dj yC (U 1) gK (bK _)) (aw (cP false 1 nd (bu T.d_twice_fault (sM T) hr (af (U 0) ax)))) bL)
   (au (eF (dj yC (U 1) gK (bK _)) (aw (cP false 1 nd (bu T.d_lone_fault (uF T) hr (af (U 0) ax)))) bL)
   (au (eF (dj yC (U 1) gK (bK _)) (aw (cP false 1 nd (bu T.d_apart_fault (sI T) hr (af (U 0) ax)))) bL)
   (aw (bA (U 1)))))))),?_⟩
 obtain ⟨w',rfl,g,h1,cF,q⟩:=h;have no:∀(u:dh)(E:fY)(ρ:DN)(te:ba),ρ[1]? =some (some .aL)→E.nx ρ→Mx (xJ (Es (Gj false) (Dh 1) (dC .aL))) u Gn E ρ→True:=λ_ _ _ _ _ _ _=>trivial;refine ⟨_,rfl,w',rfl,g,h1,cF,trivial,?_⟩;refine ⟨_,rfl,_,rfl,fQ ⟨_,rfl,w',rfl,g,h1,cF,trivial,?_⟩⟩;refine ⟨_,rfl,_,rfl,fQ ⟨_,rfl,w',rfl,g,h1,cF,trivial,?_⟩⟩;refine ⟨_,rfl,_,rfl,fQ ⟨_,rfl,w',rfl,g,h1,cF,trivial,?_⟩⟩;refine ⟨_,rfl,_,rfl,fQ ⟨_,rfl,w',rfl,g,h1,cF,trivial,?_⟩⟩;exact ⟨_,rfl,q⟩
def LN:fm:=λds P=>∃(w:W),ds= [.fV w]∧P (.int (w.length:Int))
theorem pS:FnOk P w Z.K mg base cw 1 T.m_many.f T.m_many.fd ["self"] (aX Z LN):=by
 have nd:=p8.nd;refine bM T.m_many.F p8 [0] (by decide) (λds R h=>by obtain ⟨_,rfl,_⟩:=h;rfl) (λbr A outer s H E ds R hr h=>?_)
 have hu:=hr.units;refine ⟨_,(aw (bA (cc ix rfl T.B.len iw (af (tT T.W (U 0)) ax)))),?_⟩;obtain ⟨w',rfl,q⟩:=h;refine ⟨_,rfl,w',rfl,?_⟩;refine (?_:R (.int ((w'.map aZ).length:Int)));rw [aP];exact q
end Bb
namespace L2
open PySem PySem.Spec PyProof.Rows
section
variable {Z:DC} {X:Cx} {md:List Nat} {rn:Nat} {a b e k:Expr} {pos:Pos} {ta tb te tk:ba} {t:jG}
variable {tg iter elt:Expr} {ifs:List Expr} {scope:Scope} {NC:List Str} {src:List (Option Nat)} {wi:il} {g:dJ} {tt:dG}
theorem Oa(hc:X.calm=true)(c:bH X scope)(fP:dm scope X.N src NC)(hi:DI Z X tg iter wi)
  (hg:∀ex s H,DG Z (dO X scope NC ex s H) tg g) (ht:∀ex s H,Ba Z (dO X scope NC ex s H) ifs tt) (he:∀ex s H,DE Z (dO X scope NC ex s H) elt te)
  (hs:∀x,foldedSetIterable iter X.env x=pure x:=by intro _;rfl):DF Z X 1 (.ListComp elt [⟨tg,iter,ifs,0⟩] scope pos) (Oo wi g tt te src):=(Co hc c fP hi hg ht he hs).imp Af
variable {B:Bs} {ρ:DN} {σ:St} {H G:Hp} {fp:Nat→List Addr}
end
section
variable {Z:DC} {X:Cx} {md:List Nat} {rn:Nat} {e:Expr} {pos p2:Pos} {te:ba} {t:jG} {lo hi:Option Expr} {tl th:A9}
def N6(t:jG):dh:=λE ρ=>t ρ λds=>E.rt (.lst ds)
theorem GK(he:DF Z X rn e t):DSt Z X md rn (.Return (some e) pos) (N6 t):=(fh he).imp λD σ H ⟨B,ρ,E,⟨G,fp,S⟩,h,M⟩=>by
 let F:Addr→Prop:=λb=>∃i,b∈fp i
 have s:=S.ex.sub
 have x0:Ext B.G₀ B.H₀ (plus G H F) H:=⟨S.ex.gg.trans (iI s),jW s,S.ex.hh,λb hb hg=>by
  rw [dD (λ⟨i,hi⟩=>hb (S.nw i b hi).1)];exact S.ex.off b hb hg⟩
 refine ⟨plus G H F,ρ,_,jW s,⟨S.len,λi d h=>?_⟩,h,λds hd v f G' H' x o nd nw=>M.rt _ hd v f G' H' (x0.trans x) o nd λb hb=>⟨S.ex.hh.free (nw b hb).1,(nw b hb).2⟩⟩;obtain ⟨v,hv,o⟩:=S.at_ i d h;exact ⟨v,hv,o.dv (iI s) λb hb u e=>by rw [eX ⟨i,hb⟩];exact e⟩
end
section
variable {Z:DC} {X:Cx} {md:List Nat} {rn:Nat} {elt t0 i0 t1 i1:Expr} {f0 f1:List Expr} {scope:Scope} {pos:Pos} {wi gr:il} {g g1:dJ} {tt eO:dG} {te:ba} {src:List (Option Nat)} {NC:List Str}
end
section
variable {Z:DC} {X:Cx}
theorem pX(ns:List Int):∀n,n≤ns.length→preSum (λi=>ns.getD i 0) n=(ns.take n).sum
 |0,_=>by simp [preSum]
 |n+1,h=>by
  have:=pX ns n (by omega)
  rw [preSum,this,JK (by omega),List.sum_append,fW,cK (by omega)]
  simp
theorem Bl(hc:X.calm=true):cT X (.builtin "sum") (λxs H Q=>∃(p:Addr)(ns:List Int),xs= [.ref p]∧H p=some (.lst (ns.map V.int))∧Q (.int ns.sum) H):=by
 intro pins s σ H xs us Q I rv h;obtain ⟨p,ns,rfl,hp,q⟩:=h;obtain ⟨u,rfl,ru⟩:=rv.one;cases ru;obtain ⟨its,r,pl,hz⟩:=I.list (aG.of hp);have hl:=r.length;rw [aP] at hl;refine call_sum_walkG (wpAny_pyIter_list pl.isList ?_)
 have bx:p<s.heap.objs.size:=by
  obtain ⟨o,ho,_⟩:=pl.isList;exact Heap.lt_size ho
 have jw:p≠s.heap.objs.size:=cm bx;refine ⟨_,_,_,its.toArray.size,_,_,λi=>ns.getD i 0,rfl,Walks.list (show X.A.in1.handled=none from I.ok.hd hc) s.heap.objs.size p jw its.toArray,⟨⟨_,Heap.get?_push_size _ rfl,rfl,rfl⟩,pl.isList.push _⟩,?_,?_,λh' tk t' kk=>?_⟩
 ·intro b hb
  show b<(s.heap.push _).objs.size;rw [size_push'];simp only [bE,List.not_mem_nil,or_false] at hb
  rcases hb with rfl|rfl
  ·exact Nat.lt_succ_self _
  ·exact Nat.lt_succ_of_lt bx
 ·intro i v hv
  have ud:its[i]? =some v:=by simpa using hv
  have hi:i<its.length:=(cu.mp ud).1;obtain ⟨w,hw,oQ⟩:=r.get (i:=i) (x:= .int (ns.getD i 0)) (by rw [ck,fW,cK (by omega)];rfl)
  rw [hw] at ud;cases ud;exact oQ
 ·have kept:∀b o,s.heap.get? b=some o→h'.get? b=some o:=λb o e=>kk b o (by simp;exact cm (Heap.lt_size e)) (Heap.get?_push_of_some _ e)
  have e:preSum (λi=>ns.getD i 0) its.toArray.size=ns.sum:=by
   rw [bO,←hl,pX ns _ (aV _),nV (aV _)]
  rw [e];exact ⟨.int _,H,I.kept kept,⟨_,rfl⟩,q⟩
def QY:fm:=λds P=>∃ns:List Int,ds= [.lst (ns.map D.int)]∧P (.int ns.sum)
theorem JY(hc:X.calm=true):cT X (.builtin "sum") (lO Z QY):=by
 refine (Bl hc).imp ?_;rintro xs H Q ⟨G,ds,P,s,dv,⟨ns,rfl,hp⟩,q⟩;cases dv with
 |cons a as=>
  cases as;cases a with
  |lst h e=>exact ⟨_,ns,rfl,by rw [←tW e];exact s _ _ h,q _ hp _ G H (.refl s) (.int _)⟩
theorem JW:bootBuiltins "sum"=some (.builtin "sum"):=by decide+kernel
end
theorem eS.ok{P:Program}{w:World}{H:Hp}{h:Heap}{a:Addr}{b:Bool}{es:List (Int×Addr)}(x:eS b a es h):cM P w H h a (.ext (eS b a es)):=by
 refine ⟨x,let ⟨o,_,_,_,ho,_⟩:=x;⟨o,ho⟩,λh1 h2 p k=>?_⟩;obtain ⟨o,eA,ep,t,ho,r⟩:=p;exact ⟨o,eA,ep,t,k o ho,r⟩
theorem gE.mem{H:Hp}:∀{es:List (Int×Addr)}{ps:List (Int×Int)},gE H es ps→∀e∈es,∃p∈ps,e.1=bQ p∧H e.2=some (.tup [.int p.1, .int p.2])
 |_,_, .nil,e,he=>nomatch he
 |_,_, .cons (p:=p) h t,e,he=>by
  rcases bE.mp he with rfl|he
  ·exact ⟨p,b8 ..,rfl,h⟩
  ·obtain ⟨q,h1,h2⟩:=t.mem e he
   exact ⟨q,cn _ h1,h2⟩
theorem gE.MW{H:Hp}:∀{es:List (Int×Addr)}{ps:List (Int×Int)},gE H es ps→∀p∈ps,∃a,(bQ p,a)∈es∧H a=some (.tup [.int p.1, .int p.2])
 |_,_, .nil,p,hp=>nomatch hp
 |_,_, .cons (a:=a) h t,p,hp=>by
  rcases bE.mp hp with rfl|hp
  ·exact ⟨a,b8 ..,h⟩
  ·obtain ⟨a',h1,h2⟩:=t.MW p hp
   exact ⟨a',cn _ h1,h2⟩
theorem gE.len{H:Hp}:∀{es:List (Int×Addr)}{ps:List (Int×Int)},gE H es ps→es.length=ps.length
 |_,_, .nil=>rfl
 |_,_, .cons _ t=>congrArg (·+1) t.len
theorem gE.snoc{H:Hp}{a:Addr}{p:Int×Int}(h:H a=some (.tup [.int p.1, .int p.2])):∀{es:List (Int×Addr)}{ps:List (Int×Int)},gE H es ps→gE H (es++ [(bQ p,a)]) (ps++ [p])
 |_,_, .nil=> .cons h .nil
 |_,_, .cons h' t=> .cons h' (gE.snoc h t)
section
variable {X:Cx} {pins:List (Addr×Obj)} {σ:St} {H:Hp} {s:Shared}
theorem Inv.rK{a:Addr}{p:Int×Int}(I:Inv X pins σ H s)(h:H a=some (.tup [.int p.1, .int p.2])):IsTupleKey (intKind X.prog X.w) s.heap [p.1,p.2] a:=by
 obtain ⟨its,r,⟨o,ho,hc,n,hd⟩,_⟩:=I.tuple (cJ.of h);obtain ⟨u1,u2,rfl,⟨t,rfl⟩,⟨u,rfl⟩⟩:=Vals.two r;exact ⟨o,_,n,ho,hc,hd, .cons (by simp [intKind,Value.isInt]) (.cons (by simp [intKind,Value.isInt]) .nil)⟩
theorem Inv.nO{a:Addr}{b:Bool}{es:List (Int×Addr)}(I:Inv X pins σ H s)(h:H a=some (.ext (eS b a es))):eS b a es s.heap:=(I.hok a _ h).1
theorem kC(P:Program)(w:World)(p:Int×Int):tupleKeyHash (intKind P w) [p.1,p.2]=bQ p:=rfl
theorem Inv.VD{es:List (Int×Addr)}{ps:List (Int×Int)}{eA:Array (Int×Value)}(I:Inv X pins σ H s)(pe:gE H es ps)(pm:eA.toList.Perm (es.map λe=>(e.1,Value.ref e.2))):F0 X.prog X.w s.heap eA:=λi e he=>by
 have hm:e∈eA.toList:=by rw [←e7] at he;exact di he
 obtain ⟨e',t6,rfl⟩:=bS.mp (pm.mem_iff.mp hm);obtain ⟨p,_,h1,h2⟩:=pe.mem e' t6;exact ⟨[p.1,p.2],e'.2,by rw [kC,h1],I.rK h2⟩
theorem Inv.lG{es:List (Int×Addr)}{ps:List (Int×Int)}{eA:Array (Int×Value)}(I:Inv X pins σ H s)(pe:gE H es ps)(pm:eA.toList.Perm (es.map λe=>(e.1,Value.ref e.2)))(p:Int×Int):
  (∃(i:Nat)(c:Addr),eA[i]? =some (tupleKeyHash (intKind X.prog X.w) [p.1,p.2], .ref c)∧IsTupleKey (intKind X.prog X.w) s.heap [p.1,p.2] c)↔p∈ps:=by
 constructor
 ·rintro ⟨i,c,h1,h2⟩
  have hm:(tupleKeyHash (intKind X.prog X.w) [p.1,p.2],Value.ref c)∈eA.toList:=by rw [←e7] at h1;exact di h1
  obtain ⟨e',t6,e1⟩:=bS.mp (pm.mem_iff.mp hm);obtain ⟨q,hq,h3,h4⟩:=pe.mem e' t6
  have:e'.2=c:=by have:=(Prod.mk.inj e1).2;injection this
  rw [this] at h4
  have:=(I.rK h4).inj h2
  simp at this
  have:q=p:=Prod.ext this.1 this.2
  rw [←this];exact hq
 ·intro hp
  obtain ⟨a,h1,h2⟩:=pe.MW p hp;have hm:(bQ p,Value.ref a)∈eA.toList:=pm.mem_iff.mpr (bS.mpr ⟨_,h1,rfl⟩);obtain ⟨i,hi⟩:=List.mem_iff_getElem?.mp hm;rw [e7] at hi;exact ⟨i,a,by rw [kC];exact hi,I.rK h2⟩
theorem Ft{p pos:Pos}(hg:Gl X "set")(hm:X.mg "set"=none):PE X (.Call (.Name "set" p) [] [] pos) (λσ H Q=>∀q,H q=none→Q (.ref q) (upd H q (.ext (eS (fF X.w) q [])))):=by
 intro pins s σ H Q I h;refine wpAny_Call_Name_kw (kn I hg hm (u:= .type "set") (by decide+kernel) ?_ (by decide) (by decide))
 refine PyProof.Rows.callWith_type rfl (PyProof.Rows.evalArgs_nil3 (xG ?_));have hn:=I.hok.fresh (aV _);exact ⟨.ref s.heap.objs.size,_,I.laid (t':=s.toks) (λb o e=>Heap.get?_push_of_some _ e) (aV _) (o:= .ext (eS (fF X.w) s.heap.objs.size [])) (eS.ok ⟨_,_,_,_,Heap.get?_push_size _ rfl,kL.new X.w, .refl _⟩),rfl,h _ hn⟩
theorem Ub{a c:Addr}{es:List (Int×Addr)}{ps:List (Int×Int)}{p:Int×Int}{Q:Bool→Shared→Prop}{E:Value→Shared→Prop}(hu:X.A.units+64<cLine)(I:Inv X pins σ H s)(hc:H c=some (.tup [.int p.1, .int p.2]))(ha:H a=some (.ext (eS (fF X.w) a es)))(pe:gE H es ps)
  (h:∀tk,Q (decide (p∈ps)) {s with toks:=tk}):wpAny (model X.prog X.w) X.A (contains (.ref a) (.ref c)) Q E s:=by
 obtain ⟨o,eA,ep,t,ho,S,pm⟩:=I.nO ha;refine qj hu ho S (I.VD pe pm) (I.rK hc) λtk=>?_
 have:PySem.lG X.prog X.w s.heap eA [p.1,p.2]=decide (p∈ps):=by
  classical
  unfold PySem.lG;exact decide_eq_decide.mpr (I.lG pe pm p)
 rw [this];exact h tk
theorem Cm(hu:X.A.units+64<cLine):OpR X (compareOp .NotIn) (λx y H Q=>∃c a es ps p,x= .ref c∧y= .ref a∧H c=some (.tup [.int p.1, .int p.2])∧H a=some (.ext (eS (fF X.w) a es))∧gE H es ps∧Q (.bl (!decide (p∈ps))) H):=by
 intro pins s σ H x y v u Q I rx ry h;obtain ⟨c,a,es,ps,p,rfl,rfl,hc,ha,pe,q⟩:=h;cases rx;cases ry;show wpAny _ _ (do return Value.bool (!(←contains (.ref a) (.ref c))):Sem Value) _ _ s
 exact wpAny_bind (Ub hu I hc ha pe λtk=>wpAny_pure ⟨.bl _,H,I.tok _,rfl,q⟩)
theorem Ig(hu:X.A.units+64<cLine):JQ X "set.add" (λx vs H Q=>∃l c es ps p,x= .ref l∧vs= [.ref c]∧H c=some (.tup [.int p.1, .int p.2])∧H l=some (.ext (eS (fF X.w) l es))∧gE H es ps∧ps.length≤300∧
  (p∈ps→Q .aL H)∧(p∉ps→Q .aL (upd H l (.ext (eS (fF X.w) l (es++ [(bQ p,c)])))))):=by
 intro pins s σ H x vs v us Q I rx rv h;obtain ⟨l,c,es,ps,p,rfl,rfl,hc,hl,pe,hz,q1,q2⟩:=h;cases rx;obtain ⟨u,rfl,ru⟩:=rv.one;cases ru;obtain ⟨o,eA,ep,t,ho,S,pm⟩:=I.nO hl;have hT:s.TypeIs (.ref l) "set":=⟨o,ho,S.ex.1⟩;refine wpAny_call_entry F.slot_set_add hT F.entry_set_add ?_ (F.args_set_add_2 _ _);unfold Builtin.«set.add» Builtin.Frozenset.oneOther;simp only [List.isEmpty_nil,bind_assoc];unfold Builtin.Frozenset.addrOf setAdd;refine wpAny_bind (wpAny_pure ?_)
 try dsimp only
 refine wpAny_bind (wpAny_pure ?_)
 try dsimp only
 refine wpAny_bind ?_;refine wpAny_holding ?_;have hk:=I.rK hc;refine wpAny_bind (wpAny_pyHash_tuple ?_ hk ?_)
 ·show X.A.units+1<cLine;omega
 have sz:eA.size=ps.length:=by
  have:=pm.length_eq
  rw [cg,aP,pe.len] at this;exact this
 refine y3 (s:={s with toks:=s.toks+([p.1,p.2].length+1)}) (by show X.A.units+1<cLine;omega) ho S (I.VD pe pm) hk (by omega) (λhy=>?_) λhn h' o' ke xQ t' sb jx S' PZ=>?_
 ·show wpAny _ _ (ret Value.none) _ _ _
  exact wpAny_pure ⟨_,rfl, .aL,H,I.tok _,rfl,q1 ((I.lG pe pm p).mp hy)⟩
 ·show wpAny _ _ (ret Value.none) _ _ _
  have Tz:p∉ps:=λz=>by
   obtain ⟨i,c',h1,h2⟩:=(I.lG pe pm p).mpr z;exact hn i _ h1 c' rfl h2
  have I':=I.write (h':=h') (t':=s.toks+([p.1,p.2].length+1)) (x:=l) (e:=l) (o:= .ext (eS (fF X.w) l (es++ [(bQ p,c)]))) (by rw [hl];trivial) (.inl rfl) (λb u hb e=>sb.extBut b u hb e) ⟨o',jx⟩ (eS.ok ⟨o',ke,xQ,t',jx,S',by
   rw [dW];exact PZ.trans (pm.append_right _)⟩)
  exact wpAny_pure ⟨_,rfl, .aL,_,I',rfl,q2 Tz⟩
def WB(b:Bool)(r:V→List V→Hp→VK→Prop)(to:TE)(t:TA):TE:=λσ H Q=>to σ H λx H1=>(∃p es,x= .ref p∧H1 p=some (.ext (eS b p es)))∧t σ H1 λxs H2=>r x xs H2 Q
variable {o e:Expr} {es:List Expr} {to:TE} {t:TA} {name:Str} {apos aN:Pos} {id:String} {r:V→List V→Hp→VK→Prop}
theorem Lk{b:Bool}(pa:PlainAttrs "set")(slot:Slot "set" name id)(HG:typeOf (.builtin id)=pure (.type "method_descriptor"))(hm:JQ X id r)(ho:PE X o to)(ha:PA X (e::es) t)
  (dM:attributeBase o name X.env (eval o X.env)=eval o X.env:=by rfl)
  (jN:((backTo aN (starEach (e::es) X.env)).all (λx=>!x.1)&&(backToKw aN (keywordEach [] X.env)).all (λx=>x.1.isSome)
   &&decide ((e::es).length+([]:List Keyword).length+(if ([]:List Keyword).isEmpty then 0 else 1)<30))=true:=by rfl)
  (cG:(apos.endLine==aN.line)=true:=by rfl) (hs:starEach (e::es) X.env=(false,eval e X.env)::starEach es X.env:=by rfl) (fe:(backTo aN (starEach es X.env)).any (·.1)=false:=by rfl):
  PE X (.Call (.Attribute o name apos) (e::es) [] aN) (WB b r to t):=by
 intro pins s σ H Q I h;refine wpAny_Call_method_late dM jN cG rfl (thn (ho pins s σ H _ I h) λv s1 ⟨x,H1,I1,r1,ty,q1⟩=>?_);obtain ⟨p,ke,rfl,hp⟩:=ty;cases r1;obtain ⟨oo,_,_,_,TQ,S,_⟩:=I1.nO hp;refine ⟨"set",id,pa,slot,HG,⟨oo,TQ,S.ex.1⟩,λa ea=>?_,?_⟩
 ·cases ea;exact ⟨oo,TQ,S.ex.2.1⟩
 have hA:=ha aN pins s1 σ H1 _ I1 q1;rw [hs] at hA ⊢;refine Calls.callWith_builtin (by show (false|| (backTo aN (starEach es X.env)).any (·.1))=false;rw [fe]<;>rfl) (Calls.evalArgs_plain ?_)
 exact thn hA λus s2 ⟨vs,H2,I2,r2,q2⟩=>hm pins s2 σ H2 (.ref p) vs (.ref p) us Q I2 rfl r2 q2
end
def z4(ps:List (Int×Int))(p:Int×Int):List (Int×Int):=if p∈ps then ps else ps++ [p]
section
variable {Z:DC} {X:Cx} {B:Bs} {md:List Nat} {rn:Nat} {ρ:DN} {σ:St} {H G:Hp} {fp:Nat→List Addr} {a e k o:Expr} {ta te tk tp:ba} {pos apos aN p2:Pos}
def IU(p:Int×Int):D:= .tup [.int p.1, .int p.2]
theorem Dv.DM{v:V}{p:Int×Int}(h:Dv Z G v (IU p)):∃c,v= .ref c∧G c=some (.tup [.int p.1, .int p.2]):=by
 obtain ⟨c,xs,rfl,h1,h2⟩:=Dv.uC h;obtain ⟨v1,v2,rfl,d1,d2⟩:=h2.yI;rw [d1.ofInt,d2.ofInt] at h1;exact ⟨c,rfl,h1⟩
def RD(w:World)(neg:Bool):gY:=λa b P=>∃p ps,a=IU p∧b= .x (.pY (fF w) ps)∧P (.bl (if neg=true then !decide (p∈ps) else decide (p∈ps)))
theorem Cc(hu:X.A.units+64<cLine):OpR X (compareOp .NotIn) (bX Z (RD X.w true)):=by
 refine (Cm hu).imp ?_;rintro x y H Q ⟨G,a,b,P,s,da,db,⟨p,ps,rfl,rfl,h⟩,q⟩;obtain ⟨c,rfl,hc⟩:=da.DM;cases db with
 |x hp ok=>
  obtain ⟨_,es,rfl,pe⟩:=ok;exact ⟨c,_,es,ps,p,rfl,rfl,s _ _ hc,s _ _ hp,pe.mono s,q _ h _ G H (.refl s) (.bl _)⟩
def J6(w:World)(i:Nat):dh:=λE ρ=>E.nx (ρ.set i (some (.x (.pY (fF w) []))))
theorem EB(i:Nat){x:Str}{pos' p:Pos}(hN:X.N.Nodup)(hg:Gl X "set")(t9:X.mg "set"=none)(hm:md.getD i 0=98:=by rfl)(hi:X.N[i]? =some x:=by rfl)(hx:Loc X.env.scope x:=by first|exact Or.inl rfl|exact Or.inr rfl)(hs:swapsWith (.Call (.Name "set" p) [] [] p2) (some (.Name x pos')) pos.line X.env=pure false:=by rfl)
  (hf:X.fn x=true∨X.env.scope.names.lookup x=some .local:=by first|exact .inl rfl|exact .inr rfl|assumption):DSt Z X md rn (.Assign [.Name x pos'] (.Call (.Name "set" p) [] [] p2) pos) (J6 X.w i):=by
 refine (bC hN hi hx (Ft hg t9) hs hf).imp ?_;rintro D σ H ⟨B,ρ,E,⟨G,fp,S⟩,h,M⟩;intro c hc;have gc:G c=none:=S.ex.sub.free hc;have x:Ext G H G (upd H c (.ext (eS (fF X.w) c []))):=⟨.refl _,S.ex.sub.trans (ay hc _),ay hc _,λ_ _ z=>z⟩;refine M.nx _ h _ _ ⟨G,_,(S.grow x).Jo hm (f:= [c]) (.inr (.inr ⟨c,_,rfl,aa,rfl, .inr ⟨rfl,_,rfl,ju,[],rfl, .nil⟩⟩)) (by simp) (λb hb=>?_) λb hb j _ hj=>?_⟩
 ·rw [bN] at hb;subst hb
  exact ⟨S.ex.hh.free hc,(by rw [aa];exact λz=>nomatch z),gc⟩
 ·rw [bN] at hb;subst hb
  exact (S.nw j _ hj).2.1 hc
def NY(w:World)(md:List Nat)(m:Bool)(i:Nat)(te:ba):dh:=λE ρ=>∃ps,ρ[i]? =some (some (.x (.pY (fF w) ps)))∧te (CU md m ρ) λd=>∃p,d=IU p∧ps.length≤300∧E.nx (ρ.set i (some (.x (.pY (fF w) (z4 ps p)))))
theorem GG(m:Bool)(i:Nat){x:Str}{px:Pos}(hu:X.A.units+64<cLine)(he:DE Z X e te)(hm:md.getD i 0=98:=by rfl)(hi:X.N[i]? =some x:=by rfl)(hv:qw X.env.scope x:=by first|exact Or.inl rfl|exact Or.inr (Or.inl rfl) |exact Or.inr (Or.inr rfl))(hd:(x==("__debug__":Str))=false:=by decide)(fH:(x==("__classdict__":Str))=false:=by decide)
  (dM:attributeBase (.Name x px) "add" X.env (eval (.Name x px) X.env)=eval (.Name x px) X.env:=by rfl)
  (jN:((backTo aN (starEach [e] X.env)).all (λx=>!x.1)&&(backToKw aN (keywordEach [] X.env)).all (λx=>x.1.isSome)&&decide (([e]:List Expr).length+([]:List Keyword).length+(if ([]:List Keyword).isEmpty then 0 else 1)<30))=true:=by rfl)
  (cG:(apos.endLine==aN.line)=true:=by rfl) (hs:starEach [e] X.env=(false,eval e X.env)::starEach [] X.env:=by rfl) (fe:(backTo aN (starEach [] X.env)).any (·.1)=false:=by rfl)
  (ot:swapsWith (.Call (.Attribute (.Name x px) "add" apos) [e] [] aN) none pos.line X.env=pure false:=by rfl):
  DSt Z X md rn (.Expr (.Call (.Attribute (.Name x px) "add" apos) [e] [] aN) pos) (NY X.w md m i te):=by
 refine (cR (Lk (b:=fF X.w) PySem.F.plainAttrs_set PySem.F.slot_set_add PySem.F.type_set_add (Ig hu) (pv i hi hv hd fH) (ae he ar hs) dM jN cG hs fe) ot).imp ?_;rintro D σ H ⟨B,ρ,E,⟨G,fp,S⟩,⟨ps,h1,h⟩,M⟩;obtain ⟨v0,i9,o0⟩:=S.at_ i _ h1;rw [hm] at o0;obtain ⟨l,φ,rfl,hl,_,nd,es,rfl,pe⟩:=o0.xA;refine ⟨_,i9,⟨l,_,rfl,hl⟩,S.ev m h λd hd=>?_⟩;obtain ⟨p,rfl,hz,hn⟩:=hd;refine ⟨by cases m<;>trivial,λv G' H' S' x dv=>?_⟩
 obtain ⟨c,rfl,hc⟩:=dv.DM;obtain ⟨v1,HH,o1⟩:=S'.at_ i _ h1;rw [i9] at HH;cases HH;rw [hm] at o1;obtain ⟨l',φ',e',BL,Hs,kz,ke,rfl,IH⟩:=o1.xA;cases e';refine ⟨l,c,ke,ps,p,rfl,rfl,x.sub _ _ hc,BL,IH.mono x.sub,hz,λhp=>?_,λhp=>?_⟩
 ·rw [z4,if_pos hp] at hn
  refine M.nx _ hn _ _ ⟨G',fp,?_⟩
  have e:ρ.set i (some (.x (.pY (fF X.w) ps)))=ρ:=by
   refine vA λj=>?_
   by_cases z:i=j
   ·subst z
    have bx:=(cu.mp h1).1;rw [mH bx,h1]
   ·rw [r8 z]
  rw [e];exact S'
 ·rw [z4,if_neg hp] at hn
  refine M.nx _ hn _ _ ⟨G',fp,S'.mut i9 (b:=l) (by rw [Hs];simp) ?_⟩
  rw [hm,Hs];refine .inr (.inr ⟨l,_,rfl,aa,rfl, .inr ⟨rfl,_,rfl,?_,_,rfl,IH.snoc hc⟩⟩);rw [b7];refine ⟨kz,by simp,λa ha b hb z=>hp ?_⟩
  rw [bN] at hb;rw [←hb,←z];exact ha
end
section
variable {Z:DC} {X:Cx} {md:List Nat} {rn:Nat} {a b:Expr} {pos:Pos} {ta:jv}
def RJ(md:List Nat)(i j:Nat)(ta:jv):dh:=λE ρ=>ta (cN md ρ) λds=>∃a b,ds= [a,b]∧E.nx ((ρ.set i (some a)).set j (some b))
theorem Dr(i j:Nat){x y:Str}{px py pt:Pos}{kt k2 Cv}(hc:X.calm=true)(hN:X.N.Nodup)(ha:DA Z X [a,b] ta)(hi:X.N[i]? =some x:=by rfl)(hj:X.N[j]? =some y:=by rfl)(cV:i≠j:=by decide)(hm:md.getD i 0=0:=by rfl)(E3:md.getD j 0=0:=by rfl)
  (hx:X.env.scope.names.lookup x=some .local:=by rfl) (hy:X.env.scope.names.lookup y=some .local:=by rfl)
  (hw:swappedStores [.Tuple [.Name x px, .Name y py] kt pt] (.Tuple [a,b] k2 Cv) X.env=pure (some [x,y]):=by rfl)
  (hs:swapsWithSole [.Tuple [.Name x px, .Name y py] kt pt] (.Tuple [a,b] k2 Cv) pos.line X.env=pure false:=by rfl):
  DSt Z X md rn (.Assign [.Tuple [.Name x px, .Name y py] kt pt] (.Tuple [a,b] k2 Cv) pos) (RJ md i j ta):=by
 refine (Ly hc hN hi hj cV hx hy ha hw hs).imp ?_;rintro D σ H ⟨B,ρ,E,⟨G,fp,S⟩,h,M⟩;refine ⟨G,cN md ρ,_,S.ex.sub,S.zO,h,?_⟩;rintro _ ⟨a,b,rfl,hn⟩ vs G' H' x bB;obtain ⟨v,u,rfl,d1,d2⟩:=bB.yI;exact ⟨v,u,rfl,M.nx _ hn _ _ ⟨G',_,((S.grow x).nO hm d1).nO E3 d2⟩⟩
end
theorem fZ.ok{P:Program}{w:World}{H:Hp}{h:Heap}{a:Addr}{es:List (Int×Addr)}{vs:List FV}(x:fZ a es vs h):cM P w H h a (.ext (fZ a es vs)):=by
 refine ⟨x,let ⟨_,o,_,_,ho,_⟩:=x;⟨o,ho⟩,λh1 h2 p k=>?_⟩;obtain ⟨z,o,eA,ep,ho,r⟩:=p;exact ⟨z,o,eA,ep,k o ho,r⟩
inductive lh (H:Hp):List (Int×Addr)→List (Int×Int)→List FV→List (List Int×Addr×Value)→Prop
 |nil:lh H [] [] [] []
 |cons {a:Addr} {p:Int×Int} {v:FV} {u:Value} {es:List (Int×Addr)} {ks:List (Int×Int)} {vs:List FV} {xs:List (List Int×Addr×Value)}:H a=some (.tup [.int p.1, .int p.2])→JO v u→lh H es ks vs xs→lh H ((bQ p,a)::es) (p::ks) (v::vs) (([p.1,p.2],a,u)::xs)
theorem lh.keys{H:Hp}:∀{es:List (Int×Addr)}{ks:List (Int×Int)}{vs:List FV}{xs:List (List Int×Addr×Value)},lh H es ks vs xs→xs.map (·.1)=ks.map λp=> [p.1,p.2]
 |_,_,_,_, .nil=>rfl
 |_,_,_,_, .cons _ _ t=>by rw [fD,fD,t.keys]
theorem lh.len{H:Hp}:∀{es:List (Int×Addr)}{ks:List (Int×Int)}{vs:List FV}{xs:List (List Int×Addr×Value)},lh H es ks vs xs→xs.length=ks.length
 |_,_,_,_, .nil=>rfl
 |_,_,_,_, .cons _ _ t=>congrArg (·+1) t.len
theorem lh.snoc{H:Hp}{a:Addr}{p:Int×Int}{v:FV}{u:Value}(h0:H a=some (.tup [.int p.1, .int p.2]))(h:JO v u):∀{es:List (Int×Addr)}{ks:List (Int×Int)}{vs:List FV}{xs:List (List Int×Addr×Value)},lh H es ks vs xs→lh H (es++ [(bQ p,a)]) (ks++ [p]) (vs++ [v]) (xs++ [([p.1,p.2],a,u)])
 |_,_,_,_, .nil=> .cons h0 h .nil
 |_,_,_,_, .cons k' h' t=> .cons k' h' (lh.snoc h0 h t)
theorem rq(P:Program)(w:World)(p:Int×Int)(a:Addr)(u:Value):entryOfKey (tupleKind (intKind P w)) ([p.1,p.2],a,u)=⟨bQ p, .ref a,u⟩:=by
 unfold entryOfKey;rw [show (tupleKind (intKind P w)).hash [p.1,p.2]=bQ p from kC P w p]
theorem Og{H:Hp}{l:List DictEntry}{es:List (Int×Addr)}{vs:List FV}(d:Ef l es vs):∀{ks:List (Int×Int)},gE H es ks→∃xs,lh H es ks vs xs∧∀(P:Program)(w:World),l=xs.map (entryOfKey (tupleKind (intKind P w))):=by
 induction d with
 |nil=>intro ks pe;cases pe;exact ⟨[], .nil,λ_ _=>rfl⟩
 | @cons e l h a v es vs h1 h2 h3 d ih=>
  intro ks pe;cases pe with
  | @cons _ p _ ps h t=>
   obtain ⟨xs,x1,x2⟩:=ih t;refine ⟨([p.1,p.2],a,e.val)::xs, .cons h h3 x1,λP w=>?_⟩;rw [fD,←x2 P w,rq];obtain ⟨eh,ek,ev⟩:=e;simp only at h1 h2 ⊢;rw [h1,h2]
theorem Om{P:Program}{w:World}{es:List (Int×Addr)}{ks:List (Int×Int)}{vs:List FV}{xs:List (List Int×Addr×Value)}{H:Hp}(d:lh H es ks vs xs):Ef (xs.map (entryOfKey (tupleKind (intKind P w)))) es vs:=by
 induction d with
 |nil=>exact .nil
 |cons _ h t ih=>
  rw [fD,rq];exact .cons rfl rfl h ih
theorem lh.isKey{H:Hp}{X:Cx}{pins:List (Addr×Obj)}{σ:St}{s:Shared}(I:Inv X pins σ H s){es:List (Int×Addr)}{ks:List (Int×Int)}{vs:List FV}{xs:List (List Int×Addr×Value)}(d:lh H es ks vs xs):∀x∈xs,IsTupleKey (intKind X.prog X.w) s.heap x.1 x.2.1:=by
 induction d with
 |nil=>intro x hx;cases hx
 |cons h _ _ ih=>
  intro x hx
  rcases bE.mp hx with rfl|hx
  ·exact I.rK h
  ·exact ih x hx
theorem lA{K:Type} [DecidableEq K] {xs:List (K×Addr×Value)} {k:K}:(atKey xs k).isSome=true↔k∈xs.map (·.1):=by
 unfold atKey;rw [Option.isSome_map,List.find?_isSome,bS]
 constructor
 ·rintro ⟨x,hx,e⟩;exact ⟨x,hx,of_decide_eq_true e⟩
 ·rintro ⟨x,hx,e⟩;exact ⟨x,hx,decide_eq_true e⟩
theorem qP{p:Int×Int}{ks:List (Int×Int)}: [p.1,p.2]∈ks.map (λp=> [p.1,p.2])↔p∈ks:=by
 rw [bS]
 constructor
 ·rintro ⟨q,hq,e⟩
  simp at e;rw [←show q=p from Prod.ext e.1 e.2];exact hq
 ·intro h;exact ⟨p,h,rfl⟩
theorem Ar{ks:List (Int×Int)}(h:ks.Nodup):(ks.map λp=> [p.1,p.2]).Nodup:=by
 rw [rY,iZ];rw [rY] at h;exact h.imp λ {a b} n e=>n (by simp at e;exact Prod.ext e.1 e.2)
section
variable {X:Cx} {pins:List (Addr×Obj)} {σ:St} {H:Hp} {s:Shared}
theorem Inv.Si{a:Addr}{es:List (Int×Addr)}{ks:List (Int×Int)}{vs:List FV}(I:Inv X pins σ H s)(h:H a=some (.ext (fZ a es vs)))(pe:gE H es ks)(nd:ks.Nodup):
  (a==sysModules)=false∧∃xs,lh H es ks vs xs∧s.heap.DictOfH (tupleKind (intKind X.prog X.w)) a xs:=by
 obtain ⟨z,o,eA,ep,ho,hx,hd,de⟩:=(I.hok a _ h).1;obtain ⟨xs,x1,x2⟩:=Og de pe;exact ⟨z,xs,x1,o,eA,ep,ho,hx,hd,x2 _ _,x1.isKey I,by rw [x1.keys];exact Ar nd⟩
theorem IJ{pos:Pos}:PE X (.Dict [] [] pos) (λσ H Q=>∀q,H q=none→Q (.ref q) (upd H q (.ext (fZ q [] [])))):=by
 intro pins s σ H Q I h;have hn:=I.hok.fresh (aV s.heap.objs.size);refine wpAny_Dict_empty ⟨.ref s.heap.objs.size,_,I.laid (a:=s.heap.objs.size) (t':=s.toks) (λ_ _ q=>Heap.get?_push_of_some _ q) (aV _) (o:= .ext (fZ s.heap.objs.size [] [])) (fZ.ok ⟨?_,_, #[],0,Heap.get?_push_size _ rfl,⟨rfl,rfl,rfl⟩,rfl, .nil⟩),rfl,h _ hn⟩;have hg:mainGlobals<s.heap.objs.size:=(I.mod.glob.keeps I.bk).lt;have hs:sysModules<s.heap.objs.size:=Nat.lt_trans (by decide) hg
 exact beq_eq_false_iff_ne.mpr (Ne.symm (cm hs))
theorem Ap(hu:X.A.units+64<cLine):OpR X (compareOp .NotIn) (λx y H Q=>∃c a es ks vs p,x= .ref c∧y= .ref a∧H c=some (.tup [.int p.1, .int p.2])∧H a=some (.ext (fZ a es vs))∧gE H es ks∧ks.Nodup∧Q (.bl (!decide (p∈ks))) H):=by
 intro pins s σ H x y v u Q I rx ry h;obtain ⟨c,a,es,ks,vs,p,rfl,rfl,hc,ha,pe,nd,q⟩:=h;cases rx;cases ry;obtain ⟨z,xs,x1,hm⟩:=I.Si ha pe nd
 have:(atKey xs [p.1,p.2]).isSome=decide (p∈ks):=by
  by_cases e:p∈ks
  ·rw [decide_eq_true e];exact lA.mpr (by rw [x1.keys];exact qP.mpr e)
  ·rw [decide_eq_false e]
   apply A8.mpr;exact λz=>e (qP.mp (by rw [←x1.keys];exact lA.mp z))
 exact PyProof.Rows.wpAny_notIn_heap (knd:=tupleKind (intKind X.prog X.w)) (k:= [p.1,p.2]) (by show X.A.units+1<cLine;omega) (I.rK hc) z hm (by rw [this];exact ⟨.bl _,H,I.tok _,rfl,q⟩)
def vF:FV→V
 | .int i=> .int i
 | .bl b=> .bl b
theorem Kl{f:FV}{u:Value}(h:RelV (vF f) u):JO f u:=by
 cases f with
 |int i=>exact h
 |bl b=>exact h
variable {o i value:Expr} {td ti tv:TE} {pos pos':Pos}
def Qn(td ti tv:TE):TS:=λD σ H=>tv σ H λv H1=>td σ H1 λx H2=>ti σ H2 λy H3=>∃a c es ks vs p fv,x= .ref a∧y= .ref c∧v=vF fv∧H3 a=some (.ext (fZ a es vs))∧H3 c=some (.tup [.int p.1, .int p.2])∧gE H3 es ks∧ks.Nodup∧p∉ks∧ks.length≤300∧D.nx σ (upd H3 a (.ext (fZ a (es++ [(bQ p,c)]) (vs++ [fv]))))
theorem IW(hu:X.A.units+64<cLine)(ho:PE X o td)(hi:PE X i ti)(hv:PE X value tv)(hs:swapsWith value (some (.Subscript o i pos')) pos.line X.env=pure false:=by rfl):PS X (.Assign [.Subscript o i pos'] value pos) (Qn td ti tv):=by
 intro pins s σ H D I h;refine wpAny_Assign_Subscript (thn (hv pins s σ H _ I h) λr s1 ⟨v,H1,I1,rv,q1⟩=>thn (ho pins s1 σ H1 _ I1 q1) λu s2 ⟨x,H2,I2,rx,q2⟩=>thn (hi pins s2 σ H2 _ I2 q2) λiv s3 ⟨y,H3,I3,ry,a,c,es,ks,vs,p,fv,e1,e2,e3,ha,hc,pe,nd,np,hz,q3⟩=>?_) hs;subst e1 e2 e3;cases rx;cases ry;obtain ⟨z,xs,x1,hm⟩:=I3.Si ha pe nd;refine wpAny_setItem_heap (knd:=tupleKind (intKind X.prog X.w)) (k:= [p.1,p.2]) (by show X.A.units+1<cLine;omega) (I3.rK hc) hm (λh' BM sb=>?_) (small (by rw [x1.len];omega))
 have na:atKey xs [p.1,p.2]=none:=by
  cases e:atKey xs [p.1,p.2] with
  |none=>rfl
  |some q=>exact absurd (qP.mp (by rw [←x1.keys];exact lA.mp (by rw [e];rfl))) np
 rw [storedH_new na] at BM;have x2:lh H3 (es++ [(bQ p,c)]) (ks++ [p]) (vs++ [fv]) (xs++ [([p.1,p.2],c,r)]):=x1.snoc hc (Kl rv);obtain ⟨o',Ym,xQ,jx,vQ,i8,t6,_,_⟩:=BM;have I':=I3.write (h':=h') (t':=s3.toks+(tupleKind (intKind X.prog X.w)).draws [p.1,p.2]) (x:=a) (e:=a) (o:= .ext (fZ a (es++ [(bQ p,c)]) (vs++ [fv]))) (by rw [ha];trivial) (.inl rfl) (λb u hb e=>sb.extBut b u hb e) ⟨o',jx⟩ (fZ.ok ⟨z,o',Ym,xQ,jx,vQ,i8,by rw [t6];exact Om x2⟩)
 exact ⟨σ,_,I',q3⟩
end
section
variable {Z:DC} {X:Cx} {B:Bs} {md:List Nat} {rn:Nat} {ρ:DN} {σ:St} {H G:Hp} {fp:Nat→List Addr} {a e k o:Expr} {ta te tk tp:ba} {pos apos aN p2:Pos}
def RC(neg:Bool):gY:=λa b P=>∃p ks vs,a=IU p∧b= .x (.pV ks vs)∧P (.bl (if neg=true then !decide (p∈ks) else decide (p∈ks)))
theorem Cb(hu:X.A.units+64<cLine):OpR X (compareOp .NotIn) (bX Z (RC true)):=by
 refine (Ap hu).imp ?_;rintro x y H Q ⟨G,a,b,P,s,da,db,⟨p,ks,vs,rfl,rfl,h⟩,q⟩;obtain ⟨c,rfl,hc⟩:=da.DM;cases db with
 |x hp ok=>
  obtain ⟨nd,es,rfl,pe⟩:=ok;exact ⟨c,_,es,ks,vs,p,rfl,rfl,s _ _ hc,s _ _ hp,pe.mono s,nd,q _ h _ G H (.refl s) (.bl _)⟩
def N0(i:Nat):dh:=λE ρ=>E.nx (ρ.set i (some (.x (.pV [] []))))
theorem GI(i:Nat){x:Str}{pos':Pos}(hN:X.N.Nodup)(hm:md.getD i 0=98:=by rfl)(hi:X.N[i]? =some x:=by rfl)(hx:Loc X.env.scope x:=by first|exact Or.inl rfl|exact Or.inr rfl)(hs:swapsWith (.Dict [] [] p2) (some (.Name x pos')) pos.line X.env=pure false:=by rfl)
  (hf:X.fn x=true∨X.env.scope.names.lookup x=some .local:=by first|exact .inl rfl|exact .inr rfl|assumption):DSt Z X md rn (.Assign [.Name x pos'] (.Dict [] [] p2) pos) (N0 i):=by
 refine (bC hN hi hx IJ hs hf).imp ?_;rintro D σ H ⟨B,ρ,E,⟨G,fp,S⟩,h,M⟩;intro c hc;have gc:G c=none:=S.ex.sub.free hc;have x:Ext G H G (upd H c (.ext (fZ c [] []))):=⟨.refl _,S.ex.sub.trans (ay hc _),ay hc _,λ_ _ z=>z⟩;refine M.nx _ h _ _ ⟨G,_,(S.grow x).Jo hm (f:= [c]) (.inr (.inr ⟨c,_,rfl,aa,rfl, .inr ⟨rfl,_,rfl,ju,[],rfl, .nil⟩⟩)) (by simp) (λb hb=>?_) λb hb j _ hj=>?_⟩
 ·rw [bN] at hb;subst hb
  exact ⟨S.ex.hh.free hc,(by rw [aa];exact λz=>nomatch z),gc⟩
 ·rw [bN] at hb;subst hb
  exact (S.nw j _ hj).2.1 hc
def SE:FV→D
 | .int i=> .int i
 | .bl b=> .bl b
theorem Dv.Vz{v:V}{f:FV}(h:Dv Z G v (SE f)):v=vF f:=by
 cases f with
 |int i=>exact h.ofInt
 |bl b=>exact h.Na
def N8(md:List Nat)(i:Nat)(tk te:ba):dh:=λE ρ=>te (cN md ρ) λd=>∃fv ks vs,d=SE fv∧ρ[i]? =some (some (.x (.pV ks vs)))∧tk (cN md ρ) λkd=>∃p,kd=IU p∧p∉ks∧ks.length≤300∧E.nx (ρ.set i (some (.x (.pV (ks++ [p]) (vs++ [fv])))))
theorem GN(i:Nat){x:Str}{px pos':Pos}(hu:X.A.units+64<cLine)(hk:DE Z X k tk)(he:DE Z X e te)(hm:md.getD i 0=98:=by rfl)(hi:X.N[i]? =some x:=by rfl)(hv:qw X.env.scope x:=by first|exact Or.inl rfl|exact Or.inr (Or.inl rfl) |exact Or.inr (Or.inr rfl))(hd:(x==("__debug__":Str))=false:=by decide)(fH:(x==("__classdict__":Str))=false:=by decide)
  (hs:swapsWith e (some (.Subscript (.Name x px) k pos')) pos.line X.env=pure false:=by rfl):DSt Z X md rn (.Assign [.Subscript (.Name x px) k pos'] e pos) (N8 md i tk te):=by
 refine (IW hu (pv i hi hv hd fH) hk he hs).imp ?_;rintro D σ H ⟨B,ρ,E,⟨G,fp,S⟩,h,M⟩;refine S.ev false h λd hd=>⟨trivial,λv G1 H1 S1 x1 dv=>?_⟩;obtain ⟨fv,ks,vs,rfl,h1,h2⟩:=hd;obtain rfl:=dv.Vz;obtain ⟨v0,i9,o0⟩:=S1.at_ i _ h1;rw [hm] at o0;obtain ⟨l,φ,rfl,hl,_,nd,es,rfl,pe⟩:=o0.xA;refine ⟨_,i9,S1.ev false h2 λkd Ts=>⟨trivial,λu G2 H2 S2 x2 du=>?_⟩⟩;obtain ⟨p,rfl,np,hz,hn⟩:=Ts;obtain ⟨c,rfl,hc⟩:=du.DM;obtain ⟨v1,HH,o1⟩:=S2.at_ i _ h1;rw [i9] at HH;cases HH;rw [hm] at o1;obtain ⟨l',φ',e',BL,Hs,kz,ke,rfl,IH⟩:=o1.xA;cases e';refine ⟨l,c,ke,ks,vs,p,fv,rfl,rfl,rfl,BL,x2.sub _ _ hc,IH.mono x2.sub,kz,np,hz,M.nx _ hn _ _ ⟨G2,fp,S2.mut i9 (b:=l) (by rw [Hs];simp) ?_⟩⟩
 rw [hm,Hs];refine .inr (.inr ⟨l,_,rfl,aa,rfl, .inr ⟨rfl,_,rfl,?_,_,rfl,IH.snoc hc⟩⟩);rw [b7];refine ⟨kz,by simp,λa ha b hb z=>np ?_⟩
 rw [bN] at hb;rw [←hb,←z];exact ha
end
section
variable {Z:DC} {X:Cx} {B:Bs} {md:List Nat} {rn:Nat} {ρ:DN} {σ:St} {H G:Hp} {fp:Nat→List Addr} {e k:Expr} {pos p2 apos aN:Pos} {tp te:ba} {t:jG}
def Sw(t:jG):jG:=λρ P=>t ρ λa=>P [.lst a]
theorem Kc(ha:DF Z X 1 e t)(hs:starEach [e] X.env=(false,eval e X.env)::starEach [] X.env:=by rfl):DF Z X 2 (.List [e] pos) (Sw t):=by
 refine (dN (ae ha ar hs)).imp ?_;rintro σ H Q ⟨G,ρ,P,s,en,h,q⟩;refine ⟨G,ρ,_,s,en,h,λl1 h1 v1 f1 G1 H1 x1 o1 qM K9=>⟨by show 1≤sizeLine;decide,λp hp=>?_⟩⟩
 have n1:∀b∈f1,b≠p:=λb hb z=>(K9 b hb).2.1 (by rw [z];exact hp)
 refine q _ h1 (.ref p) (p::(f1++ [])) G1 _ (x1.side hp) (.inl ⟨p,[v1],_,_,rfl,rfl,aa,rfl, .cons (o1.keep (.refl _) λb hb=>ab (n1 b hb)) .nil⟩) ?_ ?_
 ·rw [j4,fk]
  exact ⟨λz=>n1 p z rfl,qM⟩
 ·intro b hb
  rw [j4] at hb
  rcases bE.mp hb with rfl|hb
  ·exact ⟨x1.hh.free hp,(by rw [aa];exact λz=>nomatch z),x1.sub.free hp⟩
  ·exact ⟨(K9 b hb).1,(by rw [ab (n1 b hb)];exact (K9 b hb).2.1),(K9 b hb).2.2⟩
theorem Gz(n:Nat):DF Z X (n+1) (.List [] pos) (GX zE):=by
 refine (dN ar).imp ?_;rintro σ H Q ⟨G,ρ,P,s,en,⟨_,hp⟩,q⟩;refine ⟨by show 0≤sizeLine;decide,λp hn=>?_⟩
 refine q _ hp (.ref p) [p] G _ ((Ext.refl s).side hn) (.inl ⟨p,[],[],[],rfl,rfl,aa,rfl, .nil⟩) (by simp) λb hb=>?_
 have:b=p:=by simpa using hb
 subst this;exact ⟨hn,(by rw [aa];exact λz=>nomatch z),s.free hn⟩
def Gr(i:Nat)(tp:ba):dh:=λE ρ=>∃eG,ρ[i]? =some (some (.lst eG))∧tp ρ λpp=>∃p j ds,pp= .int p∧iO eG.length p=some j∧eG[j]? =some (.lst ds)∧E.nx (ρ.set i (some (.lst (eG.set j (.lst ds.reverse)))))
theorem GL(i:Nat){x:Str}{px ps:Pos}(hp:DE Z X k tp)(hm:md.getD i 0=2:=by rfl)(yd:pb k:=by exact λ_ _=>rfl)
  (hi:X.N[i]? =some x:=by rfl) (hv:qw X.env.scope x:=by first|exact Or.inl rfl|exact Or.inr (Or.inl rfl) |exact Or.inr (Or.inr rfl)) (hd:(x==("__debug__":Str))=false:=by decide) (fH:(x==("__classdict__":Str))=false:=by decide)
  (dM:attributeBase (.Subscript (.Name x px) k ps) "reverse" X.env (eval (.Subscript (.Name x px) k ps) X.env)=eval (.Subscript (.Name x px) k ps) X.env:=by rfl) (cG:(apos.endLine==aN.line)=true:=by rfl)
  (ot:swapsWith (.Call (.Attribute (.Subscript (.Name x px) k ps) "reverse" apos) [] [] aN) none pos.line X.env=pure false:=by rfl):DSt Z X md rn (.Expr (.Call (.Attribute (.Subscript (.Name x px) k ps) "reverse" apos) [] [] aN) pos) (Gr i tp):=by
 refine (cR (DP PySem.F.plainAttrs_list PySem.F.slot_list_reverse PySem.F.type_list_reverse Ak (bY bp (pv i hi hv hd fH) hp yd) dM cG) ot).imp ?_;rintro Dn σ H ⟨B,ρ,E,⟨G,fp,S⟩,⟨eG,h1,h⟩,M⟩;obtain ⟨v0,i9,o⟩:=S.at_ i _ h1;refine ⟨_,i9,S.ev true h ?_⟩;rintro _ ⟨p,j,ds,rfl,hj,hd,h⟩;refine ⟨rfl,λv1 G1 H1 S1 x1 GP=>?_⟩;cases GP;obtain ⟨T,ys,l,xs,g6,e1,e2,e3,e4,e5,e6,bB,put⟩:=S1.two hm h1 hd;cases e1;rw [e2] at i9;cases i9;exact ⟨T,ys,p, .ref l,rfl,rfl,aG.of e3,Dc e4 hj e5,ty_list e6,l,xs,rfl,rfl,e6,M.nx _ h _ _ ⟨G1,fp,put _ _ bB.rev⟩⟩
theorem SIx.UI{i:Nat}{v:V}{d':D}{b:Addr}{c:HO}{f':List Addr}(S:SIx Z B md ρ σ H G fp)(hi:σ[i]? =some (some v))(hb:b∈fp i)(o:Own Z G (upd H b c) (md.getD i 0) v d' f')(nd:f'.Nodup)(nw:∀x∈f',B.H₀ x=none∧H x≠none∧G x=none)(ap:∀x∈f',∀j,j≠i→x∉fp j):
  SIx Z B md (ρ.set i (some d')) σ (upd H b c) G (λj=>if j=i then f' else fp j) where
 ex:=by
  obtain ⟨h1,h2,h3⟩:=S.nw i b hb;exact ⟨S.ex.gg,λx u e=>by rw [ab (ah e h3)];exact S.ex.sub _ _ e,λx u e=>by rw [ab (ah e h1)];exact S.ex.hh _ _ e,S.ex.off⟩
 fl:=S.fl
 len:=by rw [fC];exact S.len
 at_:=λj w h=>by
  by_cases z:i=j
  ·subst z
   by_cases hl:i<ρ.length
   ·rw [mH hl] at h
    cases h;exact ⟨v,hi,by rw [if_pos rfl];exact o⟩
   ·rw [A0 (kW hl),js (kW hl)] at h;cases h
  ·rw [r8 z] at h
   obtain ⟨u,hu,ow⟩:=S.at_ j w h;exact ⟨u,hu,by rw [if_neg (Ne.symm z)];exact ow.keep (.refl _) λx hx=>ab λq=>S.ap i j b z hb (by rw [←q];exact hx)⟩
 nd:=λj=>by split;exact nd;exact S.nd j
 ap:=λj k b ne hj hk=>by
  split at hj
  ·next z=>
   rw [if_neg (λw=>ne (z.trans w.symm))] at hk;exact ap b hj k (λw=>ne (z.trans w.symm)) hk
  ·next z=>
   split at hk
   ·exact ap b hk j z hj
   ·exact S.ap j k b ne hj hk
 nw:=λj x hx=>by
  have go:B.H₀ x=none∧H x≠none∧G x=none:=by
   split at hx
   ·exact nw x hx
   ·exact S.nw j x hx
  refine ⟨go.1,?_,go.2.2⟩
  by_cases z:x=b
  ·rw [z,aa];exact λq=>nomatch q
  ·rw [ab z];exact go.2.1
def Df(md:List Nat)(i:Nat)(t:jG):dh:=λE ρ=>∃eG,ρ[i]? =some (some (.lst eG))∧t (cN md ρ) λl=>eG.length<sizeLine∧E.nx (ρ.set i (some (.lst (eG++ [.lst l]))))
theorem wb(i:Nat){x:Str}{px:Pos}(he:DF Z X 1 e t)(hm:md.getD i 0=2:=by rfl)(hi:X.N[i]? =some x:=by rfl)(hv:qw X.env.scope x:=by first|exact Or.inl rfl|exact Or.inr (Or.inl rfl) |exact Or.inr (Or.inr rfl))(hd:(x==("__debug__":Str))=false:=by decide)(fH:(x==("__classdict__":Str))=false:=by decide)
  (dM:attributeBase (.Name x px) "append" X.env (eval (.Name x px) X.env)=eval (.Name x px) X.env:=by rfl)
  (jN:((backTo aN (starEach [e] X.env)).all (λx=>!x.1)&&(backToKw aN (keywordEach [] X.env)).all (λx=>x.1.isSome)&&decide (([e]:List Expr).length+([]:List Keyword).length+(if ([]:List Keyword).isEmpty then 0 else 1)<30))=true:=by rfl)
  (cG:(apos.endLine==aN.line)=true:=by rfl) (hs:starEach [e] X.env=(false,eval e X.env)::starEach [] X.env:=by rfl) (fe:(backTo aN (starEach [] X.env)).any (·.1)=false:=by rfl)
  (ot:swapsWith (.Call (.Attribute (.Name x px) "append" apos) [e] [] aN) none pos.line X.env=pure false:=by rfl):
  DSt Z X md rn (.Expr (.Call (.Attribute (.Name x px) "append" apos) [e] [] aN) pos) (Df md i t):=by
 refine (cR (fM PySem.F.plainAttrs_list PySem.F.slot_list_append PySem.F.type_list_append fL (pv i hi hv hd fH) (ae he ar hs) dM jN cG hs fe) ot).imp ?_;rintro Dn σ H ⟨B,ρ,E,⟨G,fp,S⟩,⟨eG,h1,h⟩,M⟩;obtain ⟨v0,i9,o⟩:=S.at_ i _ h1;rw [hm] at o;obtain ⟨T,ys,GF,eV,rfl,e0,hT,hf,ol⟩:=o.lst;cases e0;refine ⟨_,i9,ty_list hT,G,_,_,S.ex.sub,S.zO,h,?_⟩;rintro l ⟨hz,hn⟩ v f G' H' x ow nd nw;have S':=S.grow x;have Hj:=x.hh _ _ hT
 have Pn:∀b∈eV,H' b=H b:=λb hb=>by
  cases z:H b with
  |none=>exact absurd z (S.nw i b (by rw [hf];exact cn _ hb)).2.1
  |some o=>exact x.hh _ _ z
 have Ij:=S.nd i;rw [hf] at Ij;obtain ⟨nT,ndf⟩:=fk.mp Ij
 have fT:T∉f:=λz=>by
  have:=(nw T z).1
  rw [hT] at this;cases this
 have ff:∀b∈eV,b∉f:=λb hb z=>(S.nw i b (by rw [hf];exact cn _ hb)).2.1 (nw b z).1
 have WO:∀b,b≠T→upd H' T (.lst (ys++ [v])) b=H' b:=λb hb=>ab hb;refine ⟨T,ys,v,rfl,rfl,Hj,by rw [ol.length];exact hz,M.nx _ hn _ _ ⟨G',_,S'.UI (b:=T) (f':=T::(eV++f)) i9 (by rw [hf];exact b8 ..) ?_ ?_ ?_ ?_⟩⟩
 ·rw [hm]
  refine .inl ⟨T,ys++ [v],_,eV++f,rfl,rfl,aa,rfl,cz.snoc (ol.imp λv d g hb r=>r.keep x.gg λb q=>?_) (ow.keep (.refl _) λb hb=>WO b λz=>fT (by rw [←z];exact hb))⟩
  rw [WO b λz=>nT (by rw [←z];exact hb b q)]
  exact Pn b (hb b q)
 ·rw [fk,b7]
  exact ⟨λz=>(b9.mp z).elim nT fT,ndf,nd,λa ha b hb z=>ff a ha (by rw [z];exact hb)⟩
 ·intro b hb
  rcases bE.mp hb with rfl|hb
  ·exact S'.nw i b (by rw [hf];exact b8 ..)
  ·rcases b9.mp hb with hb|hb
   ·exact S'.nw i b (by rw [hf];exact cn _ hb)
   ·exact ⟨S.ex.hh.free (nw b hb).1,(nw b hb).2⟩
 ·intro b hb j hj z
  have go:b∈fp i∨b∈f:=by
   rw [hf]
   rcases bE.mp hb with rfl|hb
   ·exact .inl (b8 ..)
   ·exact (b9.mp hb).imp (cn _) id
  rcases go with go|go
  ·exact S.ap j i b hj z go
  ·exact (S.nw j b z).2.1 (nw b go).1
theorem qO{H:Hp}:∀{ys:List V}{L:List (List Nat)}{eV:List Addr},cz (Own Z G H 1) ys (L.map aZ) eV→∃A:List (Addr×List Nat),ys=A.map (λe=>V.ref e.1)∧A.map (·.2)=L∧JP H A∧eV=A.map (·.1)
 |_,[],_, .nil=>⟨[],rfl,rfl,(λp hp=>by cases hp),rfl⟩
 |_,r::L,_, .cons a as=>by
  obtain ⟨A,h1,h2,h3,h4⟩:=qO as;obtain ⟨p,xs,ds,eV,rfl,e,ha,hf,ol⟩:=a.one;obtain ⟨dv,rfl⟩:=ol.flat;have e:(r.map aI)=ds:=by cases e;rfl
  subst e
  have hx:xs=(j1 r).map V.int:=by
   have e:r.map aI=(j1 r).map D.int:=by unfold j1;rw [fE];rfl
   rw [e] at dv;exact tW dv
  rw [hx] at ha;refine ⟨(p,r)::A,by rw [h1];rfl,by rw [←h2];rfl,λq hq=>?_,by rw [hf,h4];rfl⟩
  rcases bE.mp hq with rfl|hq
  ·exact ha
  ·exact h3 q hq
theorem qW{H:Hp}:∀{A:List (Addr×List Nat)},JP H A→cz (Own Z G H 1) (A.map λe=>V.ref e.1) ((A.map (·.2)).map aZ) (A.map (·.1))
 | [],_=> .nil
 |x::A,h=>by
  have e:(x.2.map aI)=(j1 x.2).map D.int:=by unfold j1;rw [fE];rfl
  refine cz.cons (f:= [x.1]) (.inl ⟨x.1,_,_,[],rfl,rfl,h x (b8 ..),rfl,?_⟩) (qW λp hp=>h p (cn _ hp));rw [e];exact (aq.ints _).own
def Gq(i:Nat):dh:=λE ρ=>∃L:List (List Nat),ρ[i]? =some (some (.lst (L.map aZ)))∧L.length≤1000∧∀M:List (List Nat),M.Perm L→M.Pairwise jR→E.rt (.lst (M.map aZ))
theorem Br(i:Nat){x:Str}{px p:Pos}(hu:X.A.units+64<cLine)(hg:Gl X "sorted")(t9:X.mg "sorted"=none)(hm:md.getD i 0=2:=by rfl)(hi:X.N[i]? =some x:=by rfl)(hv:qw X.env.scope x:=by first|exact Or.inl rfl|exact Or.inr (Or.inl rfl) |exact Or.inr (Or.inr rfl))(hd:(x==("__debug__":Str))=false:=by decide)(fH:(x==("__classdict__":Str))=false:=by decide)
  (hs:starEach [.Name x px] X.env=(false,eval (.Name x px) X.env)::starEach [] X.env:=by rfl) (fq:(backTo aN (starEach [] X.env)).any (·.1)=false:=by rfl):DSt Z X md 2 (.Return (some (.Call (.Name "sorted" p) [.Name x px] [] aN)) pos) (Gq i):=by
 refine (fh (cA (tO hu) hg t9 n4 (ae (pv i hi hv hd fH) ar hs) (by decide) (by decide) hs fq)).imp ?_
 rintro Dn σ H ⟨B,ρ,E,⟨G,fp,S⟩,⟨L,h1,hz,h⟩,M⟩;obtain ⟨v0,i9,o⟩:=S.at_ i _ h1;rw [hm] at o;obtain ⟨T,ys,GF,eV,rfl,e0,hT,hf,ol⟩:=o.lst;cases e0;obtain ⟨A,rfl,Hg,Km,SK⟩:=qO ol;have Ij:=S.nd i;rw [hf] at Ij;have hl:A.length=L.length:=by rw [←Hg];simp
 refine ⟨_,i9,T,A,rfl,aG.of hT,Km,by omega,λq N hn pm yW=>?_⟩
 have PK:=S.nw i;rw [hf] at PK;have mem:∀b,b∈N.map (·.1)→b∈eV:=λb hb=>by rw [SK];exact (pm.map _).mem_iff.mp hb
 have ne:∀b,b∈N.map (·.1)→b≠q:=λb hb z=>(PK b (cn _ (mem b hb))).2.1 (by rw [z];exact hn)
 refine M.rt _ (h (N.map (·.2)) (by rw [←Hg];exact pm.map _) yW) (.ref q) (q::N.map (·.1)) G _ (S.ex.side hn) (.inl ⟨q,_,_,_,rfl,rfl,aa,rfl,qW λp hp=>?_⟩) ?_ ?_
 ·rw [ab (ne p.1 (bS.mpr ⟨p,hp,rfl⟩))]
  exact Km p (pm.mem_iff.mp hp)
 ·rw [fk]
  refine ⟨λz=>ne q z rfl,((pm.map _).nodup_iff).mpr ?_⟩;rw [←SK];exact (fk.mp Ij).2
 ·intro b hb
  rcases bE.mp hb with rfl|hb
  ·exact ⟨S.ex.hh.free hn,(by rw [aa];exact λz=>nomatch z),S.ex.sub.free hn⟩
  ·obtain ⟨k1,k2,k3⟩:=PK b (cn _ (mem b hb))
   exact ⟨k1,(by rw [ab (ne b hb)];exact k2),k3⟩
def AI(Z:DC):Sp:=λvs H Q _=>∃(p dx:Addr)(v:V)(G:Hp)(w:List (List Nat)),vs= [.ref p,v]∧H p=some (.ins Z.C dx [])∧aC G H∧G p=none∧Dv Z G v (bJ w)∧Wb.Good w∧1≤w.length∧w.length≤14∧
 ∀(R:Addr)(f:List Addr)(H':Hp),(∀b o,H b=some o→b≠p→H' b=some o)→H' p=some (.ins Z.C dx [("rows", .ref R)])→(∀Gx,Own Z Gx H' 2 (.ref R) (bJ w) f)→(∀b∈f,H b=none)→Q .aL H'
theorem IG{G':Hp}{v:V}{w:List (List Nat)}{f:List Addr}(o:Own Z G H 2 v (bJ w) f):Own Z G' H 2 v (bJ w) f:=by
 obtain ⟨T,ys,GF,eV,rfl,e0,hT,hf,ol⟩:=Own.lst o;have e0:GF=w.map aZ:=by cases e0;rfl
 subst e0;obtain ⟨A,rfl,h2,h3,h4⟩:=qO ol;refine .inl ⟨T,_,_,eV,rfl,rfl,hT,hf,?_⟩
 have:=qW (Z:=Z) (G:=G') h3
 rw [h2,←h4] at this;exact this
def N9(i:Nat)(ta:jv):dh:=λE ρ=>ta ρ λds=>∃w,ds= [bJ w]∧Wb.Good w∧1≤w.length∧w.length≤14∧E.nx (ρ.set i (some (.fV w)))
theorem Bt(i:Nat){x y:Str}{px p:Pos}{k:Nat}{f:Addr}{fd:FuncData}{ps:List Str}{es:List Expr}{ta:jv}{mv:Pos}(hN:X.N.Nodup)(M:Mk Z.K Z.C f)(F:FnOk X.prog X.w X.K X.mg X.base cw k f fd ps (AI Z))(hr:cC (k+1) X.A)(hg:Gl X y)(t9:X.mg y=some (.ref Z.C))(hb:Binds X.K fd ps [])
  (ha:DA Z X (e::es) ta) (eK:X.K=Z.K:=by rfl) (lI:(y==("__debug__":Str))=false:=by decide) (he:starEach (e::es) X.env=(false,eval e X.env)::starEach es X.env:=by rfl) (fq:(backTo pos (starEach es X.env)).any (·.1)=false:=by rfl)
  (hm:md.getD i 0=0:=by rfl) (hi:X.N[i]? =some x:=by rfl) (hx:Loc X.env.scope x:=by first|exact Or.inl rfl|exact Or.inr rfl) (hs:swapsWith (.Call (.Name y p) (e::es) [] pos) (some (.Name x px)) mv.line X.env=pure false:=by rfl)
  (hf:X.fn x=true∨X.env.scope.names.lookup x=some .local:=by first|exact .inl rfl|exact .inr rfl|assumption):DSt Z X md rn (.Assign [.Name x px] (.Call (.Name y p) (e::es) [] pos) mv) (N9 i ta):=by
 refine (bC hN hi hx (IL (by rw [eK];exact M) F hr hg t9 hb .nil bR ha lI he fq) hs hf).imp ?_
 rintro Dn σ H ⟨B,ρ,E,⟨G,fp,S⟩,h,Mt⟩;refine ⟨H,ρ,_, .refl _,S.GU,h,?_⟩;rintro _ ⟨w,rfl,g,h1,cF,hn⟩ vs G1 H1 x1 bB p dx hx Y3 ne;cases bB with
 | @cons v _ _ _ dv bB=>
  cases bB;have S1:=S.grow (Ext.all S.ex.sub x1);have vQ:upd H1 dx (.own p) p=none:=by rw [ab (Ne.symm ne)];exact hx
  have sJ:=(ay Y3 (.own p)).trans (ay vQ (.ins Z.C dx []));refine ⟨p,dx,v,G1,w,rfl,aa,x1.sub.trans sJ,x1.sub.free hx,dv,g,h1,cF,λR f H2 kp Kv own nf=>⟨rfl,?_⟩⟩
  let F:Addr→Prop:=λb=>b=p∨b∈f
  have F1:∀b,F b→H1 b=none:=λb hb=>by
   rcases hb with rfl|hb
   ·exact hx
   ·exact sJ.free (nf b hb)
  have Jk:aC H1 H2:=λb o e=>kp b o (sJ _ _ e) (ah e hx);have nF:∀b o,H1 b=some o→¬F b:=λb o e z=>by rw [F1 b z] at e;cases e
  have x2:Ext G H1 (plus G H2 F) H2:=⟨λb o e=>by rw [dD (nF b o (S1.ex.sub _ _ e))];exact e,λb o e=>by
   by_cases z:F b
   ·rw [eX z] at e;exact e
   ·rw [dD z] at e;exact Jk _ _ (S1.ex.sub _ _ e),Jk,λb hb hg=>by
   rw [dD (λz=>hb (F1 b z))];exact hg⟩
  have dw:Dv Z (plus G H2 F) (.ref p) (.fV w):= .fV (by rw [eX (.inl rfl)];exact Kv) ((own (plus G H2 F)).dv (.refl _) λb hb o e=>by rw [eX (.inr hb)];exact e) g h1 cF
  exact Mt.nx _ hn _ _ ⟨_,_,(S1.grow x2).nO hm dw⟩
end
end L2
namespace Wb
def eE(w:W)(d:Nat×Nat)(r:List (Nat×Nat)):Prop:=∃k,0<k∧bo w k d=d∧(∀j,0<j→j<k→bo w j d≠d)∧r=walk w d k
theorem jS{w:W}{d e:Nat×Nat}{k:Nat}:e∈walk w d k↔∃i,i<k∧e=bo w i d:=by
 unfold walk;rw [bS]
 constructor
 ·rintro ⟨i,hi,rfl⟩;exact ⟨i,gw.mp hi,rfl⟩
 ·rintro ⟨i,hi,rfl⟩;exact ⟨i,gw.mpr hi,rfl⟩
theorem eE.first{w:W}{d:Nat×Nat}{r:List (Nat×Nat)}(h:eE w d r):d∈r:=by
 obtain ⟨k,h0,_,_,rfl⟩:=h;exact jS.mpr ⟨0,h0,rfl⟩
theorem eE.next{w:W}{d e:Nat×Nat}{r:List (Nat×Nat)}(h:eE w d r)(he:e∈r):bw w e∈r:=by
 obtain ⟨k,h0,h1,_,rfl⟩:=h;obtain ⟨i,hi,rfl⟩:=jS.mp he
 by_cases c:i+1<k
 ·exact jS.mpr ⟨i+1,c,rfl⟩
 ·have:i+1=k:=by omega
  refine jS.mpr ⟨0,h0,?_⟩;show bo w (i+1) d=d;rw [this];exact h1
theorem eE.iter{w:W}{d e:Nat×Nat}{r:List (Nat×Nat)}(h:eE w d r)(he:e∈r):∀n,bo w n e∈r
 |0=>he
 |n+1=>h.next (h.iter he n)
theorem eE.back{w:W}{d e:Nat×Nat}{r:List (Nat×Nat)}(h:eE w d r)(he:e∈r):∃n,bo w n e=d:=by
 obtain ⟨k,h0,h1,_,rfl⟩:=h;obtain ⟨i,hi,rfl⟩:=jS.mp he;refine ⟨k-i,?_⟩;rw [←dR i (k-i),show k-i+i=k by omega]
 exact h1
theorem eE.nodup{w:W}(g:Good w){d:Nat×Nat}{r:List (Nat×Nat)}(h:eE w d r)(hd:az w d):r.Nodup:=by
 obtain ⟨k,h0,h1,h2,rfl⟩:=h;exact rW g hd h2
theorem eE.aE{w:W}(g:Good w){d:Nat×Nat}{r:List (Nat×Nat)}(h:eE w d r)(hd:az w d):∀e∈r,az w e:=by
 obtain ⟨k,h0,h1,h2,rfl⟩:=h;exact oV g hd
structure Wk (w:W) (ds:List (Nat×Nat)) (i:Nat) (rs:List (List (Nat×Nat))):Prop where
 rnd:∀r∈rs,∃d,eE w d r∧az w d∧∀e∈r,lexLe d e
 nod:rs.flatten.Nodup
 met:∀j e,j<i→ds[j]? =some e→e∈rs.flatten
theorem Wk.zero(w:W)(ds:List (Nat×Nat)):Wk w ds 0 []:=⟨(λr h=>by cases h),ju,(λj e h=>by omega)⟩
theorem Wk.skip{w:W}{ds:List (Nat×Nat)}{i:Nat}{rs:List (List (Nat×Nat))}{d:Nat×Nat}(h:Wk w ds i rs)(hd:ds[i]? =some d)(hm:d∈rs.flatten):Wk w ds (i+1) rs:=
 ⟨h.rnd,h.nod,λj e hj he=>by
  by_cases c:j=i
  ·subst c;rw [hd] at he;cases he;exact hm
  ·exact h.met j e (by omega) he⟩
theorem Wk.take{w:W}(g:Good w){ds:List (Nat×Nat)}(all:∀e,az w e→e∈ds)(dart:∀e∈ds,az w e)(yW:ds.Pairwise lexLe){i:Nat}{rs:List (List (Nat×Nat))}{d:Nat×Nat}{r:List (Nat×Nat)}(h:Wk w ds i rs)(hd:ds[i]? =some d)(hm:d∉rs.flatten)(hr:eE w d r):Wk w ds (i+1) (rs++ [r]):=by
 have dd:az w d:=dart d (di hd)
 have off:∀e∈r,e∉rs.flatten:=λe he hf=>by
  obtain ⟨r',ft,t6⟩:=kX.mp hf;obtain ⟨d',R',_,_⟩:=h.rnd r' ft;obtain ⟨n,hn⟩:=hr.back he;exact hm (kX.mpr ⟨r',ft,by rw [←hn];exact R'.iter t6 n⟩)
 refine ⟨λr' h'=>?_,?_,λj e hj he=>?_⟩
 ·rcases b9.mp h' with z|z
  ·exact h.rnd r' z
  ·rw [bN.mp z]
   refine ⟨d,hr,dd,λe he=>?_⟩;obtain ⟨j,hj⟩:=gz (all e (hr.aE g dd e he))
   by_cases c:j<i
   ·exact absurd (h.met j e c hj) (off e he)
   ·by_cases c2:j=i
    ·subst c2;rw [hd] at hj;cases hj
     exact .inr ⟨rfl,aV _⟩
    ·obtain ⟨h1,e1⟩:=cu.mp hd
     obtain ⟨h2,e2⟩:=cu.mp hj;rw [←e1,←e2];exact vv.mp yW i j h1 h2 (by omega)
 ·rw [vy,b7]
  refine ⟨h.nod,by simpa using hr.nodup g dd,λa ha b hb e=>?_⟩
  subst e;exact off a (by simpa using hb) ha
 ·rw [vy,b9]
  by_cases c:j=i
  ·subst c;rw [hd] at he;cases he
   exact .inr (by simpa using hr.first)
  ·exact .inl (h.met j e (by omega) he)
theorem Wk.fin{w:W}(g:Good w){ds:List (Nat×Nat)}(all:∀e,az w e→e∈ds){rs:List (List (Nat×Nat))}(h:Wk w ds ds.length rs):rs.flatten.Perm (aE w):=by
 have sub:∀e,e∈rs.flatten↔e∈aE w:=λe=>by
  rw [aB]
  constructor
  ·intro he
   obtain ⟨r,hr,OM⟩:=kX.mp he;obtain ⟨d,R,dd,_⟩:=h.rnd r hr;exact R.aE g dd e OM
  ·intro he
   obtain ⟨j,hj⟩:=gz (all e he);exact h.met j e (cu.mp hj).1 hj
 exact (mG h.nod (bb g)).mpr sub
structure bT (w:W) (rs:List (List (Nat×Nat))):Prop where
 rnd:∀r∈rs,∃d,eE w d r∧az w d∧∀e∈r,lexLe d e
 perm:rs.flatten.Perm (aE w)
theorem bT.Iu{w:W}{rs eZ:List (List (Nat×Nat))}(R:bT w rs)(p:eZ.Perm rs):bT w eZ:=
 ⟨λr hr=>R.rnd r (p.mem_iff.mp hr),(p.flatten).trans R.perm⟩
theorem zF{w:W}{d:Nat×Nat}(g:Good w)(h:az w d):d.1≠d.2:=λe=>g.irr d.1 (by have:d.2∈row w d.1:=h;rw [←e] at this;exact this)
theorem tM{w:W}(g:Good w){ts:List (Nat×Nat)}(pm:ts.Perm (iC (row w) w.length)):(ts++ts.map λt=>(t.2,t.1)).Perm (aE w):=by
 have e:=mB w;have nd:=bb g
 have m:∀t,t∈ts↔az w t∧t.1<t.2:=λt=>by
  rw [pm.mem_iff,e,vt,aB,decide_eq_true_eq]
 have nt:ts.Nodup:=pm.nodup_iff.mpr (by rw [e];exact nd.filter _)
 refine (mG ?_ nd).mpr λd=>?_
 ·rw [b7]
  refine ⟨nt,?_,λa ha b hb z=>?_⟩
  ·rw [rY,iZ]
   rw [rY] at nt;exact nt.imp λ {a b} h z=>h (Prod.ext (Prod.mk.inj z).2 (Prod.mk.inj z).1)
  ·obtain ⟨c,hc,rfl⟩:=bS.mp hb
   have h1:=((m a).mp ha).2;have h2:=((m c).mp hc).2;rw [z] at h1;have h1:c.2<c.1:=h1;omega
 ·rw [b9,bS,aB]
  constructor
  ·rintro (h| ⟨c,hc,rfl⟩)
   ·exact ((m d).mp h).1
   ·exact g.sym _ _ ((m c).mp hc).1
  ·intro h
   rcases Nat.lt_or_gt_of_ne (zF g h) with c|c
   ·exact .inl ((m d).mpr ⟨h,c⟩)
   ·exact .inr ⟨(d.2,d.1),(m _).mpr ⟨g.sym _ _ h,c⟩,rfl⟩
theorem eE.uniq{w:W}{d:Nat×Nat}{r r':List (Nat×Nat)}(h:eE w d r)(h':eE w d r'):r=r':=by
 obtain ⟨k,a1,a2,a3,rfl⟩:=h;obtain ⟨m,b1,b2,b3,rfl⟩:=h'
 rcases Nat.lt_trichotomy k m with c|c|c
 ·exact absurd a2 (b3 k a1 c)
 ·rw [c]
 ·exact absurd b2 (a3 m b1 c)
theorem bT.sub{w:W}{rs eZ:List (List (Nat×Nat))}(R:bT w rs)(R':bT w eZ):∀r∈rs,r∈eZ:=λr hr=>by
 obtain ⟨d,h1,h2,h3⟩:=R.rnd r hr;have hd:d∈eZ.flatten:=R'.perm.mem_iff.mpr (aB.mpr h2);obtain ⟨r',ft,Tc⟩:=kX.mp hd;obtain ⟨d',k1,k2,k3⟩:=R'.rnd r' ft;obtain ⟨n,hn⟩:=k1.back Tc;have l1:lexLe d d':=by rw [←hn];exact h3 _ (h1.iter h1.first n)
 have e:=qJ l1 (k3 d Tc);subst e;rw [h1.uniq k1];exact ft
theorem bT.ne{w:W}{rs:List (List (Nat×Nat))}(R:bT w rs):∀r∈rs,r≠ []:=λr hr z=>by
 obtain ⟨d,h1,_⟩:=R.rnd r hr
 have:=h1.first
 rw [z] at this;cases this
theorem rz{α:Type}:∀{l:List (List α)},l.flatten.Nodup→(∀r∈l,r≠ [])→l.Nodup
 | [],_,_=>ju
 |a::l,h,hn=>by
  rw [j3,b7] at h;refine fk.mpr ⟨λha=>?_,rz h.2.1 λr hr=>hn r (cn _ hr)⟩;cases a with
  |nil=>exact hn [] (b8 ..) rfl
  |cons x a=>exact h.2.2 x (b8 ..) x (kX.mpr ⟨_,ha,b8 ..⟩) rfl
theorem bT.nodup{w:W}{rs:List (List (Nat×Nat))}(g:Good w)(R:bT w rs):rs.Nodup:=rz (R.perm.nodup_iff.mpr (bb g)) R.ne
abbrev h8(rs:List (List (Nat×Nat))):List (List Nat):=rs.map λr=>r.map (·.1)
theorem B6{a b:List Nat}(h:L2.jR a b)(h':L2.jR b a):a=b:=by
 have:=L2.pO (L2.j1 a) (L2.j1 b) h' h
 exact L2.AM (by rw [this])
theorem bT.uniq{w:W}(g:Good w){rs eZ:List (List (Nat×Nat))}(R:bT w rs)(R':bT w eZ)(s:(h8 rs).Pairwise L2.jR)(s':(h8 eZ).Pairwise L2.jR):h8 rs=h8 eZ:=by
 have pm:rs.Perm eZ:=(mG (R.nodup g) (R'.nodup g)).mpr λr=>⟨R.sub R' r,R'.sub R r⟩;exact List.Perm.eq_of_pairwise (λ_ _ _ _=>B6) s s' (pm.map _)
open Classical in
noncomputable def jz(w:W):List (List Nat):=if h:∃rs,bT w rs∧(h8 rs).Pairwise L2.jR then h8 h.choose else []
theorem E9{w:W}(g:Good w){rs:List (List (Nat×Nat))}(R:bT w rs)(s:(h8 rs).Pairwise L2.jR):jz w=h8 rs:=by
 have h:∃rs,bT w rs∧(h8 rs).Pairwise L2.jR:=⟨rs,R,s⟩;unfold jz;rw [dif_pos h];exact h.choose_spec.1.uniq g R h.choose_spec.2 s
theorem fN{a b:List Nat}{x y:Nat}(nd:(a++x::y::b).Nodup):aK (a++x::y::b) x=y:=by
 have hx:x∉a:=λh=>by
  have:=(b7.mp nd).2.2 x h x (b8 ..)
  exact this rfl
 have e:(a++x::y::b).idxOf x=a.length:=by
  rw [List.idxOf_append,if_neg hx,List.idxOf_cons_self];simp
 unfold aK;rw [e,xr (by simp),fW,jr (by omega)]
 simp
theorem gX{b:List Nat}{x y:Nat}(nd:(y::(b++ [x])).Nodup):aK (y::(b++ [x])) x=y:=by
 have hx:x∉y::b:=λh=>by
  have h2:(y::b++ [x]).Nodup:=nd;exact (b7.mp h2).2.2 x h x (by simp) rfl
 have e:(y::(b++ [x])).idxOf x=b.length+1:=by
  show (y::b++ [x]).idxOf x=_;rw [List.idxOf_append,if_neg hx];simp
 unfold aK;rw [e]
 have:(b.length+1+1)%(y::(b++ [x])).length=0:=by simp
 rw [this];rfl
theorem oT{a b:List Nat}{x:Nat}(nd:(a++b).Nodup)(h:x∈a++b):aK (b++a) x=aK (a++b) x:=by
 have kz:(b++a).Nodup:=(r9.nodup_iff).mp nd;obtain ⟨u,v,e⟩:=List.append_of_mem h;cases v with
 |cons y v=>
  rw [e,fN (e▸nd)]
  rcases List.append_eq_append_iff.mp e with ⟨c,h1,h2⟩ | ⟨c,h1,h2⟩
  ·
   rw [h2,show c++x::y::v++a=c++x::y::(v++a) by simp]
   refine fN ?_;rw [h2] at kz;simpa using kz
  ·
   cases c with
   |nil=>
    have hb:b=x::y::v:=by simpa using h2.symm
    rw [hb,show x::y::v++a= []++x::y::(v++a) by simp]
    refine fN ?_;rw [hb] at kz;simpa using kz
   |cons z c=>
    have hz:x=z∧y::v=c++b:=by simpa using h2
    obtain ⟨rfl,h3⟩:=hz;cases c with
    |nil=>
     have hb:b=y::v:=by simpa using h3.symm
     rw [h1,hb,show y::v++(u++ [x])=y::((v++u)++ [x]) by simp]
     refine gX ?_;rw [h1,hb] at kz;simpa using kz
    |cons z c=>
     have hz:y=z∧v=c++b:=by simpa using h3
     obtain ⟨rfl,rfl⟩:=hz;rw [h1,show b++(u++x::y::c)=(b++u)++x::y::c by simp]
     refine fN ?_;rw [h1] at kz;simpa using kz
 |nil=>
  cases b with
  |nil=>simp
  |cons y b=>
   rcases List.eq_nil_or_concat b with rfl| ⟨b',z,rfl⟩
   ·
    have:a=u∧y=x:=by
     have:=List.append_inj' e rfl
     exact ⟨this.1,by simpa using this.2⟩
    obtain ⟨rfl,rfl⟩:=this;cases a with
    |nil=>rfl
    |cons t a=>
     have e1:aK (t::a++ [y]) y=t:=gX (b:=a) nd;rw [e1];show aK ([]++y::t::a) y=t;exact fN (by simpa using kz)
   ·have hx:z=x:=by
     rw [List.concat_eq_append] at e;have e:(a++y::b')++ [z]=u++ [x]:=by simpa using e
     exact by simpa using (List.append_inj' e rfl).2
    subst hx;rw [List.concat_eq_append] at nd kz ⊢;cases a with
    |nil=>simp
    |cons t a=>
     have e1:aK (t::a++y::(b'++ [z])) z=t:=by
      have:=gX (y:=t) (b:=a++y::b') (x:=z) (by simpa using nd)
      simpa using this
     have e2:aK (y::(b'++ [z])++t::a) z=t:=by
      have:=fN (a:=y::b') (x:=z) (y:=t) (b:=a) (by simpa using kz)
      simpa using this
     rw [e1,e2]
theorem xb{l:List Nat}{i:Nat}(nd:l.Nodup)(h:i+1<l.length):aK l (l.getD i 0)=l.getD (i+1) 0:=by
 have e:l.getD i 0=l[i]:=by rw [fW,cK (by omega)];rfl
 unfold aK;rw [e,nd.idxOf_getElem i (by omega),xr h]
section
variable {w:W} {R:List Nat} {A:Nat×Nat→Prop} {v m:Nat} {y:Nat→Nat}
end
end Wb
set_option maxHeartbeats 1000000
namespace Wb
theorem sP{l:List Nat}{v x:Nat}(nd:(v::l).Nodup)(hx:x∈l)(hl:x≠l.getD (l.length-1) 0):aK (v::l) x=aK l x:=by
 obtain ⟨i,hi,rfl⟩:=zg.mp hx;have e:l[i]=l.getD i 0:=by rw [fW,cK hi];rfl
 have vK:i+1<l.length:=by
  apply Classical.byContradiction;intro c;exact hl (by rw [e,show l.length-1=i by omega])
 have h1:=xb (i:=i+1) nd (by simp;omega)
 have h2:=xb (i:=i) (fk.mp nd).2 vK;rw [zi,zi] at h1;rw [e,h1,h2]
section
variable {w w':W} {R:List Nat} {f:Nat}
end
theorem ue{f:Nat→Nat}{x:Nat}:∀{l:List Nat},(∀y∈l,f y=f x→y=x)→(l.map f).idxOf (f x)=l.idxOf x
 | [],_=>rfl
 |a::l,h=>by
  rw [fD,List.idxOf_cons,List.idxOf_cons,ue λy hy=>h y (cn _ hy)]
  by_cases c:a=x
  ·subst c;simp
  ·have:f a≠f x:=λz=>c (h a (b8 ..) z)
   have e1:(f a==f x)=false:=by simpa using this
   have e2:(a==x)=false:=by simpa using c
   rw [e1,e2]
theorem CJ{f:Nat→Nat}{l:List Nat}{x:Nat}(h:∀y∈l,f y=f x→y=x)(hx:x∈l):aK (l.map f) (f x)=f (aK l x):=by
 have e:=iW hx;show (l.map f).getD (((l.map f).idxOf (f x)+1)%(l.map f).length) 0=_;rw [ue h,aP,fW,ck,e];rfl
section
variable {w w':W} {f:Nat→Nat}
open Classical in
end
theorem fA{w:W}{d:Nat×Nat}{k i:Nat}(h:i<k):(walk w d k)[i]? =some (bo w i d):=by
 unfold walk;rw [ck,A6 h];rfl
theorem oW{w:W}{d:Nat×Nat}{k i:Nat}(h:¬i<k):(walk w d k)[i]? =none:=js (by rw [eB];omega)
theorem eE.V1{w:W}(g:Good w){d:Nat×Nat}{r:List (Nat×Nat)}(h:eE w d r)(hd:az w d){m:Nat}(hm:m<r.length):eE w (r.getD m (0,0)) (r.drop m++r.take m):=by
 obtain ⟨k,k0,k1,k2,rfl⟩:=h;rw [eB] at hm;have e:(walk w d k).getD m (0,0)=bo w m d:=by rw [fW,fA hm];rfl
 rw [e];have per:bo w k (bo w m d)=bo w m d:=by rw [←dR,Nat.add_comm,dR,k1]
 refine ⟨k,k0,per,λj j0 jk z=>?_,?_⟩
 ·have:bo w m (bo w j d)=bo w m d:=by rw [←dR,Nat.add_comm,dR,z]
  exact k2 j j0 jk (uh g (dr g hd j) hd m this)
 ·refine vA λi=>?_
  have ll:((walk w d k).drop m).length=k-m:=by rw [sg,eB]
  by_cases h1:i<k-m
  ·rw [j2 (by rw [ll];exact h1),xk,fA (by omega),fA (by omega),←dR,Nat.add_comm]
  ·rw [jr (by rw [ll];omega),ll]
   by_cases h2:i<k
   ·rw [zj,if_pos (by omega),fA (by omega),fA h2,←dR,show i+m=(i-(k-m))+k by omega,dR,k1]
   ·rw [zj,if_neg (by omega),oW (by omega)]
structure zk (w v:W) (f:Nat×Nat→Nat×Nat):Prop where
 dart:∀d,az w d→az v (f d)
 inj:∀d e,az w d→az w e→f d=f e→d=e
 nx:∀d,az w d→bw v (f d)=f (bw w d)
theorem zk.bo{w v:W}{f:Nat×Nat→Nat×Nat}(M:zk w v f)(g:Good w){d:Nat×Nat}(hd:az w d):∀n,Wb.bo v n (f d)=f (Wb.bo w n d)
 |0=>rfl
 |n+1=>by
  show bw v (Wb.bo v n (f d))=f (bw w (Wb.bo w n d));rw [M.bo g hd n,M.nx _ (dr g hd n)]
theorem zk.rnd{w v:W}{f:Nat×Nat→Nat×Nat}(M:zk w v f)(g:Good w){d:Nat×Nat}{r:List (Nat×Nat)}(h:eE w d r)(hd:az w d):eE v (f d) (r.map f):=by
 obtain ⟨k,k0,k1,k2,rfl⟩:=h;refine ⟨k,k0,by rw [M.bo g hd,k1],λj j0 jk z=>?_,?_⟩
 ·rw [M.bo g hd] at z
  exact k2 j j0 jk (M.inj _ _ (dr g hd j) hd z)
 ·unfold walk
  rw [fE];exact List.map_congr_left λi _=>(M.bo g hd i).symm
theorem ko(a b:Nat×Nat):lexLe a b∨lexLe b a:=by unfold lexLe;omega
theorem yq{a b c:Nat×Nat}(h:lexLe a b)(h':lexLe b c):lexLe a c:=by unfold lexLe at*;omega
theorem wJ:∀c:List (Nat×Nat),c≠ []→∃e∈c,∀x∈c,lexLe e x
 | [],h=>absurd rfl h
 | [a],_=>⟨a,by simp,λx hx=>by rw [bN] at hx;subst hx;exact (ko x x).elim id id⟩
 |a::b::c,_=>by
  obtain ⟨e,he,hm⟩:=wJ (b::c) (by simp)
  rcases ko a e with h|h
  ·refine ⟨a,by simp,λx hx=>?_⟩
   rcases bE.mp hx with rfl|hx
   ·exact (ko x x).elim id id
   ·exact yq h (hm x hx)
  ·refine ⟨e,cn _ he,λx hx=>?_⟩
   rcases bE.mp hx with rfl|hx
   ·exact h
   ·exact hm x hx
open Classical in
noncomputable def sA(c:List (Nat×Nat)):Nat:=if h:∃e,e∈c∧∀x∈c,lexLe e x then c.idxOf h.choose else 0
theorem E8{c:List (Nat×Nat)}(h:c≠ []):sA c<c.length∧c.getD (sA c) (0,0)∈c∧(∀x∈c,lexLe (c.getD (sA c) (0,0)) x)∧sA c=c.idxOf (c.getD (sA c) (0,0)):=by
 have hz:∃e,e∈c∧∀x∈c,lexLe e x:=let ⟨e,a,b⟩:=wJ c h;⟨e,a,b⟩;have e1:sA c=c.idxOf hz.choose:=by unfold sA;rw [dif_pos hz]
 have s:=hz.choose_spec;have l:=nU.mpr s.1
 have ge:c.getD (sA c) (0,0)=hz.choose:=by
  rw [e1,fW,cK l];exact se l
 rw [ge,e1];exact ⟨l,s.1,s.2,rfl⟩
noncomputable def zv(c:List (Nat×Nat)):List (Nat×Nat):=c.drop (sA c)++c.take (sA c)
theorem tG(c:List (Nat×Nat)):(zv c).Perm c:=by
 unfold zv
 have:=r9 (l₁:=c.drop (sA c)) (l₂:=c.take (sA c))
 rwa [iY] at this
theorem En{w:W}(g:Good w){d:Nat×Nat}{r:List (Nat×Nat)}(h:eE w d r)(hd:az w d):∃e,eE w e (zv r)∧az w e∧∀x∈zv r,lexLe e x:=by
 have ne:r≠ []:=λz=>by have:=h.first;rw [z] at this;cases this
 obtain ⟨s1,s2,s3,_⟩:=E8 ne;exact ⟨_,h.V1 g hd s1,h.aE g hd _ s2,λx hx=>s3 x ((tG r).mem_iff.mp hx)⟩
theorem nG{α:Type}{f:List α→List α}(h:∀r,(f r).Perm r):∀rs:List (List α),(rs.map f).flatten.Perm rs.flatten
 | []=> .nil
 |r::rs=>by
  rw [fD,j3,j3];exact (h r).append (nG h rs)
theorem zG{w v:W}(g:Good w)(gv:Good v){f:Nat×Nat→Nat×Nat}(dart:∀d,az w d→az v (f d))(inj:∀d e,az w d→az w e→f d=f e→d=e)(sur:∀e,az v e→∃d,az w d∧f d=e):((aE w).map f).Perm (aE v):=by
 refine (mG ?_ (bb gv)).mpr λe=>?_
 ·rw [rY,iZ]
  have:=bb g
  rw [rY] at this;exact List.Pairwise.imp_of_mem (λha hb n z=>n (inj _ _ (aB.mp ha) (aB.mp hb) z)) this
 ·rw [bS,aB]
  exact ⟨λ⟨d,hd,z⟩=>by rw [←z];exact dart d (aB.mp hd),λh=>let ⟨d,hd,z⟩:=sur e h;⟨d,aB.mpr hd,z⟩⟩
structure Be (w v:W) (φ:Nat→Nat):Prop where
 len:v.length=w.length
 lt:∀p,p<w.length→φ p<w.length
 inj:∀p q,p<w.length→q<w.length→φ p=φ q→p=q
 sur:∀y,y<w.length→∃p,p<w.length∧φ p=y
 row:∀p,p<w.length→∃b,Wb.row v (φ p)=((Wb.row w p).map φ).drop b++((Wb.row w p).map φ).take b
theorem Be.mem{w v:W}{φ:Nat→Nat}(N:Be w v φ){p y:Nat}(hp:p<w.length):y∈Wb.row v (φ p)↔y∈(Wb.row w p).map φ:=by
 obtain ⟨b,e⟩:=N.row p hp;rw [e,b9]
 conv=>rhs;rw [←iY b ((Wb.row w p).map φ),b9]
 exact or_comm
theorem Be.dmap{w v:W}{φ:Nat→Nat}(N:Be w v φ)(g:Good w):zk w v (λd=>(φ d.1,φ d.2)):=by
 have mlt:∀d,az w d→d.1<w.length∧d.2<w.length:=λd h=>⟨cf h,g.rng _ _ h⟩;refine ⟨λd h=>?_,λd e hd he z=>?_,λd h=>?_⟩
 ·exact (N.mem (mlt d h).1).mpr (bS.mpr ⟨d.2,h,rfl⟩)
 ·have z1:=(Prod.mk.inj z).1
  have z2:=(Prod.mk.inj z).2;exact Prod.ext (N.inj _ _ (mlt d hd).1 (mlt e he).1 z1) (N.inj _ _ (mlt d hd).2 (mlt e he).2 z2)
 ·obtain ⟨b,e⟩:=N.row d.2 (mlt d h).2
  have hs:d.1∈Wb.row w d.2:=g.sym _ _ h;have Uc:∀y∈Wb.row w d.2,φ y=φ d.1→y=d.1:=λy hy z=>N.inj _ _ (g.rng _ _ hy) (mlt d h).1 z
  have nd:((Wb.row w d.2).map φ).Nodup:=by
   have:=g.nod d.2
   rw [rY] at this ⊢;rw [iZ];exact List.Pairwise.imp_of_mem (λha hb n z=>n (N.inj _ _ (g.rng _ _ ha) (g.rng _ _ hb) z)) this
  have hm:φ d.1∈(Wb.row w d.2).map φ:=bS.mpr ⟨_,hs,rfl⟩;show (φ d.2,aK (Wb.row v (φ d.2)) (φ d.1))=(φ d.2,φ (aK (Wb.row w d.2) d.1));rw [e];have h1:=oT (a:=((Wb.row w d.2).map φ).take b) (b:=((Wb.row w d.2).map φ).drop b) (x:=φ d.1) (by rw [iY];exact nd) (by rw [iY];exact hm)
  rw [h1,iY,CJ Uc hs]
theorem Be.Ww{w v:W}{φ:Nat→Nat}(N:Be w v φ):∀e,az v e→∃d,az w d∧(φ d.1,φ d.2)=e:=λe h=>by
 have l1:=cf h;rw [N.len] at l1;obtain ⟨p,hp,e1⟩:=N.sur e.1 l1;have h:e.2∈Wb.row v e.1:=h;rw [←e1] at h;obtain ⟨q,hq,e2⟩:=bS.mp ((N.mem hp).mp h);exact ⟨(p,q),hq,Prod.ext e1 e2⟩
end Wb
set_option maxHeartbeats 4000000
namespace L2
open PySem PySem.Spec PyProof.Rows
section
variable {X:Cx}
theorem Eo(hc:X.calm=true):cT X (.builtin "any") (λxs H Q=>∃(p:Addr)(bs:List Bool),xs= [.ref p]∧H p=some (.lst (bs.map V.bl))∧Q (.bl (bs.any id)) H):=by
 intro pins s σ H xs us Q I rv h;obtain ⟨p,bs,rfl,hp,q⟩:=h;obtain ⟨u,rfl,ru⟩:=rv.one;cases ru;obtain ⟨its,r,pl,hz⟩:=I.list (aG.of hp);have hl:=r.length;rw [aP] at hl;refine call_any_walk (wpAny_pyIter_list pl.isList ?_)
 have jw:p≠s.heap.objs.size:=by
  obtain ⟨o,ho,_⟩:=pl.isList;exact cm (Heap.lt_size ho)
 have z8:∀i:Nat,i<its.length→∃b,bs[i]? =some b∧its[i]? =some (.bool b):=λi hi=>by
  obtain ⟨b,hb⟩:∃b,bs[i]? =some b:=⟨_,cK (by omega)⟩
  obtain ⟨w,hw,oQ⟩:=r.get (i:=i) (x:= .bl b) (by rw [ck,hb];rfl)
  cases oQ;exact ⟨b,hb,hw⟩
 refine ⟨_,_,_,its.toArray.size,_,_,λi=>bs.getD i false,rfl,Walks.list (show X.A.in1.handled=none from I.ok.hd hc) s.heap.objs.size p jw its.toArray,⟨⟨_,Heap.get?_push_size _ rfl,rfl,rfl⟩,pl.isList.push _⟩,?_,λh' tk kk=>?_⟩
 ·intro i v s Q E hv hq
  have ud:its[i]? =some v:=by simpa using hv
  have hi:i<its.length:=by
   obtain ⟨h1,_⟩:=cu.mp ud;exact h1
  obtain ⟨b,hb,hw⟩:=z8 i hi;rw [hw] at ud;cases ud;refine wpAny_truthy_bool ?_;have zZ:Q (bs.getD i false) s:=hq;rw [fW,hb] at zZ;exact zZ
 ·have kept:∀b o,s.heap.get? b=some o→h'.get? b=some o:=λb o e=>kk b o (by simp;exact cm (Heap.lt_size e)) (Heap.get?_push_of_some _ e)
  have e:(List.range its.toArray.size).any (λi=>bs.getD i false)=bs.any id:=by
   rw [bO,←hl];rw [xt,vq,vq]
   constructor
   ·rintro ⟨i,hi,h⟩
    have eW:=gw.mp hi;rw [fW,cK eW] at h;exact ⟨_,nW eW,h⟩
   ·rintro ⟨x,hx,h⟩
    obtain ⟨i,hi,rfl⟩:=zg.mp hx;refine ⟨i,gw.mpr hi,?_⟩;rw [fW,cK hi];exact h
  rw [e];exact ⟨.bl _,H,I.kept kept,rfl,q⟩
variable {Z:DC}
theorem JT:bootBuiltins "any"=some (.builtin "any"):=by decide+kernel
def QX:fm:=λds P=>∃bs:List Bool,ds= [.lst (bs.map D.bl)]∧P (.bl (bs.any id))
theorem JX(hc:X.calm=true:=by rfl):cT X (.builtin "any") (lO Z QX):=by
 refine (Eo hc).imp ?_;rintro xs H Q ⟨G,ds,P,s,dv,⟨bs,rfl,hp⟩,q⟩;cases dv with
 |cons a as=>
  cases as;cases a with
  |lst h e=>exact ⟨_,bs,rfl,by rw [←Ds e];exact s _ _ h,q _ hp _ G H (.refl s) (.bl _)⟩
end
end L2
namespace Bb
open PySem L2 Wb
variable {P:Program} {w:World} {mg:Str→Option Value} {base:Heap} {Z:DC} (T:Txt Z mg)
theorem Ss{i j:Int}{P:D→Prop}{ρ:DN}(h:P (.bl (decide (i=j)))):dC (.int j) ρ (λb=>N3 (.int i) b P):=tS h
theorem pZ{w:W}{p:Nat}(h:p<w.length):f6 (w.map aZ) (p:Int)=some (aZ (row w p)):=jI (ve h)
theorem Al{ns:List Nat}{p:Nat}(h:p<ns.length):f6 (ns.map aI) (p:Int)=some (aI (ns.getD p 0)):=jI (by rw [ck,fW,cK h];rfl)
theorem EI{g:dJ}{tb:dh}{E:fY}{n:Nat}{ρ:DN}(I:Nat→DN→Prop)(h0:I 0 ρ)(hs:∀(j:Nat)(ρ:DN),j<n→I j ρ→∀A:DN→Prop,(∀ρ,I (j+1) ρ→A ρ)→g (aI j) ρ λbh=>tb {nx:=A,ct:=A,bk:=E.nx,rt:=E.rt} bh)
  (he:∀ρ,I n ρ→E.nx ρ):ji g tb E (gn 0 n) ρ:=Ha I h0 (λj ρ hj h A hA=>by
 have:=hs j ρ hj h A hA
 unfold aI at this;rw [Int.zero_add];exact this) he
theorem Io{f:DN→Prop}{aF:DN}(ρ:DN)(e:aF=ρ)(h:f ρ):f aF:=by rw [e];exact h
theorem yx{x:Nat}:∀(ns:List Nat)(m:Nat),m<ns.idxOf x→ns[m]? ≠some x
 | [],m,h=>by simp at h
 |a::ns,m,h=>by
  rw [List.idxOf_cons] at h
  by_cases e:(a==x)=true
  ·rw [e] at h;simp at h
  ·rw [A8.mpr e] at h
   cases m with
   |zero=>intro z;simp at z;exact e (by simp [z])
   |succ m=>rw [qm];exact yx ns m (by simpa using h)
theorem BV{ns:List Nat}{x:Nat}{P:D→Prop}(h:x∈ns)(q:P (aI (ns.idxOf x))):g7 (aI x)=true∧(ns.map aI).all g7=true∧∃(j:Nat)(z:D),(ns.map aI)[j]? =some z∧jg z (aI x)=true∧(∀(m:Nat) z,m<j→(ns.map aI)[m]? =some z→jg z (aI x)=false)∧P (.int (j:Nat)):=by
 have hl:=nU.mpr h;have e:ns[ns.idxOf x]? =some x:=by rw [cK hl];exact congrArg some (se hl)
 refine ⟨rfl,iE _,ns.idxOf x,aI x,by rw [ck,e];rfl,by simp [jg,aI],λm z hm hz=>?_,q⟩
 obtain ⟨y,hy,rfl⟩:=dA hz
 have:y≠x:=by
  rintro rfl;exact yx _ _ hm hy
 have:¬((y:Int)=(x:Int)):=by omega
 simpa [jg,aI] using this
theorem iz{ns:List Nat}{x:Nat}(h:x∈ns):(ns.map aI)[ns.idxOf x]? =some (aI x)∧jg (aI x) (aI x)=true∧∀(m:Nat) z,m<ns.idxOf x→(ns.map aI)[m]? =some z→jg z (aI x)=false:=by
 have:=BV (P:=λd=>d=aI (ns.idxOf x)) h rfl
 obtain ⟨_,_,j,z,h1,h2,h3,h4⟩:=this;have hl:=nU.mpr h;have e:ns[ns.idxOf x]? =some x:=by rw [cK hl];exact congrArg some (se hl)
 refine ⟨by rw [ck,e];rfl,by simp [jg,aI],λm z hm hz=>?_⟩
 obtain ⟨y,hy,rfl⟩:=dA hz
 have:y≠x:=by
  rintro rfl;exact yx _ _ hm hy
 have:¬((y:Int)=(x:Int)):=by omega
 simpa [jg,aI] using this
variable {P:Program} {w:World} {mg:Str→Option Value} {base:Heap} {Z:DC} (T:Txt Z mg)
theorem qG:∀(w2:W)(o:Option D)(acc:List D)(N:List D→Prop),acc.length+w2.length≤sizeLine→N (acc++w2.map aZ)→HV (mM 0) (GW (Dh 0)) (w2.map aZ) [o] acc N
 | [],o,acc,N,_,h=>by
  show N acc;simpa using h
 |x::xs,o,acc,N,hz,h=>by
  rw [cv] at hz;refine ⟨_,rfl,(by omega:acc.length<sizeLine),?_⟩
  refine qG xs _ (acc++ [aZ x]) N (by simp;omega) ?_
  rw [kU];exact h
theorem Iy:FnOk P w Z.K mg base cw 4 T.i_f T.i_fd ["self","turns"] (AI Z):=by
 have nd:=jY.nd;refine T.i_F.ok jY (λvs H Q E h=>?_) (λbr A outer s H vs Q E hr h=>?_)
 ·obtain ⟨p,dx,v,G,w',rfl,_⟩:=h;rfl
 obtain ⟨p,dx,v,G,w',rfl,hp,sG,gp,dv,g,h1,cF,q⟩:=h;have hu:=hr.units
 refine ⟨_,aD (t:=oG Z [0,0,2,0] 0 _)
   (eF (j9 (EC yD yD aU (cc ix rfl T.B.len iw (af (U 1) ax)) (Ew rfl T.c_MOST_POINTS))) (aw wc) bL)
  (aD (t:=oG Z [0,0,2,0] 0 _)
   (tV 2 (NC:= ["row"]) (src:= [none]) rfl nd (zC (ao dU)) trivial (cO (U 1)) (λ_ _ _=>(dP 0 (show (["row"]:List Str).Nodup from by decide+kernel))) (λ_ _ _=>(zJ rfl rfl T.B.list zu (U 0))))
  (aD (t:=oG Z [0,0,2,0] 0 _)
   (cP true 3 nd (bu T.d_first_fault (sL T) hr (af (U 2) ax)))
  (aD (t:=oG Z [0,0,2,0] 0 _)
   (eF (dj Fl (U 3) gK (bK _)) (aw wc) bL)
  (bg (Lw (pv 0) (pv 2) rfl))))),?_⟩
 have lw:(w'.map aZ).length=w'.length:=aP _;refine ⟨⟨G,H,G⟩,[some (.obj p),some (bJ w'),none,none],{nx:=λρ=>ρ= [some (.obj p),some (bJ w'),none,none],rt:=λ_=>False},⟨G,λ_=> [],?_⟩,?_,⟨?_,λ_ z=>z.elim,λ_ z=>z.elim,λ_ z=>z.elim⟩⟩
 ·refine ⟨.refl sG, .refl _,rfl,λi d hi=>?_,λ_=>ju,(λ_ _ _ _ z=>by cases z),(λ_ _ z=>by cases z)⟩
  match i,hi with
  |0,hi=>cases hi;exact ⟨_,rfl, .obj p,rfl⟩
  |1,hi=>cases hi;exact ⟨_,rfl,dv,rfl⟩
  |2,hi=>cases hi
  |3,hi=>cases hi
  |i+4,hi=>cases hi
 ·have e1:D.bl (decide ((1:Int)≤((w'.map aZ).length:Int)))= .bl true:=congrArg D.bl (decide_eq_true (by rw [lw];omega))
  have e2:D.bl (decide (((w'.map aZ).length:Int)≤14))= .bl true:=congrArg D.bl (decide_eq_true (by rw [lw];omega))
  exact ⟨_,rfl,true,e1,fQ ⟨true,e2,dq rfl⟩⟩
 rintro _ rfl C5 H1 S1;refine ⟨⟨G,H,G⟩,_,{nx:=λρ=>ρ= [some (.obj p),some (bJ w'),some (bJ w'),none],rt:=λ_=>False},S1,?_,⟨?_,λ_ z=>z.elim,λ_ z=>z.elim,λ_ z=>z.elim⟩⟩
 ·exact ⟨_,rfl,qG w' none [] _ (by rw [xw,qr];exact small (by omega)) rfl⟩
 rintro _ rfl cy H2 S2;refine ⟨⟨G,H,G⟩,_,{nx:=λρ=>ρ= [some (.obj p),some (bJ w'),some (bJ w'),some .aL],rt:=λ_=>False},S2,?_,⟨?_,λ_ z=>z.elim,λ_ z=>z.elim,λ_ z=>z.elim⟩⟩
 ·exact ⟨_,rfl,w',rfl,g,h1,cF,rfl,rfl⟩
 rintro _ rfl sQ H3 S3;refine ⟨⟨G,H,G⟩,_,{nx:=λρ=>ρ= [some (.obj p),some (bJ w'),some (bJ w'),some .aL],rt:=λ_=>False},S3,?_,⟨?_,λ_ z=>z.elim,λ_ z=>z.elim,λ_ z=>z.elim⟩⟩
 ·exact ⟨_,rfl,_,rfl,dq rfl⟩
 rintro _ rfl cS H4 ⟨G4,fp,S4⟩;obtain ⟨v0,i9,o0⟩:=S4.at_ 0 _ rfl;obtain ⟨v2,ZF,o2⟩:=S4.at_ 2 _ rfl;obtain ⟨d0,_⟩:=o0;cases d0;have n2:=S4.nw 2;generalize hf:fp 2=f at o2 n2;obtain ⟨R,ys,GF,eV,rfl,e0,hR,hf2,ol⟩:=Own.lst o2;have Zu:=S4.ex.hh _ _ hp
 have Ys:∀b∈f,b≠p:=λb hb z=>by
  have h1:H b=none:=(n2 b hb).1;rw [z,hp] at h1;cases h1
 refine ⟨_,ZF,_,i9,p,Z.C,dx,[],rfl,Zu,T.W.cl,T.W.nR,by decide,?_⟩
 exact q R f _ (λb o eb nb=>by rw [ab nb];exact S4.ex.hh _ _ eb) aa (λGx=>IG (o2.keep (.refl _) λb hb=>ab (Ys b hb))) λb hb=>(n2 b hb).1
variable {P:Program} {w:World} {mg:Str→Option Value} {base:Heap} {Z:DC} (T:Txt Z mg)
def oM(k:Nat×Nat):PyData:= .tuple [nD k.1,nD k.2]
theorem Ja(k:Nat×Nat):(pairD k).py=some (oM k):=by
 unfold pairD;rw [D.py,gm,gm,gm];rfl
theorem wg(a b:Nat×Nat):PyData.eqv (oM a) (oM b)=true↔a=b:=by
 unfold oM nD;simp [PyData.eqv,PyData.eqvAll]
 constructor
 ·rintro ⟨h1,h2⟩;exact Prod.ext (by omega) (by omega)
 ·rintro rfl;exact ⟨rfl,rfl⟩
def zz(d:Nat×Nat):Int×Int:=(d.1,d.2)
theorem L8{a b:Nat×Nat}(h:zz a=zz b):a=b:=Prod.ext (by have:=(Prod.mk.inj h).1;omega) (by have:=(Prod.mk.inj h).2;omega)
theorem sZ{d:Nat×Nat}{l:List (Nat×Nat)}:zz d∈l.map zz↔d∈l:=by
 rw [bS];exact ⟨λ⟨a,ha,e⟩=>by rw [←L8 e];exact ha,λh=>⟨d,h,rfl⟩⟩
def LP:fm:=λds P=>∃(w:W),ds= [.fV w]∧Good w∧w.length≤14∧∀ts:List (Nat×Nat),ts.Perm (iC (row w) w.length)→ts.Pairwise lexLe→P (.lst (ts.map pairD))
theorem MT{g:dJ}{gr:il}{g1:dJ}{eO:dG}{te:ba}{α β γ:Type}(I:DN→Prop)(J:α→DN→Prop)(enc:α→D)(f:α→List β)(Dw:β→D)(p:α→β→Bool)(k:α→β→γ)(lD:γ→D)(JI:∀y ρ,J y ρ→I ρ):∀(ys:List α)(aF:DN)(acc:List γ)(P:List D→Prop),
  (∀y∈ys,∀aF,I aF→∀(Y:DN→List D→Prop),(∀bh,J y bh→Y bh ((f y).map Dw))→g (enc y) aF λbh=>gr bh (Y bh))→
  (∀y∈ys,∀b∈f y,∀aF,J y aF→∀(Y:DN→D→Prop)(Nn:DN→Prop),(∀bh,J y bh→p y b=true→Y bh (lD (k y b)))→(∀bh,J y bh→p y b=false→Nn bh)→g1 (Dw b) aF λbh=>eO bh λc=>if c=true then te bh (Y bh) else Nn bh)→
  I aF→acc.length+(ys.flatMap λy=>((f y).filter (p y)).map (k y)).length≤sizeLine→(∀y∈ys,acc.length+(ys.flatMap λy=>((f y).filter (p y)).map (k y)).length+(f y).length≤sizeLine)→P ((acc++ys.flatMap λy=>((f y).filter (p y)).map (k y)).map lD)→nI g rm gr g1 eO te (ys.map enc) aF (acc.map lD) P
 | [],aF,acc,P,_,_,hI,_,_,h=>by
  show P (acc.map lD);simpa using h
 |y::ys,aF,acc,P,h1,h2,hI,hz,hy,h=>by
  have ZL:=hy y (b8 ..);rw [xm,dX] at hz ZL;refine h1 y (b8 ..) aF hI (λbh es=>lcW g1 eO te es bh (acc.map lD) λdF tx=>nI g rm gr g1 eO te (ys.map enc) dF tx P) λbh YK=>?_;refine pM (J y) Dw (p y) (λb=>lD (k y b)) (f y) bh (acc.map lD) _ (λb hb dF OA Y Nn hY hN=>?_) YK (by rw [aP];omega) λdF OA=>?_
  ·exact h2 y (b8 ..) b hb dF OA Y Nn hY hN
  ·have e:acc.map lD++((f y).filter (p y)).map (λb=>lD (k y b))=(acc++((f y).filter (p y)).map (k y)).map lD:=by rw [dW,fE];rfl
   rw [e];refine MT I J enc f Dw p k lD JI ys dF (acc++((f y).filter (p y)).map (k y)) P (λz hz=>h1 z (cn _ hz)) (λz hz=>h2 z (cn _ hz)) (JI y dF OA) (by rw [dX];omega) (λz hz=>?_) ?_
   ·have:=hy z (cn _ hz)
    rw [xm,dX] at this;rw [dX];omega
   ·rw [xm] at h
    rw [kU];exact h
theorem kA:FnOk P w Z.K mg base cw 1 T.m_ties.f T.m_ties.fd ["self"] (aX Z LP):=by
 have nd:=p9.nd;refine bM T.m_ties.F p9 [0] (by decide) (λds R h=>by obtain ⟨_,rfl,_⟩:=h;rfl) (λbr A outer s H E ds R hr h=>?_)
 have hu:=hr.units;refine ⟨_,(aw (bA (cc v5 rfl T.B.sorted n4 (af (J7 (NC:= ["p","row","q"]) (src:= [none,none,none]) rfl (zC (ao jn)) trivial (gP rfl T.B.enumerate (af (tT T.W (U 0)) ax)) (λ_ _ _=>(xN 2 rfl (iD (dP 0 (show (["p","row","q"]:List Str).Nodup from by decide+kernel)) (iD (dP 1 (show (["p","row","q"]:List Str).Nodup from by decide+kernel)) tU)))) (λ_ _ _=>jL) (λ_ _ _=>(cO (U 1))) (λ_ _ _=>(dP 2 (show (["p","row","q"]:List Str).Nodup from by decide+kernel))) (λ_ _ _=>(GO (dj Iq (U 0) (U 2) (bK _)))) (λ_ _ _=>(eH (af (U 0) (af (U 2) ax))))) ax)))),?_⟩
 obtain ⟨w',rfl,g,cF,q⟩:=h
 have ee:f9 (w'.map aZ)=(List.range w'.length).map λ(j:Nat)=>D.tup [.int (j:Int),aZ (row w' j)]:=by
  refine vA λj=>?_;rw [ck]
  by_cases lt:j<w'.length
  ·rw [A6 lt]
   cases e:(f9 (w'.map aZ))[j]? with
   |none=>
    have:=List.getElem?_eq_none_iff.mp e
    rw [n9,aP] at this;omega
   |some d=>rw [(AU e).2];rfl
  ·rw [js (by rw [n9,aP];omega),js (by rw [vz];omega)];rfl
 have tb:((List.range w'.length).flatMap λp=>((row w' p).filter λq=>decide (p<q)).map λq=>(p,q))=iC (row w') w'.length:=rfl
 have fl:∀n,n≤w'.length→(iC (row w') n).length≤n*14:=λn=>by
  induction n with
  |zero=>intro _;exact aV _
  |succ n ih=>
   intro h
   have:=ih (by omega)
   have h2:=eY g n;have h3:=List.length_filter_le (λq=>decide (n<q)) (row w' n);unfold iC at this ⊢;rw [List.range_succ,List.flatMap_append,dX];simp only [xm,List.flatMap_nil,j4,aP];omega
 have fl0:=fl w'.length (aV _);refine ⟨_,rfl,w',rfl,?_⟩;refine (?_:nI _ _ _ _ _ _ (f9 (w'.map aZ)) _ _ _);rw [ee];refine MT (λρ=>∃o0 o1 o2,ρ= [o0,o1,o2]) (λp ρ=>∃o2,ρ= [some (aI p),some (aZ (row w' p)),o2]) _ (λp=>row w' p) aI (λp q=>decide (p<q)) (λp q=>(p,q)) pairD (λy ρ ⟨o2,e⟩=>⟨_,_,_,e⟩) (List.range w'.length) _ [] _ (λp hp aF hI Y hY=>?_) (λp hp b hb aF hI Y Nn hY hN=>?_) ⟨none,none,none,rfl⟩ ?_ (λp hp=>?_) ?_
 ·obtain ⟨o0,o1,o2,rfl⟩:=hI
  exact ⟨rfl,rfl,_,rfl,hY _ ⟨_,rfl⟩⟩
 ·obtain ⟨o2,rfl⟩:=hI
  refine ⟨_,rfl,_,rfl,_,rfl,?_⟩;refine (?_:if decide ((p:Int)<(b:Int))=true then _ else _);rw [show decide ((p:Int)<(b:Int))=decide (p<b) from decide_eq_decide.mpr (by omega)]
  exact kh (λe=>⟨_,rfl,_,rfl,by show 2≤sizeLine;decide,hY _ ⟨_,rfl⟩ e⟩) (λe=>hN _ ⟨_,rfl⟩ e)
 ·rw [tb,xw,qr];exact small (by omega)
 ·have:=eY g p
  rw [tb,xw,qr];exact small (by omega)
 ·rw [tb,xv]
  exact ⟨_,rfl,by omega,q⟩
def FJ:fm:=λds P=>∃(w:W)(p q:Nat),ds= [.fV w,aI p,aI q]∧Good w∧q∈row w p∧P (aI (aK (row w p) q))
theorem lS:FnOk P w Z.K mg base cw 1 T.m_behind.f T.m_behind.fd ["self","p","q"] (aX Z FJ):=by
 have nd:=ml.nd;refine bM T.m_behind.F ml [0,0,0,0] (by decide) (λds R h=>by obtain ⟨_,_,_,rfl,_⟩:=h;rfl) (λbr A outer s H E ds R hr h=>?_)
 have hu:=hr.units
 refine ⟨_,(au (cP false 3 nd (fG (tT T.W (U 0)) (U 1)))
   (aw (bA (fG (U 3) (f7 yE (f7 gO (wa (U 3) (U 2)) aU) (cc ix rfl T.B.len iw (af (U 3) ax))))))),?_⟩
 obtain ⟨w',p,q',rfl,g,hq,q⟩:=h;have hp:=cf hq;have rl:=eY g p;have lr:((row w' p).map aI).length=(row w' p).length:=aP _;have pos:0<(row w' p).length:=rZ hq;have e0:(0:Int)<(((row w' p).map aI).length:Int):=by rw [lr];omega
 refine ⟨_,rfl,w',rfl,_,rfl,_,pZ hp,trivial,?_⟩;refine ⟨_,rfl,_,rfl,_,rfl,_,rfl,rfl,iE _,_,_,(iz hq).1,(iz hq).2.1,(iz hq).2.2,?_⟩;refine ⟨_,rfl,e0,?_⟩;have em:(((row w' p).idxOf q':Nat):Int)+1=(((row w' p).idxOf q'+1:Nat):Int):=by omega
 have et:((((row w' p).idxOf q':Nat):Int)+1)%(((row w' p).map aI).length:Int)=((((row w' p).idxOf q'+1)%(row w' p).length:Nat):Int):=by rw [lr,em,Int.natCast_emod]
 refine ⟨aI (aK (row w' p) q'),?_,q⟩;show f6 ((row w' p).map aI) ((λi j=>i%j) _ _)=_;dsimp only;rw [et];exact Al (Nat.mod_lt _ pos)
theorem v9{a b:Nat×Nat}{P:D→Prop}(h:P (.bl (!decide (a=b)))):Gk (pairD a) (pairD b) P:=by
 refine ⟨_,_,Ja a,Ja b,by unfold oM nD;simp [PyData.depth,PyData.depthAll],?_⟩
 have:PyData.eqv (oM a) (oM b)=decide (a=b):=by
  by_cases e:a=b
  ·rw [decide_eq_true e];exact (wg a b).mpr e
  ·rw [decide_eq_false e]
   apply A8.mpr;exact λz=>e ((wg a b).mp z)
 rw [if_pos rfl,this];exact h
def u0:fm:=λds P=>∃(w:W)(d:Nat×Nat),ds= [.fV w,pairD d]∧Good w∧w.length≤14∧az w d∧∀r,eE w d r→P (.lst (r.map pairD))
theorem uG:FnOk P w Z.K mg base cw 2 T.d_round_from.f T.d_round_from.fd ["web","side"] (aX Z u0):=by
 have nd:=mq.nd;refine bM T.d_round_from.F mq [0,0,1,0,0] (by decide) (λds R h=>by obtain ⟨_,_,rfl,_⟩:=h;rfl) (λbr A outer s H E ds R hr h=>?_)
 have hu:=hr.units
 refine ⟨_,(au (sS 2 nd (pA (af (U 1) ax)))
   (au (xP (U 1) (gL 2 rfl (aY (aO 3 nd) (aY (aO 4 nd) dY))))
   (au (Dr 3 4 rfl nd (af (U 4) (af (zH T.W (U 0) T.m_behind.m (lS T) (hr.mono (by decide)) T.m_behind.b (af (U 4) (af (U 3) ax))) ax)))
   (au (qB PassesOwn.never (dj (yF hu) (eH (af (U 3) (af (U 4) ax))) (U 1) (bK _)) (au (xO false 2 (eH (af (U 3) (af (U 4) ax))))
   (aw (Dr 3 4 rfl nd (af (U 4) (af (zH T.W (U 0) T.m_behind.m (lS T) (hr.mono (by decide)) T.m_behind.b (af (U 4) (af (U 3) ax))) ax))))))
   (aw (bA (U 2))))))),?_⟩
 obtain ⟨w',d,rfl,g,cF,hd,q⟩:=h;have c1:=gG g;have c2:w'.length*w'.length≤14*14:=rf cF cF;refine ⟨_,rfl,by show 1≤sizeLine;decide,?_⟩
 refine ⟨_,rfl,rfl,rfl,?_⟩;refine ⟨_,rfl,_,rfl,w',rfl,_,rfl,_,rfl,w',d.2,d.1,rfl,g,g.sym _ _ hd,_,_,rfl,?_⟩;refine oY (λm ρ=>∃k,0<k∧m+k=(aE w').length+1∧(∀j,0<j→j<k→bo w' j d≠d)∧ρ= [some (.fV w'),some (pairD d),some (.lst ((walk w' d k).map pairD)),some (aI (bo w' k d).1),some (aI (bo w' k d).2)]) (aE w').length ⟨1,by omega,rfl,λj h1 h2=>by omega,rfl⟩ ?_
 rintro m _ ⟨k,k0,hm,hk,rfl⟩;have OK:=dr g hd k;refine ⟨_,rfl,_,rfl,by show 2≤sizeLine;decide,_,rfl,?_⟩
 refine (?_:Gk (pairD (bo w' k d)) (pairD d) _);refine v9 ⟨_,rfl,kh (λe=>?_) (λe=>?_)⟩
 ·have ne:bo w' k d≠d:=by simpa using e
  have lt:k<(aE w').length:=by
   have:=qi g hd (k:=k+1) λj h1 h2=>by
    by_cases c:j=k
    ·subst c;exact ne
    ·exact hk j h1 (by omega)
   omega
  refine ⟨_,rfl,_,rfl,_,rfl,by show 2≤sizeLine;decide,trivial,bq (by rw [aP,eB];omega),?_⟩
  refine ⟨_,rfl,_,rfl,w',rfl,_,rfl,_,rfl,w',(bo w' k d).2,(bo w' k d).1,rfl,g,g.sym _ _ OK,_,_,rfl,?_⟩;refine ⟨m-1,by omega,k+1,by omega,by omega,λj h1 h2=>?_,?_⟩
  ·by_cases c:j=k
   ·subst c;exact ne
   ·exact hk j h1 (by omega)
  ·rw [oX,dW];rfl
 ·have e:bo w' k d=d:=by simpa using e
  exact ⟨_,rfl,q _ ⟨k,k0,e,hk,rfl⟩⟩
def sU(rs:List (List (Nat×Nat))):D:= .lst ((rs.map λr=>r.map (·.1)).map aZ)
def Ju:fm:=λds P=>∃(w:W),ds= [.fV w]∧Good w∧1≤w.length∧w.length≤14∧(w.length=1→P (.lst [aZ [0]]))∧(2≤w.length→∀rs,bT w rs→jz w=h8 rs→P (.lst ((jz w).map aZ)))
theorem E6{l:List (Nat×Nat)}{d:Nat×Nat}(h:d∉l):z4 (l.map zz) (zz d)=(l++ [d]).map zz:=by
 unfold z4;rw [if_neg (λz=>h (sZ.mp z)),dW];rfl
theorem Cf:FnOk P w Z.K mg base cw 3 T.d_lands.f T.d_lands.fd ["web"] (uw Z 2 Ju):=by
 have nd:=xa.nd;refine wq 2 T.d_lands.F xa [0,98,2,0,0,0] (by decide) (λds R h=>by obtain ⟨_,rfl,_⟩:=h;rfl) (λbr A outer s H E ds R hr h=>?_)
 have hu:=hr.units
 refine ⟨_,(au (eF (dj (yB hu) (jJ T.W (U 0) T.m_many.m (pS T) (hr.mono (by decide)) T.m_many.b) aU (bK _)) (aw (GK (Kc (pA (af aU ax))))) bL)
   (au (EB 1 nd rfl T.x_set)
   (au (sS 2 nd (Gz 1))
   (au (eJ rfl PassesOwn.never (cO (cc v5 rfl T.B.sorted n4 (af (f7 gO (jJ T.W (U 0) T.m_ties.m (kA T) (hr.mono (by decide)) T.m_ties.b) (Bp (NC:= ["a","b"]) (src:= [none,none]) rfl (zC (ao mj)) trivial (cO (jJ T.W (U 0) T.m_ties.m (kA T) (hr.mono (by decide)) T.m_ties.b)) (λ_ _ _=>(xN 2 rfl (iD (dP 0 (show (["a","b"]:List Str).Nodup from by decide+kernel)) (iD (dP 1 (show (["a","b"]:List Str).Nodup from by decide+kernel)) tU)))) (λ_ _ _=>jL) (λ_ _ _=>(eH (af (U 1) (af (U 0) ax)))))) ax))) (aO 3 nd) (aw (eF (dj (Cc hu) (U 3) (U 1) (by with_unfolding_all rfl)) (au (cP false 4 nd (bu T.d_round_from (uG T) hr (af (U 0) (af (U 3) ax))))
   (au (eJ rfl PassesOwn.never (cO (U 4)) (aO 5 nd) (aw (GG false 1 hu (U 5))))
   (aw (wb 2 (Oa (NC:= ["p","q"]) (src:= [none,none]) rfl (zC (ao mj)) trivial (cO (U 4)) (λ_ _ _=>(xN 2 rfl (iD (dP 0 (show (["p","q"]:List Str).Nodup from by decide+kernel)) (iD (dP 1 (show (["p","q"]:List Str).Nodup from by decide+kernel)) tU)))) (λ_ _ _=>jL) (λ_ _ _=>(U 0))))))) bL)))
   (aw (Br 2 hu rfl T.B.sorted)))))),?_⟩
 obtain ⟨w',rfl,g,h1,cF,q1,q2⟩:=h;have c1:=gG g;have c2:w'.length*w'.length≤14*14:=rf cF cF;have lw:(w'.map aZ).length=w'.length:=aP _;refine ⟨_,rfl,w',rfl,w',rfl,?_⟩;refine Ss ⟨_,rfl,kh (λe=>?_) (λe=>?_)⟩
 ·have e:w'.length=1:=by have:=of_decide_eq_true e;omega
  exact ⟨by show 1≤sizeLine;decide,q1 e⟩
 have n2:2≤w'.length:=by have:=of_decide_eq_false e;omega
 refine ⟨by show 0≤sizeLine;decide,?_⟩
 refine ⟨_,rfl,w',rfl,w',rfl,g,cF,λts pm yW=>?_⟩;have tl:=CO g;rw [←j8] at tl;have tl2:=pm.length_eq;refine ⟨_,rfl,w',rfl,w',rfl,g,cF,λAO Ls Nk=>?_⟩;have e2:AO=ts:=List.Perm.eq_of_pairwise (λ_ _ _ _=>qJ) Nk yW (Ls.trans pm.symm);subst e2;refine pM (λρ=>∃o0 o1,ρ= [o0,o1]) pairD (λ_=>true) (λt=>pairD (t.2,t.1)) AO _ [] _ (λt ht aF hI Y Nn hY hN=>?_) ⟨none,none,rfl⟩ (by rw [xw,qr];exact small (by omega)) λaF hI=>?_
 ·obtain ⟨o0,o1,rfl⟩:=hI
  exact ⟨rfl,rfl,Nr ⟨_,rfl,_,rfl,by show 2≤sizeLine;decide,hY _ ⟨_,_,rfl⟩ rfl⟩⟩
 have pd:=tM g pm;have pl:=pd.length_eq;rw [dX,aP] at pl;have ef:AO.filter (λ_=>true)=AO:=by simp
 rw [xv,ef];refine ⟨by rw [aP,aP];exact small (by omega),?_⟩
 have ej:(.lst (AO.map pairD++AO.map λt=>pairD (t.2,t.1)):D)= .lst ((AO++AO.map λt=>(t.2,t.1)).map pairD):=by rw [dW,fE];rfl
 dsimp only [zE];rw [ej];refine ⟨_,rfl,by rw [dX,aP];omega,λds Lv Wt=>?_⟩
 have Lv:=Lv.trans pd;have all:∀e,az w' e→e∈ds:=λe h=>Lv.mem_iff.mpr (aB.mpr h);have dart:∀e∈ds,az w' e:=λe h=>aB.mp (Lv.mem_iff.mp h);clear pm Ls yW Nk ej pd ef;refine cE (λi ρ=>∃(rs:List (List (Nat×Nat)))(o3 o4 o5:Option D),ρ= [some (.fV w'),some (.x (.pY (fF w) (rs.flatten.map zz))),some (sU rs),o3,o4,o5]∧Wk w' ds i rs) ⟨[],none,none,none,rfl,Wk.zero w' ds⟩ ?_ ?_
 ·rintro i d _ hd ⟨rs,o3,o4,o5,rfl,hw⟩ A hA
  obtain ⟨e,he,rfl⟩:=dA hd;have de:=dart e (di he);refine ⟨_,rfl,_,rfl,zz e,rs.flatten.map zz,rfl,rfl,_,rfl,?_⟩;refine (?_:if (if true=true then !decide (zz e∈rs.flatten.map zz) else _)=true then _ else _);rw [if_pos rfl,show decide (zz e∈rs.flatten.map zz)=decide (e∈rs.flatten) from decide_eq_decide.mpr sZ]
  have sub:∀x∈rs.flatten,x∈aE w':=λx hx=>by
   obtain ⟨r,hr,Pe⟩:=kX.mp hx;obtain ⟨d,R,dd,_⟩:=hw.rnd r hr;exact aB.mpr (R.aE g dd x Pe)
  have fl:=aT hw.nod sub;refine kh (λc=>?_) (λc=>?_)
  ·have c:e∉rs.flatten:=by simpa using c
   refine ⟨_,rfl,_,rfl,w',e,rfl,g,cF,de,λr R=>⟨trivial,?_⟩⟩;have T4:=hw.take g all dart Wt he c R;have rd:∀x∈r,x∈aE w':=λx hx=>aB.mpr (R.aE g de x hx);have rl:=aT (R.nodup g de) rd;have Pr:(rs.flatten++r).Nodup:=by have:=T4.nod;rw [vy] at this;simpa using this
   have Oq:(rs.flatten++r).length≤(aE w').length:=aT Pr λx hx=>(b9.mp hx).elim (sub x) (rd x);rw [dX] at Oq;refine ⟨_,rfl,?_⟩;refine cE (λk ρ=>∃o5,ρ= [some (.fV w'),some (.x (.pY (fF w) ((rs.flatten++r.take k).map zz))),some (sU rs),some (pairD e),some (.lst (r.map pairD)),o5]) ⟨o5,by rw [xy,j4];rfl⟩ ?_ ?_
   ·rintro k d _ hd ⟨o5,rfl⟩ A hA
    obtain ⟨x,hx,rfl⟩:=dA hd;have hk:=(cu.mp hx).1;have tk:r.take (k+1)=r.take k++ [x]:=by rw [List.take_succ,hx];rfl
    have nx:x∉rs.flatten++r.take k:=λz=>by
     have sp:rs.flatten++r=(rs.flatten++r.take k)++(x::r.drop (k+1)):=by
      rw [kU,←cu.mp hx|>.2,List.getElem_cons_drop,iY]
     rw [sp] at Pr;exact (b7.mp Pr).2.2 x z x (b8 ..) rfl
    refine ⟨_,rfl,_,rfl,zz x,rfl,by rw [aP,dX,jt];omega,?_⟩
    rw [E6 nx,kU,←tk];exact hA _ ⟨_,rfl⟩
   ·rintro _ ⟨o5,rfl⟩
    rw [aP,List.take_length]
    have dl:rs.length≤300:=by
     have h:∀eZ:List (List (Nat×Nat)),(∀r∈eZ,r≠ [])→eZ.length≤eZ.flatten.length:=λeZ=>by
      induction eZ with
      |nil=>intro _;exact aV _
      |cons a l ih=>
       intro h;have h1:=A7.mpr (h a (b8 ..));have h2:=ih λr hr=>h r (cn _ hr);rw [j3,dX,cv];omega
     have:=h rs λr hr z=>by
      obtain ⟨d,R,_,_⟩:=hw.rnd r hr
      have:=R.first
      rw [z] at this;cases this
     omega
    refine ⟨_,rfl,_,rfl,?_⟩;refine pM (λρ=>∃o0 o1,ρ= [o0,o1]) pairD (λ_=>true) (λt=>aI t.1) r _ [] _ (λt ht aF hI Y Nn hY hN=>?_) ⟨none,none,rfl⟩ (by rw [xw,qr];exact small (by omega)) λaF hI=>?_
    ·obtain ⟨o0,o1,rfl⟩:=hI
     exact ⟨rfl,rfl,Nr ⟨_,rfl,hY _ ⟨_,_,rfl⟩ rfl⟩⟩
    rw [xv,show r.filter (λ_=>true)=r by simp]
    refine ⟨bq (by rw [aP,aP];omega),?_⟩
    refine hA _ ⟨rs++ [r],some (pairD e),some (.lst (r.map pairD)),o5,?_,T4⟩
    have e1:sU (rs++ [r])= .lst ((rs.map λr=>r.map (·.1)).map aZ++ [.lst (r.map λt=>aI t.1)]):=by
     unfold sU aZ;rw [dW,dW];simp only [fD,List.map_nil,fE];rfl
    rw [e1,vy,show [r].flatten=r by simp];rfl
  ·have c:e∈rs.flatten:=by simpa using c
   exact hA _ ⟨rs,_,_,_,rfl,hw.skip he c⟩
 ·rintro _ ⟨rs,o3,o4,o5,rfl,hw⟩
  have hw:Wk w' ds ds.length rs:=by rw [aP] at hw;exact hw
  have fin:=hw.fin g all;have R:bT w' rs:=⟨hw.rnd,fin⟩
  have dl:rs.length≤300:=by
   have h:∀eZ:List (List (Nat×Nat)),(∀r∈eZ,r≠ [])→eZ.length≤eZ.flatten.length:=λeZ=>by
    induction eZ with
    |nil=>intro _;exact aV _
    |cons a l ih=>
     intro h;have h1:=A7.mpr (h a (b8 ..));have h2:=ih λr hr=>h r (cn _ hr);rw [j3,dX,cv];omega
   have:=h rs λr hr z=>by
    obtain ⟨d,R,_,_⟩:=hw.rnd r hr
    have:=R.first
    rw [z] at this;cases this
   have:=fin.length_eq
   omega
  refine ⟨rs.map (λr=>r.map (·.1)),rfl,by rw [aP];omega,λM pm yW=>?_⟩
  obtain ⟨eZ,p',rfl⟩:=L2.iA (λr:List (Nat×Nat)=>r.map (·.1)) M rs pm;have R':=R.Iu p';have e:=E9 g R' yW
  have:=q2 n2 eZ R' e
  rw [e] at this;exact this
end Bb
namespace tq
open PySem L2
def top(i:Nat):Stmt:=PySem.Challenge.pw_mapdye_k14_counted.main.body.getD i (.Pass ⟨0,0,0,0⟩)
abbrev uR:Stmt:=top 25
abbrev sW:Stmt:=top 26
abbrev uS:Stmt:=top 27
abbrev qY:Stmt:=top 28
def LM(K:PySem.W.Frag):Sp:=λvs H Q _=>∃(a:Addr)(ns:List Int)(k:Int),vs= [.ref a, .int k]∧aG K H a (ns.map V.int)∧ns.length≤63∧0≤k∧k≤100∧∀(v:Int)(H':Hp),aC H H'→Q (.int v) H'
section
variable {P:Program} {w:World} {K:PySem.W.Frag} {mg:Str→Option Value} {base:Heap}
theorem LJ:aJ ["_law_script","_law_k"] ["_law_script","_law_k"] (ao uR):=⟨rfl,rfl,rfl,by decide+kernel,rfl,by decide+kernel,by decide+kernel⟩
theorem uE(D:bP K mg "_law_cell" uR ["_law_script","_law_k"]):FnOk P w K mg base cw 1 D.f D.fd ["_law_script","_law_k"] (LM K):=by
 refine D.F.ok LJ (λvs H Q E h=>?_) (λbr A outer s H vs Q E hr h=>?_)
 ·obtain ⟨a,ns,k,rfl,_⟩:=h
  rfl
 obtain ⟨a,ns,k,rfl,hS,oj,h0,h1,q⟩:=h;refine ⟨_,bg (fh (bY bp (bZ yM (mX qd (pv 0) (lU (pv 1)) (lU (bZ gh (pv 1) aM))) (dN (ae aM ar))) aM (λ_ _=>rfl))),?_⟩;refine ⟨_,rfl,_,rfl,k,rfl,_,rfl,_,_,rfl,rfl,_,rfl,a,_,rfl,hS,λp hp=>?_⟩;refine ⟨by show 1≤sizeLine;decide,λp2 Kv=>?_⟩
 have ne:p≠p2:=ah (aa (H:=H) (a:=p)) Kv;have hlen:=j7 (ns.map V.int) (some k) (some (k+1));rw [aP] at hlen;refine ⟨p,p2,_,_,rfl,rfl,by rw [ab ne];exact aa,aa,small (by show _+1≤1000;omega),λp3 Zt=>?_⟩
 have sm:aC H (upd (upd (upd H p (.lst (gy (ns.map V.int) (some k) (some (k+1))))) p2 (.lst [.int 0])) p3 (.lst (gy (ns.map V.int) (some k) (some (k+1))++ [.int 0]))):=
  (ay hp _).trans ((ay Kv _).trans (ay Zt _))
 have hint:∃v:Int,f6 (gy (ns.map V.int) (some k) (some (k+1))++ [V.int 0]) 0=some (.int v):=by
  have:∀x∈gy (ns.map V.int) (some k) (some (k+1))++ [V.int 0],∃v,x=V.int v:=λx hx=>by
   rcases b9.mp hx with z|z
   ·unfold gy at z
    obtain ⟨v,_,rfl⟩:=bS.mp (List.mem_of_mem_drop (List.mem_of_mem_take z));exact ⟨v,rfl⟩
   ·exact ⟨0,by simpa using z⟩
  cases e:gy (ns.map V.int) (some k) (some (k+1))++ [V.int 0] with
  |nil=>simp at e
  |cons x r=>
   obtain ⟨v,rfl⟩:=this x (by rw [e];exact b8)
   exact ⟨v,bW (j:=0) rfl⟩
 obtain ⟨v,hv⟩:=hint;exact ⟨p3,_,0, .int v,rfl,rfl,aG.of aa,hv,q v _ sm⟩
end
theorem boot_max:bootBuiltins "max"=some (.builtin "max"):=by decide+kernel
theorem boot_min:bootBuiltins "min"=some (.builtin "min"):=by decide+kernel
def Jv(K:PySem.W.Frag):Sp:=λvs H Q _=>∃(a:Addr)(ns:List Int)(k:Int),vs= [.ref a, .int k]∧aG K H a (ns.map V.int)∧ns.length≤63∧∀(v:Int)(H':Hp),aC H H'→Q (.int v) H'
structure vC (mg:Str→Option Value):Prop where
 len:mg "len"=none
 range:mg "range"=none
 max:mg "max"=none
 min:mg "min"=none
 enumerate:mg "enumerate"=none
 zip:mg "zip"=none
 sorted:mg "sorted"=none
 all:mg "all"=none
 isinstance:mg "isinstance"=none
 int:mg "int"=none
 bool:mg "bool"=none
 list:mg "list"=none
 tuple:mg "tuple"=none
section
variable {P:Program} {w:World} {K:PySem.W.Frag} {mg:Str→Option Value} {base:Heap}
theorem AD:aJ ["_law_script","_law_turn","_law_number","_law_k","_law_part"] ["_law_script","_law_turn"] (ao sW):=⟨rfl,rfl,rfl,by decide+kernel,rfl,by decide+kernel,by decide+kernel⟩
theorem Fn(B:vC mg)(C:bP K mg "_law_cell" uR ["_law_script","_law_k"])(D:bP K mg "_law_mixed" sW ["_law_script","_law_turn"]):FnOk P w K mg base cw 2 D.f D.fd ["_law_script","_law_turn"] (Jv K):=by
 refine D.F.ok AD (λvs H Q E h=>?_) (λbr A outer s H vs Q E hr h=>?_)
 ·obtain ⟨a,ns,k,rfl,_⟩:=h
  rfl
 obtain ⟨a,ns,k,rfl,hS,oj,q⟩:=h;have nd:=AD.nd
 refine ⟨_,aD (bC (i:=2) nd rfl (Or.inl rfl) aM)
  (aD (iB PassesOwn.never rfl (kD rfl B.range (ae (cA (tN rfl) rfl B.max boot_max (ae aM (ae (cA (Bk rfl) rfl B.min boot_min (ae aM (ae (cA bU rfl B.len PySem.boot_len (ae (pv 0) ar)) ar))) ar))) ar)) (bI (i:=3) nd rfl (Or.inl rfl))
   (aD (bC (i:=4) nd rfl (Or.inl rfl) (bZ mV (bZ mW (bZ gh (bZ gh (bZ gh (bZ mV (bf (uE C) hr rfl C.m C.F.kp C.b .nil bR (ae (pv 0) (ae (pv 3) ar))) aM) (bZ mW aM (pv 3))) (bZ mW aM (pv 1))) aM) aM) aM))
    (bg (bC (i:=2) nd rfl (Or.inl rfl) (bZ gh (bZ mW (pv 2) aM) (bZ mV (bZ mW (pv 4) (pv 4)) aM))))))
  (bg (fh (pv 2)))),?_⟩
 refine ⟨_,rfl,a,_,rfl, .inl hS,_,_,rfl,_,_,rfl,_,rfl,?_⟩;have hl:(ns.map V.int).length=ns.length:=aP _;rw [hl]
 have hb:(if (if (ns.length:Int)<63 then (ns.length:Int) else 63)>12 then (if (ns.length:Int)<63 then (ns.length:Int) else 63) else 12)≤63∧0≤(if (if (ns.length:Int)<63 then (ns.length:Int) else 63)>12 then (if (ns.length:Int)<63 then (ns.length:Int) else 63) else (12:Int)):=by
  repeat' split
  all_goals omega
 generalize (if (if (ns.length:Int)<63 then (ns.length:Int) else 63)>12 then (if (ns.length:Int)<63 then (ns.length:Int) else 63) else (12:Int))=n at hb;refine ⟨by omega,by omega,kg (λi σ H'=>∃num o3 o4,σ= [some (.ref a),some (.int k),some (.int num),o3,o4]∧aC H H') ⟨_,_,_,rfl,aC.refl _⟩ (λi σ H' hi hP=>?_) (λσ H' hP=>?_)⟩
 ·obtain ⟨num,o3,o4,rfl,sm⟩:=hP
  have hz:(0:Int)+(i:Int)=(i:Int):=by omega
  refine ⟨_,rfl,_,rfl,a,ns,_,rfl,sm.seq hS,oj,by omega,by omega,λv H2 LL=>?_⟩
  refine ⟨_,_,rfl,rfl,(by show (0:Int)<2147483647;decide),?_⟩
  refine ⟨_,rfl,_,_,rfl,rfl, .inl ⟨by decide,by decide⟩,_,_,rfl,rfl,?_⟩
  refine ⟨_,rfl,_,_,rfl,rfl, .inl ⟨by decide,by decide⟩,_,_,rfl,rfl,_,_,rfl,rfl,?_⟩
  refine ⟨_,_,rfl,rfl, .inr ⟨by decide,by decide⟩,_,_,rfl,rfl,(by show (0:Int)<2147483647;decide),?_⟩
  generalize HD:((v%2147483647+40692*(0+(i:Int))+7*k+1)*48271)%2147483647=part;have p0:0≤part:=by rw [←HD];exact Int.emod_nonneg _ (by decide)
  have p1:part<2147483647:=by rw [←HD];exact Int.emod_lt_of_pos _ (by decide)
  refine ⟨_,rfl,_,_,rfl,rfl, .inr ⟨by decide,by decide⟩,?_⟩
  refine ⟨_,rfl,_,rfl,_,_,rfl,rfl, .inl ⟨by omega,by omega⟩,_,_,rfl,rfl,(by show (0:Int)<2147483629;decide),_,_,rfl,rfl,?_⟩
  exact ⟨_,_,_,rfl,sm.trans LL⟩
 ·obtain ⟨num,o3,o4,rfl,sm⟩:=hP
  exact ⟨_,rfl,q _ _ sm⟩
def FK(K:PySem.W.Frag):Sp:=λvs H Q _=>∃(a:Addr)(ns:List Int)(k:Int),vs= [.ref a, .int k]∧aG K H a (ns.map V.int)∧ns.length≤63∧0≤k∧k≤100∧
 ∀(r:Addr)(ds:List Int)(H':Hp),aC H H'→H r=none→H' r=some (.lst (ds.map V.int))→ds≠ []→ds.length≤2→Q (.ref r) H'
theorem FH:aJ ["_law_script","_law_at"] ["_law_script","_law_at"] (ao uS):=⟨rfl,rfl,rfl,by decide+kernel,rfl,by decide+kernel,by decide+kernel⟩
theorem Cg(B:vC mg)(C:bP K mg "_law_cell" uR ["_law_script","_law_k"])(M:bP K mg "_law_mixed" sW ["_law_script","_law_turn"])(D:bP K mg "_law_digits" uS ["_law_script","_law_at"]):FnOk P w K mg base cw 3 D.f D.fd ["_law_script","_law_at"] (FK K):=by
 refine D.F.ok FH (λvs H Q E h=>?_) (λbr A outer s H vs Q E hr h=>?_)
 ·obtain ⟨a,ns,k,rfl,_⟩:=h
  rfl
 obtain ⟨a,ns,k,rfl,hS,oj,h0,h1,q⟩:=h;have gC:=(uE (P:=P) (w:=w) (base:=base) C).mono (show 1≤2 by decide)
 have gM:=Fn (P:=P) (w:=w) (base:=base) B C M
 refine ⟨_,aD (uM (gU Cj (bf gC hr rfl C.m C.F.kp C.b .nil bR (ae (pv 0) (ae (pv 1) ar))) (bZ Li aM aM) (bK _))
   (bg (fh (dN (ae (bf gM hr rfl M.m M.F.kp M.b .nil bR (ae (pv 0) (ae (pv 1) ar))) ar)))) lV)
  (bg (fh (dN (ae (bf gC hr rfl C.m C.F.kp C.b .nil bR (ae (pv 0) (ae (pv 1) ar))) (ae (bf gM hr rfl M.m M.F.kp M.b .nil bR (ae (pv 0) (ae (pv 1) ar))) ar))))),?_⟩
 refine ⟨_,rfl,_,rfl,a,ns,k,rfl,hS,oj,h0,h1,λv H1 s1=>?_⟩;refine ⟨_,_,rfl,rfl,⟨by decide,by decide,by decide⟩,_,_,rfl,rfl,_,rfl,?_⟩
 refine rH (λ_=>?_) (λ_=>?_)
 ·refine ⟨_,rfl,_,rfl,a,ns,k,rfl,s1.seq hS,oj,λv2 H2 s2=>?_⟩
  refine ⟨by show 1≤sizeLine;decide,λr ft=>?_⟩
  have Jk:=s1.trans s2;exact q r [v2] _ (Jk.trans (ay ft _)) (Jk.free ft) aa (by simp) (by simp)
 ·refine ⟨_,rfl,_,rfl,a,ns,k,rfl,s1.seq hS,oj,h0,h1,λv2 H2 s2=>?_⟩
  refine ⟨_,rfl,_,rfl,a,ns,k,rfl,(s1.trans s2).seq hS,oj,λv3 H3 s3=>?_⟩;refine ⟨by show 2≤sizeLine;decide,λr ft=>?_⟩
  have V4:=(s1.trans s2).trans s3;exact q r [v2,v3] _ (V4.trans (ay ft _)) (V4.free ft) aa (by simp) (by simp)
def LO:Sp:=λvs H Q _=>∃(l:Addr)(ns:List Int)(m:Int),vs= [.ref l, .int m]∧H l=some (.lst (ns.map V.int))∧ns≠ []∧ns.length≤1000∧0<m∧m<1073741824∧
 ∀(d:Int)(ds:List Int),0≤d→d<m→ds≠ []→ds.length≤ns.length→Q (.int d) (upd H l (.lst (ds.map V.int)))
theorem D1:aJ ["_law_left","_law_many","_law_digit"] ["_law_left","_law_many"] (ao qY):=⟨rfl,rfl,rfl,by decide+kernel,rfl,by decide+kernel,by decide+kernel⟩
theorem pT(B:vC mg)(D:bP K mg "_law_take" qY ["_law_left","_law_many"]):FnOk P w K mg base cw 1 D.f D.fd ["_law_left","_law_many"] LO:=by
 refine D.F.ok D1 (λvs H Q E h=>?_) (λbr A outer s H vs Q E hr h=>?_)
 ·obtain ⟨a,ns,k,rfl,_⟩:=h
  rfl
 obtain ⟨l,ns,m,rfl,hl,jw,hz,h0,h1,q⟩:=h;have nd:=D1.nd
 refine ⟨_,aD (uM (PW.pt (yQ (gU Cj (bY bp (pv 0) aM (λ_ _=>rfl)) aM (bK _)) (uP (gU IE (cA bU rfl B.len PySem.boot_len (ae (pv 0) ar)) aM (bK _)))))
   (bg (cR (fM PySem.F.plainAttrs_list PySem.F.slot_list_pop PySem.F.type_list_pop Fh (pv 0) (ae aM ar)))) lV)
  (aD (bC (i:=2) nd rfl (Or.inl rfl) (bZ mV (bY bp (pv 0) aM (λ_ _=>rfl)) (pv 1)))
  (aD (mZ (bZ Ao (bY bp (pv 0) aM (λ_ _=>rfl)) (pv 1)) (yO (pv 0) aM set_list))
  (bg (fh (pv 2))))),?_⟩
 have fin:∀(ms:List Int),ms≠ []→ms.length≤ns.length→∀H1,H1=H∨H1=upd H l (.lst (ms.map V.int))→H1 l=some (.lst (ms.map V.int))→
   (JD (D8 (y2 (rI (λ_ j=>0<j) λi j=>V.int (i%j)) (y2 (DU K) (rV 0) (tC (.int 0))) (rV 1)) (tZ 2)) (JD (D8 (y2 (rI FT λi j=>V.int (i / j)) (y2 (DU K) (rV 0) (tC (.int 0))) (rV 1)) (MH (rV 0) (tC (.int 0)) Je)) (Nq (rV 2))))
    {nx:=λ_ H'=>Q .aL H',rt:=Q} (start ["_law_left","_law_many","_law_digit"] [.ref l, .int m]) H1:=by
  intro ms Zm OZ H1 YJ e1
  obtain ⟨x,r,rfl⟩:∃x r,ms=x::r:=by
   cases ms with
   |nil=>exact absurd rfl Zm
   |cons x r=>exact ⟨x,r,rfl⟩
  refine ⟨_,rfl,l,_,0, .int x,rfl,rfl,aG.of e1,bW (j:=0) rfl,_,rfl,_,_,rfl,rfl,h0,?_⟩;refine ⟨_,rfl,l,_,0, .int x,rfl,rfl,aG.of e1,bW (j:=0) rfl,_,rfl,_,_,rfl,rfl,⟨h0,h1⟩,?_⟩;refine ⟨_,rfl,l,_,0,0,rfl,rfl,e1,?_,?_⟩
  ·show iO (r.length+1|>λn=>((x::r).map V.int).length) 0=some 0
   unfold iO;rw [if_pos (by decide),if_pos (by simp)]
   rfl
  ·refine ⟨_,rfl,?_⟩
   have e2:upd H1 l (.lst (((x::r).map V.int).set 0 (.int (x / m))))=upd H l (.lst (((x / m)::r).map V.int)):=by
    rcases YJ with z|z
    ·rw [z];rfl
    ·rw [z,qh];rfl
   rw [e2];exact q (x%m) ((x / m)::r) (Int.emod_nonneg _ (by omega)) (Int.emod_lt_of_pos _ h0) (by simp) (by simpa using OZ)
 obtain ⟨x,r,rfl⟩:∃x r,ns=x::r:=by
  cases ns with
  |nil=>exact absurd rfl jw
  |cons x r=>exact ⟨x,r,rfl⟩
 refine ⟨_,rfl,l,_,0, .int x,rfl,rfl,aG.of hl,bW (j:=0) rfl,_,_,rfl,rfl,_,rfl,?_⟩;refine rH (λ_=>?_) (λ_=>?_)
 ·refine ⟨_,rfl,l,_,rfl, .inl (aG.of hl),_,_,rfl,rfl,_,rfl,?_⟩
  refine rH (λc=>?_) (λ_=>?_)
  ·have c':=of_decide_eq_true c
   have Zx:r≠ []:=by
    intro z;subst z;simp at c'
   refine ⟨_,rfl, .inl ⟨rfl,_,aG.of hl⟩,l,_,0,0, .int x,rfl,rfl,hl,by decide,by decide,?_,rfl,?_⟩
   ·simp [seqIndex?]
   ·exact fin r Zx (by simp) _ (.inr rfl) aa
  ·exact fin (x::r) (by simp) (aV _) _ (.inl rfl) hl
 ·exact dq (fin (x::r) (by simp) (aV _) _ (.inl rfl) hl)
end
end tq
namespace Wb
abbrev Dt:=Nat×Nat
def nZ(w:W):Dt→List Dt→Dt→Prop
 |x,[],y=>x=y
 |x,a::l,y=>x=a∧nZ w (bw w a) l y
theorem fw{w:W}:∀{l m:List Dt}{x z:Dt},nZ w x (l++m) z↔∃y,nZ w x l y∧nZ w y m z
 | [],m,x,z=>⟨λh=>⟨x,rfl,h⟩,λ⟨y,e,h⟩=>by have e:x=y:=e;subst e;exact h⟩
 |a::l,m,x,z=>⟨λ⟨e,h⟩=>let ⟨y,h1,h2⟩:=fw.mp h;⟨y,⟨e,h1⟩,h2⟩,λ⟨y,⟨e,h1⟩,h2⟩=>⟨e,fw.mpr ⟨y,h1,h2⟩⟩⟩
theorem vd(w:W)(d:Dt)(n:Nat):walk w d (n+1)=d::walk w (bw w d) n:=by
 refine vA λi=>?_;cases i with
 |zero=>rw [fA (by omega)];rfl
 |succ i=>
  rw [qm]
  by_cases h:i<n
  ·rw [fA (by omega),fA h]
   exact congrArg some (dR (w:=w) (d:=d) 1 i)
  ·rw [oW (by omega),oW h]
theorem m6{w:W}:∀{l:List Dt}{x y:Dt},nZ w x l y↔l=walk w x l.length∧y=bo w l.length x
 | [],x,y=>⟨λh=>⟨rfl,(show x=y from h).symm⟩,λh=>h.2.symm⟩
 |a::l,x,y=>by
  have ie:bo w (l.length+1) x=bo w l.length (bw w x):=dR (w:=w) (d:=x) 1 l.length
  constructor
  ·rintro ⟨rfl,h⟩
   obtain ⟨h1,h2⟩:=m6.mp h;rw [cv,vd,ie];exact ⟨congrArg (x::·) h1,h2⟩
  ·rintro ⟨h1,h2⟩
   rw [cv,vd] at h1;obtain ⟨e1,e2⟩:=List.cons.inj h1;rw [cv,ie] at h2;subst e1;exact ⟨rfl,m6.mpr ⟨e2,h2⟩⟩
theorem eE.IY{w:W}{d:Dt}{r:List Dt}(h:eE w d r):nZ w d r d:=by
 obtain ⟨k,k0,k1,k2,rfl⟩:=h;exact m6.mpr ⟨by rw [eB],by rw [eB,k1]⟩
theorem m7{w:W}{d:Dt}{r:List Dt}(h:nZ w d r d)(ne:r≠ [])(nd:r.Nodup):eE w d r:=by
 obtain ⟨h1,h2⟩:=m6.mp h;refine ⟨r.length,A7.mpr ne,h2.symm,λj j0 jl z=>?_,h1⟩;have a:r[j]? =some (bo w j d):=by rw [h1];exact fA jl
 have b:r[0]? =some (bo w 0 d):=by rw [h1];exact fA (by omega)
 rw [z] at a;have b:r[0]? =some d:=b
 have:=(List.getElem?_inj (by omega:j<r.length) nd).mp (a.trans b.symm)
 omega
theorem qQ{w v:W}:∀{l:List Dt}{x y:Dt},nZ w x l y→(∀e∈l,bw v e=bw w e)→nZ v x l y
 | [],x,y,h,_=>h
 |a::l,x,y,⟨e,h⟩,k=>⟨e,by rw [k a (b8 ..)];exact qQ h λe he=>k e (cn _ he)⟩
theorem eo{w v:W}{l:List Dt}{x y y' z:Dt}(h:nZ w x (l++ [z]) y)(k:∀e∈l,bw v e=bw w e)(hz:bw v z=y'):nZ v x (l++ [z]) y'∧bw w z=y:=by
 obtain ⟨m,h1,h2,h3⟩:=fw.mp h;have h3:bw w z=y:=h3;exact ⟨fw.mpr ⟨m,qQ h1 k,h2,hz⟩,h3⟩
theorem gI{α:Type}{l:List α}(h:l≠ []):∃a z,l=a++ [z]:=⟨l.dropLast,l.getLast h,(List.dropLast_concat_getLast h).symm⟩
theorem FO{r u:Nat}{t:List Nat}(nd:(u::r::t).Nodup):aK (u::r::t) u=r∧∀x∈r::t,aK (u::r::t) x=if aK (r::t) x=r then u else aK (r::t) x:=by
 have nz:=(fk.mp nd).2;refine ⟨fN (a:= []) nd,λx hx=>?_⟩;obtain ⟨b,z,e⟩:=gI (l:=r::t) (by simp)
 have lz:aK (r::t) z=r:=by
  cases t with
  |nil=>
   have:b= []∧z=r:=by
    cases b with
    |nil=>simp at e;exact ⟨rfl,e.symm⟩
    |cons a b=>simp at e
   rw [this.2];unfold aK;simp
  |cons a t=>
   cases b with
   |nil=>simp at e
   |cons c b=>
    have e':a::t=b++ [z]:=(List.cons.inj e).2
    have:=gX (b:=b) (x:=z) (y:=r) (by rw [←e'];exact nz)
    rw [e'];exact this
 have zm:z∈r::t:=by rw [e];simp
 by_cases c:x=z
 ·subst c
  rw [if_pos lz]
  have:=gX (b:=b) (x:=x) (y:=u) (by rw [←e];exact nd)
  rw [e];exact this
 ·rw [if_neg (λh=>c (u9 nz hx zm (h.trans lz.symm)))]
  refine sP nd hx ?_;rw [e];intro h;apply c;rw [h,fW,dX,jr (by simp),show b.length+ [z].length-1-b.length=0 by simp];rfl
def F2(l l':List Nat)(r u:Nat):Prop:=∃a t b,l=b++a∧a++b=r::t∧∃a' b',l'=b'++a'∧a'++b'=u::r::t
theorem F2.succ{l l':List Nat}{r u:Nat}(P:F2 l l' r u)(nd:l.Nodup)(nu:u∉l):aK l' u=r∧(∀x∈l,aK l' x=if aK l x=r then u else aK l x)∧l'.Nodup∧(∀x,x∈l'↔x=u∨x∈l)∧r∈l:=by
 obtain ⟨a,t,b,rfl,e1,a',b',rfl,e2⟩:=P;have p1:(b++a).Perm (r::t):=by rw [←e1];exact r9
 have p2:(b'++a').Perm (u::r::t):=by rw [←e2];exact r9
 have n1:(r::t).Nodup:=p1.nodup_iff.mp nd;have n2:(u::r::t).Nodup:=fk.mpr ⟨λz=>nu (p1.mem_iff.mpr z),n1⟩;obtain ⟨s1,s2⟩:=FO n2
 have r1:∀x∈r::t,aK (b++a) x=aK (r::t) x:=λx hx=>by
  have:=oT (a:=a) (b:=b) (x:=x) (by rw [e1];exact n1) (by rw [e1];exact hx)
  rw [this,e1]
 have r2:∀x∈u::r::t,aK (b'++a') x=aK (u::r::t) x:=λx hx=>by
  have:=oT (a:=a') (b:=b') (x:=x) (by rw [e2];exact n2) (by rw [e2];exact hx)
  rw [this,e2]
 refine ⟨by rw [r2 u (by simp),s1],λx hx=>?_,p2.nodup_iff.mpr n2,λx=>?_,p1.mem_iff.mpr (by simp)⟩
 ·have hx:=p1.mem_iff.mp hx
  rw [r2 x (cn _ hx),r1 x hx,s2 x hx]
 ·rw [p2.mem_iff,bE,p1.mem_iff]
theorem uO{l:List Nat}{i u r:Nat}(h:l[i]? =some r):F2 l (ins l i u) r u:=by
 obtain ⟨hi,e⟩:=cu.mp h;have hd:l.drop i=r::l.drop (i+1):=by rw [ql hi,e]
 refine ⟨l.drop i,l.drop (i+1)++l.take i,l.take i,(iY ..).symm,by rw [hd];rfl,u::l.drop i,l.take i,rfl,by rw [hd];rfl⟩
theorem IZ{l:List Nat}{u r:Nat}(h:l[0]? =some r):F2 l (ins l l.length u) r u:=by
 cases l with
 |nil=>simp at h
 |cons a t=>
  simp at h;subst h;refine ⟨a::t,t,[],rfl,by simp,[u],a::t,?_,rfl⟩
  unfold ins;simp
def eQ(w:W)(rs:List (List Dt)):Prop:=∀r∈rs,∃d,eE w d r∧az w d
def Fc(w:W)(n:Nat):Prop:=∃rs,eQ w rs∧rs.flatten.Perm (aE w)∧rs.length=n
theorem EG{α:Type}(a:List (List α))(r:List α)(b:List (List α)):(a++r::b).flatten.Perm (r++(a++b).flatten):=by
 rw [vy,vy,j3,←kU,←kU];exact List.Perm.append_right _ r9
theorem oP{w:W}(g:Good w){rs:List (List Dt)}(h:eQ w rs){d:Dt}(hm:d∈rs.flatten):∃r1 rest,eE w d r1∧az w d∧(r1++rest.flatten).Perm rs.flatten∧eQ w rest∧rest.length+1=rs.length:=by
 obtain ⟨r,hr,hd⟩:=kX.mp hm;obtain ⟨e,Re,de⟩:=h r hr;obtain ⟨i,hi,ei⟩:=zg.mp hd;have gi:r.getD i (0,0)=d:=by rw [fW,cK hi];exact ei
 have R1:=Re.V1 g de hi;rw [gi] at R1;obtain ⟨a,b,rfl⟩:=List.append_of_mem hr
 have pr:(r.drop i++r.take i).Perm r:=by
  have:=r9 (l₁:=r.drop i) (l₂:=r.take i)
  rwa [iY] at this
 refine ⟨_,a++b,R1,Re.aE g de d hd,?_,λx hx=>h x ?_,by simp;omega⟩
 ·exact (pr.append_right _).trans (EG a r b).symm
 ·rcases b9.mp hx with hx|hx
  ·exact fj _ hx
  ·exact cL _ (cn _ hx)
theorem eQ.dart{w:W}(g:Good w){rs:List (List Dt)}(h:eQ w rs):∀e∈rs.flatten,az w e:=λe he=>by
 obtain ⟨r,hr,OM⟩:=kX.mp he;obtain ⟨d,R,dd⟩:=h r hr;exact R.aE g dd e OM
theorem eQ.keep{w v:W}(g:Good w){rs:List (List Dt)}(h:eQ w rs)(k:∀e∈rs.flatten,bw v e=bw w e)(dv:∀d,az w d→az v d):eQ v rs:=λr hr=>by
 obtain ⟨d,R,dd⟩:=h r hr;refine ⟨d,m7 (qQ R.IY λe he=>k e (kX.mpr ⟨r,hr,he⟩)) (λz=>?_) (R.nodup g dd),dv d dd⟩
 have:=R.first
 rw [z] at this;cases this
theorem GY{w v:W}{p r n:Nat}(g:Good w)(gv:Good v)(hd:az w (p,r))(hn:n=w.length)
  (k0:∀e,az w e→bw w e≠(p,r)→bw v e=bw w e) (k1:∀e,az w e→bw w e=(p,r)→bw v e=(p,n)) (k2:bw v (p,n)=(n,p)) (k3:bw v (n,p)=(p,r))
  (dv:∀d,az v d↔d=(p,n)∨d=(n,p)∨az w d) {c:Nat} (h:Fc w c):Fc v c:=by
 obtain ⟨rs,hA,pm,hl⟩:=h;obtain ⟨r1,rest,R1,_,p1,hR,l1⟩:=oP g hA (pm.mem_iff.mpr (aB.mpr hd));have pw:=p1.trans pm;have nd:=pw.nodup_iff.mpr (bb g);obtain ⟨qM,nz,uz⟩:=b7.mp nd;have ne1:r1≠ []:=λz=>by have:=R1.first;rw [z] at this;cases this
 obtain ⟨a0,z,ez⟩:=gI ne1;have P1:=R1.IY;rw [ez] at P1;have hz:bw w z=(p,r):=(eo (v:=w) P1 (λ_ _=>rfl) rfl).2;have m1:∀e∈r1,az w e:=λe he=>aB.mp (pw.mem_iff.mp (fj _ he));have zm:z∈r1:=by rw [ez];simp
 have pre:∀e,az w e→bw w e=(p,r)→e=z:=λe he h=>jT g he (m1 z zm) (h.trans hz.symm)
 have nz0:z∉a0:=λh=>by
  rw [ez] at qM;exact (b7.mp qM).2.2 z h z (by simp) rfl
 have Q1:=(eo (v:=v) P1 (λe he=>k0 e (m1 e (by rw [ez];exact fj _ he)) λh=>nz0 (by rw [←pre e (m1 e (by rw [ez];exact fj _ he)) h];exact he)) (k1 z (m1 z zm) hz)).1
 rw [←ez] at Q1;have Q:nZ v (p,r) (r1++ [(p,n),(n,p)]) (p,r):=fw.mpr ⟨_,Q1,rfl,k2,k3⟩
 have nw:∀d,az w d→d≠(p,n)∧d≠(n,p):=λd h=>⟨λz=>by
  have:=g.rng _ _ h;rw [z] at this;have:n<w.length:=this;omega,λz=>by
  have:=cf h;rw [z] at this;have:n<w.length:=this;omega⟩
 have pn:p≠n:=by have:=cf hd;have:p<w.length:=this;omega
 have UX:(r1++ [(p,n),(n,p)]).Nodup:=by
  rw [b7];refine ⟨qM,?_,λa ha b hb e=>?_⟩
  ·rw [fk]
   exact ⟨λh=>by rw [bN] at h;exact pn (Prod.mk.inj h).1,by simp⟩
  ·rcases bE.mp hb with hb|hb
   ·exact (nw a (m1 a ha)).1 (e.trans hb)
   ·rw [bN] at hb;exact (nw a (m1 a ha)).2 (e.trans hb)
 refine ⟨(r1++ [(p,n),(n,p)])::rest,λx hx=>?_,?_,by rw [cv];omega⟩
 ·rcases bE.mp hx with rfl|hx
  ·exact ⟨_,m7 Q (by simp) UX,(dv _).mpr (.inr (.inr hd))⟩
  ·refine hR.keep g (λe he=>k0 e (hR.dart g e he) λh=>?_) (λd h=>(dv d).mpr (.inr (.inr h))) x hx
   have:=pre e (hR.dart g e he) h
   exact uz z zm e he this.symm
 ·refine (mG ?_ (bb gv)).mpr λd=>?_
  ·rw [j3,b7]
   refine ⟨UX,nz,λa ha b hb e=>?_⟩
   rcases b9.mp ha with ha|ha
   ·exact uz a ha b hb e
   ·have:=nw b (hR.dart g b hb)
    rcases bE.mp ha with ha|ha
    ·exact this.1 (e.symm.trans ha)
    ·rw [bN] at ha;exact this.2 (e.symm.trans ha)
  ·rw [aB,dv,j3,b9,b9,←aB (w:=w),←pw.mem_iff,b9]
   simp only [bE,List.not_mem_nil,or_false]
   constructor
   ·rintro ((h|h|h) |h)
    ·exact .inr (.inr (.inl h))
    ·exact .inl h
    ·exact .inr (.inl h)
    ·exact .inr (.inr (.inr h))
   ·rintro (h|h|h|h)
    ·exact .inl (.inr (.inl h))
    ·exact .inl (.inr (.inr h))
    ·exact .inl (.inl h)
    ·exact .inr h
theorem Kk{w x:W}{p r u v:Nat}(g:Good w)(gx:Good x)(hp:az w (p,r))(hu:az w (u,v))(pu:p≠u)(nt:¬az w (p,u))
  (k0:∀e,az w e→bw w e≠(p,r)→bw w e≠(u,v)→bw x e=bw w e) (k1:∀e,az w e→bw w e=(p,r)→bw x e=(p,u)) (k2:∀e,az w e→bw w e=(u,v)→bw x e=(u,p))
  (k3:bw x (p,u)=(u,v)) (k4:bw x (u,p)=(p,r)) (dx:∀d,az x d↔d=(p,u)∨d=(u,p)∨az w d) {c:Nat} (h:Fc w c):
  (Fc x (c+1)∨(Fc x (c-1)∧2≤c))∧((∃r1,eE w (p,r) r1∧(u,v)∈r1)→Fc x (c+1)):=by
 obtain ⟨rs,hA,pm,hl⟩:=h;obtain ⟨r1,rest,R1,_,p1,hR,l1⟩:=oP g hA (pm.mem_iff.mpr (aB.mpr hp));have pw:=p1.trans pm;have nd:=pw.nodup_iff.mpr (bb g);obtain ⟨qM,nz,uz⟩:=b7.mp nd;have K8:¬az w (u,p):=λh=>nt (g.sym _ _ h);have nw:∀d,az w d→d≠(p,u)∧d≠(u,p):=λd h=>⟨λz=>nt (z▸h),λz=>K8 (z▸h)⟩;have m1:∀e∈r1,az w e:=λe he=>aB.mp (pw.mem_iff.mp (fj _ he));have upv:(p,r)≠(u,v):=λz=>pu (Prod.mk.inj z).1;have K3:(p,u)≠((u,p):Dt):=λz=>pu (Prod.mk.inj z).1;have up:∀d,az w d→az x d:=λd h=>(dx d).mpr (.inr (.inr h))
 have one:(u,v)∈r1→Fc x (c+1):=λhv=>by
  obtain ⟨a,b,e1⟩:=List.append_of_mem hv;have P1:=R1.IY;rw [e1] at P1;obtain ⟨y,Pa,Pb⟩:=fw.mp P1;obtain rfl:y=(u,v):=Pb.1;have Xs:a≠ []:=λz=>by subst z;exact upv Pa
  obtain ⟨a0,za,ea⟩:=gI Xs;obtain ⟨b0,zb,eb⟩:=gI (l:=(u,v)::b) (by simp)
  have Nz:=Pa;rw [ea] at Nz;have NA:=Pb;rw [eb] at NA;have HJ:bw w za=(u,v):=(eo (v:=w) Nz (λ_ _=>rfl) rfl).2;have HK:bw w zb=(p,r):=(eo (v:=w) NA (λ_ _=>rfl) rfl).2;have nda:(a++(u,v)::b).Nodup:=e1▸qM;obtain ⟨na,nb,Px⟩:=b7.mp nda;have ma:∀e∈a,e∈r1:=λe he=>by rw [e1];exact fj _ he
  have mb:∀e∈(u,v)::b,e∈r1:=λe he=>by rw [e1];exact cL _ he
  have zd:za∈a:=by rw [ea];simp
  have ze:zb∈(u,v)::b:=by rw [eb];simp
  have Ct:∀e,az w e→bw w e=(u,v)→e=za:=λe he h=>jT g he (m1 _ (ma _ zd)) (h.trans HJ.symm);have Cu:∀e,az w e→bw w e=(p,r)→e=zb:=λe he h=>jT g he (m1 _ (mb _ ze)) (h.trans HK.symm);have Pw:za∉a0:=λh=>by rw [ea] at na;exact (b7.mp na).2.2 za h za (by simp) rfl
  have Py:zb∉b0:=λh=>by rw [eb] at nb;exact (b7.mp nb).2.2 zb h zb (by simp) rfl
  have Qa:=(eo (v:=x) Nz (λe he=>by
   have xU:e∈a:=by rw [ea];exact fj _ he
   exact k0 e (m1 _ (ma e xU)) (λh=>Px e xU zb ze (Cu e (m1 _ (ma e xU)) h)) λh=>Pw (Ct e (m1 _ (ma e xU)) h▸he)) (k2 za (m1 _ (ma _ zd)) HJ)).1
  have Qb:=(eo (v:=x) NA (λe he=>by
   have xV:e∈(u,v)::b:=by rw [eb];exact fj _ he
   exact k0 e (m1 _ (mb e xV)) (λh=>Py (Cu e (m1 _ (mb e xV)) h▸he)) λh=>Px za zd e xV (Ct e (m1 _ (mb e xV)) h).symm) (k1 zb (m1 _ (mb _ ze)) HK)).1
  rw [←ea] at Qa;rw [←eb] at Qb;have Ra:nZ x (p,r) (a++ [(u,p)]) (p,r):=fw.mpr ⟨_,Qa,rfl,k4⟩;have Rb:nZ x (u,v) ((u,v)::b++ [(p,u)]) (u,v):=fw.mpr ⟨_,Qb,rfl,k3⟩;have M4:(a++ [(u,p)]).Nodup:=b7.mpr ⟨na,by simp,λe he f hf z=>by rw [bN] at hf;exact (nw e (m1 _ (ma e he))).2 (z.trans hf)⟩
  have M5:((u,v)::b++ [(p,u)]).Nodup:=b7.mpr ⟨nb,by simp,λe he f hf z=>by rw [bN] at hf;exact (nw e (m1 _ (mb e he))).1 (z.trans hf)⟩
  refine ⟨(a++ [(u,p)])::((u,v)::b++ [(p,u)])::rest,λy hy=>?_,?_,by rw [cv,cv];omega⟩
  ·rcases bE.mp hy with rfl|hy
   ·exact ⟨_,m7 Ra (by simp) M4,up _ hp⟩
   ·rcases bE.mp hy with rfl|hy
    ·exact ⟨_,m7 Rb (by simp) M5,up _ hu⟩
    ·refine hR.keep g (λe he=>k0 e (hR.dart g e he) (λh=>?_) λh=>?_) up y hy
     ·exact uz zb (mb _ ze) e he (Cu e (hR.dart g e he) h).symm
     ·exact uz za (ma _ zd) e he (Ct e (hR.dart g e he) h).symm
  ·refine (mG ?_ (bb gx)).mpr λd=>?_
   ·rw [j3,j3,b7]
    refine ⟨M4,b7.mpr ⟨M5,nz,λe he f hf z=>?_⟩,λe he f hf z=>?_⟩
    ·rcases b9.mp he with he|he
     ·exact uz e (mb e he) f hf z
     ·rw [bN] at he;exact (nw f (hR.dart g f hf)).1 (z.symm.trans he)
    ·rcases b9.mp hf with hf|hf
     ·rcases b9.mp hf with hf|hf
      ·rcases b9.mp he with he|he
       ·exact Px e he f hf z
       ·rw [bN] at he;exact (nw f (m1 _ (mb f hf))).2 (z.symm.trans he)
      ·rw [bN] at hf
       rcases b9.mp he with he|he
       ·exact (nw e (m1 _ (ma e he))).1 (z.trans hf)
       ·rw [bN] at he;exact K3 (hf.symm.trans (z.symm.trans he))
     ·rcases b9.mp he with he|he
      ·exact uz e (ma e he) f hf z
      ·rw [bN] at he;exact (nw f (hR.dart g f hf)).2 (z.symm.trans he)
   ·rw [aB,dx,←aB (w:=w),←pw.mem_iff,e1]
    simp only [j3,b9,bE,List.not_mem_nil,or_false]
    constructor
    ·rintro ((h|h) | ((h|h) |h) |h)
     ·exact .inr (.inr (.inl (.inl h)))
     ·exact .inr (.inl h)
     ·exact .inr (.inr (.inl (.inr (.inl h))))
     ·exact .inr (.inr (.inl (.inr (.inr h))))
     ·exact .inl h
     ·exact .inr (.inr (.inr h))
    ·rintro (h|h| (h|h|h) |h)
     ·exact .inr (.inl (.inr h))
     ·exact .inl (.inr h)
     ·exact .inl (.inl h)
     ·exact .inr (.inl (.inl (.inl h)))
     ·exact .inr (.inl (.inl (.inr h)))
     ·exact .inr (.inr h)
 refine ⟨?_,λ⟨r1',NB,hv⟩=>one (by rw [R1.uniq NB];exact hv)⟩
 by_cases hv:(u,v)∈r1
 ·exact .inl (one hv)
 ·refine .inr ?_
  have ZG:(u,v)∈rest.flatten:=by
   have:=pw.mem_iff.mpr (aB.mpr hu)
   exact (b9.mp this).resolve_left hv
  obtain ⟨r2,Jg,R2,_,p2,Hi,l2⟩:=oP g hR ZG;have Fz:(r1++(r2++Jg.flatten)).Perm (aE w):=(p2.append_left r1).trans pw;have ndw:=Fz.nodup_iff.mpr (bb g);obtain ⟨_,US,Ii⟩:=b7.mp ndw;obtain ⟨PC,PH,UT⟩:=b7.mp US;have m2:∀e∈r2,az w e:=λe he=>aB.mp (Fz.mem_iff.mp (cL _ (fj _ he)));have ne1:r1≠ []:=λz=>by have:=R1.first;rw [z] at this;cases this
  have ne2:r2≠ []:=λz=>by have:=R2.first;rw [z] at this;cases this
  obtain ⟨a0,za,ea⟩:=gI ne1;obtain ⟨b0,zb,eb⟩:=gI ne2;have P1:=R1.IY;rw [ea] at P1;have P2:=R2.IY;rw [eb] at P2;have HJ:bw w za=(p,r):=(eo (v:=w) P1 (λ_ _=>rfl) rfl).2;have HK:bw w zb=(u,v):=(eo (v:=w) P2 (λ_ _=>rfl) rfl).2;have zd:za∈r1:=by rw [ea];simp
  have ze:zb∈r2:=by rw [eb];simp
  have Ct:∀e,az w e→bw w e=(p,r)→e=za:=λe he h=>jT g he (m1 _ zd) (h.trans HJ.symm);have Cu:∀e,az w e→bw w e=(u,v)→e=zb:=λe he h=>jT g he (m2 _ ze) (h.trans HK.symm);have Pw:za∉a0:=λh=>by rw [ea] at qM;exact (b7.mp qM).2.2 za h za (by simp) rfl
  have Py:zb∉b0:=λh=>by rw [eb] at PC;exact (b7.mp PC).2.2 zb h zb (by simp) rfl
  have Qs:∀e∈r1,∀f∈r2,e≠f:=λe he f hf=>Ii e he f (fj _ hf)
  have Qa:=(eo (v:=x) P1 (λe he=>by
   have xU:e∈r1:=by rw [ea];exact fj _ he
   exact k0 e (m1 e xU) (λh=>Pw (Ct e (m1 e xU) h▸he)) λh=>Qs e xU zb ze (Cu e (m1 e xU) h)) (k1 za (m1 _ zd) HJ)).1
  have Qb:=(eo (v:=x) P2 (λe he=>by
   have xV:e∈r2:=by rw [eb];exact fj _ he
   exact k0 e (m2 e xV) (λh=>Qs za zd e xV (Ct e (m2 e xV) h).symm) λh=>Py (Cu e (m2 e xV) h▸he)) (k2 zb (m2 _ ze) HK)).1
  rw [←ea] at Qa;rw [←eb] at Qb;have Q:nZ x (p,r) (r1++((p,u)::(r2++ [(u,p)]))) (p,r):=fw.mpr ⟨_,Qa,rfl,by rw [k3];exact fw.mpr ⟨_,Qb,rfl,k4⟩⟩
  have MX:∀e,e∈r1++((p,u)::(r2++ [(u,p)]))↔e∈r1∨e=(p,u)∨e∈r2∨e=(u,p):=λe=>by simp
  have UW:(r1++((p,u)::(r2++ [(u,p)]))).Nodup:=by
   refine b7.mpr ⟨qM,fk.mpr ⟨λh=>?_,b7.mpr ⟨PC,by simp,λe he f hf z=>?_⟩⟩,λe he f hf z=>?_⟩
   ·rcases b9.mp h with h|h
    ·exact (nw _ (m2 _ h)).1 rfl
    ·rw [bN] at h;exact K3 h
   ·rw [bN] at hf;exact (nw e (m2 e he)).2 (z.trans hf)
   ·rcases bE.mp hf with hf|hf
    ·exact (nw e (m1 e he)).1 (z.trans hf)
    ·rcases b9.mp hf with hf|hf
     ·exact Qs e he f hf z
     ·rw [bN] at hf;exact (nw e (m1 e he)).2 (z.trans hf)
  refine ⟨⟨(r1++((p,u)::(r2++ [(u,p)])))::Jg,λy hy=>?_,?_,by rw [cv];omega⟩,by omega⟩
  ·rcases bE.mp hy with rfl|hy
   ·exact ⟨_,m7 Q (by simp) UW,up _ hp⟩
   ·refine Hi.keep g (λe he=>k0 e (Hi.dart g e he) (λh=>?_) λh=>?_) up y hy
    ·exact Ii za zd e (cL _ he) (Ct e (Hi.dart g e he) h).symm
    ·exact UT zb ze e he (Cu e (Hi.dart g e he) h).symm
  ·refine (mG ?_ (bb gx)).mpr λd=>?_
   ·rw [j3,b7]
    refine ⟨UW,PH,λe he f hf z=>?_⟩;have df:=Hi.dart g f hf
    rcases (MX e).mp he with he|he|he|he
    ·exact Ii e he f (cL _ hf) z
    ·exact (nw f df).1 (z.symm.trans he)
    ·exact UT e he f hf z
    ·exact (nw f df).2 (z.symm.trans he)
   ·rw [aB,dx,←aB (w:=w),←Fz.mem_iff,j3,b9,MX]
    simp only [b9]
    constructor
    ·rintro ((h|h|h|h) |h)
     ·exact .inr (.inr (.inl h))
     ·exact .inl h
     ·exact .inr (.inr (.inr (.inl h)))
     ·exact .inr (.inl h)
     ·exact .inr (.inr (.inr (.inr h)))
    ·rintro (h|h|h|h|h)
     ·exact .inl (.inr (.inl h))
     ·exact .inl (.inr (.inr (.inr h)))
     ·exact .inl (.inl h)
     ·exact .inl (.inr (.inr (.inl h)))
     ·exact .inr h
theorem GZ{w:W}{p r u v:Nat}(g:Good w)(hp:az w (p,r))(hu:az w (u,v))(up:u≠p)(nt:u∉row w p){c:Nat}(h:Fc w c):
  (Fc (lg w p ((row w p).idxOf r) u ((row w u).idxOf v)) (c+1)∨(Fc (lg w p ((row w p).idxOf r) u ((row w u).idxOf v)) (c-1)∧2≤c))∧((∃r1,eE w (p,r) r1∧(u,v)∈r1)→Fc (lg w p ((row w p).idxOf r) u ((row w u).idxOf v)) (c+1)):=by
 have lp:p<w.length:=cf hp;have lu:u<w.length:=cf hu;have gx:=wz (i:=(row w p).idxOf r) (j:=(row w u).idxOf v) g lp lu up nt;have ntu:p∉row w u:=λz=>nt (g.sym _ _ z)
 have rows:∀q,row (lg w p ((row w p).idxOf r) u ((row w u).idxOf v)) q=if u=q then ins (row w u) ((row w u).idxOf v) p else if p=q then ins (row w p) ((row w p).idxOf r) u else row w q:=λq=>by
  unfold lg;rw [fz (by rw [fC];exact lu),fz lp]
 have Zv:r∈row w p:=hp;have ZE:v∈row w u:=hu
 have gp:(row w p)[(row w p).idxOf r]? =some r:=by
  have hl:=nU.mpr Zv;rw [cK hl];exact congrArg some (se hl)
 have gu:(row w u)[(row w u).idxOf v]? =some v:=by
  have hl:=nU.mpr ZE;rw [cK hl];exact congrArg some (se hl)
 obtain ⟨a1,a2,_,a4,_⟩:=(uO (u:=u) gp).succ (g.nod p) nt;obtain ⟨b1,b2,_,b4,_⟩:=(uO (u:=p) gu).succ (g.nod u) ntu;generalize lg w p ((row w p).idxOf r) u ((row w u).idxOf v)=x at gx rows;have xp:row x p=ins (row w p) ((row w p).idxOf r) u:=by rw [rows,if_neg up,if_pos rfl]
 have xu:row x u=ins (row w u) ((row w u).idxOf v) p:=by rw [rows,if_pos rfl]
 have xo:∀q,q≠p→q≠u→row x q=row w q:=λq h1 h2=>by rw [rows,if_neg (Ne.symm h2),if_neg (Ne.symm h1)]
 have sm:∀e:Dt,az w e→e.1∈row w e.2:=λe h=>g.sym _ _ h
 have ne1:∀e:Dt,az w e→e.2=p→bw x e=if bw w e=(p,r) then (p,u) else bw w e:=λe he h=>by
  have hs:=sm e he;have e2:=a2 e.1 (by rw [←h];exact hs)
  unfold bw;rw [h,xp,e2]
  by_cases z:aK (row w p) e.1=r
  ·rw [if_pos z,if_pos (by rw [z])]
  ·rw [if_neg z,if_neg (λy=>z (Prod.mk.inj y).2)]
 have ne2:∀e:Dt,az w e→e.2=u→bw x e=if bw w e=(u,v) then (u,p) else bw w e:=λe he h=>by
  have hs:=sm e he;have e2:=b2 e.1 (by rw [←h];exact hs)
  unfold bw;rw [h,xu,e2]
  by_cases z:aK (row w u) e.1=v
  ·rw [if_pos z,if_pos (by rw [z])]
  ·rw [if_neg z,if_neg (λy=>z (Prod.mk.inj y).2)]
 have ne3:∀e:Dt,e.2≠p→e.2≠u→bw x e=bw w e:=λe h1 h2=>by unfold bw;rw [xo _ h1 h2]
 have MG:∀e:Dt,(bw w e).1=e.2:=λe=>rfl;refine Kk g gx hp hu (Ne.symm up) nt (λe he h1 h2=>?_) (λe he h1=>?_) (λe he h1=>?_) ?_ ?_ (λd=>?_) h
 ·by_cases c1:e.2=p
  ·rw [ne1 e he c1,if_neg h1]
  ·by_cases c2:e.2=u
   ·rw [ne2 e he c2,if_neg h2]
   ·exact ne3 e c1 c2
 ·rw [ne1 e he (by rw [←MG e,h1]),if_pos h1]
 ·rw [ne2 e he (by rw [←MG e,h1]),if_pos h1]
 ·show (u,aK (row x u) p)=(u,v)
  rw [xu,b1]
 ·show (p,aK (row x p) u)=(p,r)
  rw [xp,a1]
 ·obtain ⟨d1,d2⟩:=d
  show d2∈row x d1↔_∨_∨d2∈row w d1
  by_cases c1:d1=p
  ·subst c1
   rw [xp,a4];exact ⟨λh=>h.elim (λh=> .inl (by rw [h])) λh=> .inr (.inr h),λh=>h.elim (λh=> .inl (Prod.mk.inj h).2) λh=>h.elim (λh=>absurd (Prod.mk.inj h).1.symm up) .inr⟩
  ·by_cases c2:d1=u
   ·subst c2
    rw [xu,b4];exact ⟨λh=>h.elim (λh=> .inr (.inl (by rw [h]))) λh=> .inr (.inr h),λh=>h.elim (λh=>absurd (Prod.mk.inj h).1 up) λh=>h.elim (λh=> .inl (Prod.mk.inj h).2) .inr⟩
   ·rw [xo d1 c1 c2]
    exact ⟨λh=> .inr (.inr h),λh=>h.elim (λh=>absurd (Prod.mk.inj h).1 c1) λh=>h.elim (λh=>absurd (Prod.mk.inj h).1 c2) id⟩
def Eu(b:Bool)(w:W):Prop:=2≤w.length→∃c,Fc w c∧2*(w.length+c)≤fc w+4∧(b=true→2*(w.length+c)=fc w+4)
def F4(b:Bool)(w w':W):Prop:=w'=w∨∃p r u v,az w (p,r)∧az w (u,v)∧u≠p∧u∉row w p∧(b=true→∃r1,eE w (p,r) r1∧(u,v)∈r1)∧w'=lg w p ((row w p).idxOf r) u ((row w u).idxOf v)
theorem Eu.lg{b:Bool}{w w':W}(g:Good w)(E:Eu b w)(t:F4 b w w'):Eu b w':=by
 rcases t with rfl| ⟨p,r,u,v,hp,hu,up,nt,hb,rfl⟩
 ·exact E
 ·intro l2
  rw [qg] at l2 ⊢;obtain ⟨c,f,h1,h2⟩:=E l2;rw [zI (cf hp) (cf hu) up];obtain ⟨k1,k2⟩:=GZ g hp hu up nt f;cases b with
  |true=>
   have:=h2 rfl
   exact ⟨c+1,k2 (hb rfl),by omega,λ_=>by omega⟩
  |false=>
   rcases k1 with k| ⟨k,c2⟩
   ·exact ⟨c+1,k,by omega,λz=>by cases z⟩
   ·exact ⟨c-1,k,by omega,λz=>by cases z⟩
theorem Eu.nam{b:Bool}{w v:W}{φ:Nat→Nat}(g:Good w)(gv:Good v)(E:Eu b w)(N:Be w v φ)(dg:fc v=fc w):Eu b v:=λl2=>by
 rw [N.len] at l2 ⊢;obtain ⟨c,⟨rs,hA,pm,hl⟩,h1,h2⟩:=E l2;rw [dg];refine ⟨c,⟨rs.map λr=>r.map λd=>(φ d.1,φ d.2),λr' ft=>?_,?_,by rw [aP];exact hl⟩,h1,h2⟩
 ·obtain ⟨r,hr,rfl⟩:=bS.mp ft
  obtain ⟨d,R,dd⟩:=hA r hr;exact ⟨_,(N.dmap g).rnd g R dd,(N.dmap g).dart d dd⟩
 ·rw [←List.map_flatten]
  exact (pm.map _).trans (zG g gv (N.dmap g).dart (N.dmap g).inj N.Ww)
theorem EE{w:W}{p j:Nat}(g:Good w)(lp:p<w.length)(hj:j≤(row w p).length)(h:2≤w.length→Fc w 1):Fc (leaf w p j) 1:=by
 have gv:=t5 (i:=j) g lp;have rows:∀q,row (leaf w p j) q=if q=w.length then [p] else if p=q then ins (row w p) j w.length else row w q:=λq=>wZ lp;have ln:(leaf w p j).length=w.length+1:=mR ..;generalize leaf w p j=v at gv rows ln;have pn:p≠w.length:=by omega
 have vn:row v w.length= [p]:=by rw [rows,if_pos rfl]
 have vp:row v p=ins (row w p) j w.length:=by rw [rows,if_neg pn,if_pos rfl]
 have nw:w.length∉row w p:=λz=>mJ _ (g.rng _ _ z)
 have k2:bw v (p,w.length)=(w.length,p):=by
  show (w.length,aK (row v w.length) p)=_;rw [vn];unfold aK;simp
 by_cases hr:row w p= []
 ·
  have l1:w.length=1:=by
   apply Classical.byContradiction;intro z
   obtain ⟨q,hq,Zw⟩:∃q,q<w.length∧q≠p:=by
    by_cases c:p=0
    ·exact ⟨1,by omega,by omega⟩
    ·exact ⟨0,by omega,λe=>c e.symm⟩
   have none_:∀x,Reach w p x→x=p:=λx hx=>by
    induction hx with
    |refl=>rfl
    |step _ h ih=>rw [ih,hr] at h;cases h
   have back:∀{a b},Reach w a b→Reach w b a:=λ {a b} h=>by
    have tr:∀{a b c},Reach w a b→Reach w b c→Reach w a c:=λ {a b c} h1 h2=>by
     induction h2 with
     |refl=>exact h1
     |step _ h ih=>exact .step ih h
    induction h with
    |refl=>exact .refl _
    |step _ h ih=>exact tr (.step (.refl _) (g.sym _ _ h)) ih
   have tr:∀{a b c},Reach w a b→Reach w b c→Reach w a c:=λ {a b c} h1 h2=>by
    induction h2 with
    |refl=>exact h1
    |step _ h ih=>exact .step ih h
   exact Zw (none_ q (tr (back (g.con p lp)) (g.con q hq)))
  have p0:p=0:=by omega
  have L4:row v p= [w.length]:=by rw [vp,hr];unfold ins;simp
  have k3:bw v (w.length,p)=(p,w.length):=by
   show (p,aK (row v p) w.length)=_;rw [L4];unfold aK;simp
  refine ⟨[[(p,w.length),(w.length,p)]],λr hr=>?_,?_,rfl⟩
  ·rw [bN] at hr
   subst hr;refine ⟨(p,w.length),m7 ⟨rfl,by rw [k2];exact ⟨rfl,k3⟩⟩ (by simp) ?_,show w.length∈row v p by rw [L4];simp⟩
   rw [fk];exact ⟨λh=>by rw [bN] at h;exact pn (Prod.mk.inj h).1,by simp⟩
  ·refine (mG ?_ (bb gv)).mpr λd=>?_
   ·show ([(p,w.length),(w.length,p)]:List Dt).Nodup
    rw [fk];exact ⟨λh=>by rw [bN] at h;exact pn (Prod.mk.inj h).1,by simp⟩
   ·obtain ⟨d1,d2⟩:=d
    rw [aB];show (d1,d2)∈([(p,w.length),(w.length,p)]:List Dt)↔d2∈row v d1
    constructor
    ·intro h
     rcases bE.mp h with h|h
     ·rw [(Prod.mk.inj h).1,(Prod.mk.inj h).2,L4];simp
     ·rw [bN] at h;rw [(Prod.mk.inj h).1,(Prod.mk.inj h).2,vn];simp
    ·intro h
     have hd:=cf h
     by_cases c:d1=p
     ·subst c
      rw [L4,bN] at h;subst h;simp
     ·have:d1=w.length:=by omega
      subst this;rw [vn,bN] at h;subst h;simp
 ·have l2:2≤w.length:=by
   obtain ⟨q,hq⟩:=List.exists_mem_of_ne_nil _ hr
   have:=g.rng _ _ hq
   have:q≠p:=λe=>g.irr p (by rw [e] at hq;exact hq)
   omega
  obtain ⟨r,hP⟩:∃r,F2 (row w p) (row v p) r w.length:=by
   rw [vp]
   by_cases c:j<(row w p).length
   ·exact ⟨(row w p)[j],uO (cK c)⟩
   ·have hl:=A7.mpr hr
    rw [show j=(row w p).length by omega]
    exact ⟨(row w p)[0],IZ (cK hl)⟩
  obtain ⟨a1,a2,_,a4,a5⟩:=hP.succ (g.nod p) nw;have sm:∀e:Dt,az w e→e.1∈row w e.2:=λe h=>g.sym _ _ h;refine GY (p:=p) (r:=r) g gv a5 rfl (λe he h1=>?_) (λe he h1=>?_) k2 ?_ (λd=>?_) (h l2)
  ·by_cases c:e.2=p
   ·have e2:=a2 e.1 (by rw [←c];exact sm e he)
    unfold bw at h1 ⊢;rw [c] at h1 ⊢;rw [e2,if_neg (λz=>h1 (by rw [z]))]
   ·have:e.2<w.length:=g.rng _ _ he
    unfold bw;rw [rows,if_neg (by omega),if_neg (Ne.symm c)]
  ·have c:e.2=p:=congrArg Prod.fst h1
   have e2:=a2 e.1 (by rw [←c];exact sm e he)
   unfold bw at h1 ⊢;rw [c] at h1 ⊢;rw [e2,if_pos (Prod.mk.inj h1).2]
  ·show (p,aK (row v p) w.length)=(p,r)
   rw [a1]
  ·obtain ⟨d1,d2⟩:=d
   show d2∈row v d1↔_∨_∨d2∈row w d1
   by_cases c1:d1=p
   ·subst c1
    rw [a4];exact ⟨λh=>h.elim (λh=> .inl (by rw [h])) λh=> .inr (.inr h),λh=>h.elim (λh=> .inl (Prod.mk.inj h).2) λh=>h.elim (λh=>absurd (Prod.mk.inj h).1 pn) .inr⟩
   ·by_cases c2:d1=w.length
    ·subst c2
     rw [vn,bN];exact ⟨λh=> .inr (.inl (by rw [h])),λh=>h.elim (λh=>absurd (Prod.mk.inj h).1.symm pn) λh=>h.elim (λh=>(Prod.mk.inj h).2) λh=>absurd (cf h) (mJ _)⟩
    ·rw [rows,if_neg c2,if_neg (Ne.symm c1)]
     exact ⟨λh=> .inr (.inr h),λh=>h.elim (λh=>absurd (Prod.mk.inj h).1 c1) λh=>h.elim (λh=>absurd (Prod.mk.inj h).1 c2) id⟩
theorem GV{b:Bool}{w:W}(h:2≤w.length→Fc w 1)(dg:fc w+2=2*w.length):Eu b w:=λl2=>⟨1,h l2,by omega,λ_=>by omega⟩
end Wb
namespace tq
open PySem L2 Wb
abbrev CD:Stmt:=top 29
def aR(r:List Nat):List V:=r.map λ(n:Nat)=>V.int (n:Int)
def Off(S:List Addr)(H H':Hp):Prop:=∀b o,b∉S→H b=some o→H' b=some o
theorem Off.trans{S:List Addr}{H H1 H2:Hp}(a:Off S H H1)(b:Off S H1 H2):Off S H H2:=λc o hc h=>b c o hc (a c o hc h)
theorem Off.of_same{S:List Addr}{H H':Hp}(h:aC H H'):Off S H H':=λb o _ e=>h b o e
theorem Off.put{S:List Addr}{H:Hp}{a:Addr}{o:HO}(h:a∈S∨H a=none):Off S H (upd H a o):=λb u hb e=>by
 rw [ab (λz=>?_)]
 ·exact e
 ·rcases h with h|h
  ·rw [z] at hb;exact hb h
  ·rw [z,h] at e;cases e
structure aH (H:Hp) (T:Addr) (as:List Addr) (w:W):Prop where
 top:H T=some (.lst (as.map V.ref))
 nod:as.Nodup
 nT:T∉as
 len:as.length=w.length
 row:∀(i:Nat) a,as[i]? =some a→H a=some (.lst (aR (Wb.row w i)))
theorem aH.keep{H H':Hp}{T:Addr}{as:List Addr}{w:W}(R:aH H T as w)(h:∀b,b=T∨b∈as→H' b=H b):aH H' T as w:=
 ⟨by rw [h T (.inl rfl)];exact R.top,R.nod,R.nT,R.len,λi a e=>by rw [h a (.inr (di e))];exact R.row i a e⟩
theorem aH.off{S:List Addr}{H H':Hp}{T:Addr}{as:List Addr}{w:W}(R:aH H T as w)(h:Off S H H')(hT:T∉S)(ha:∀a∈as,a∉S):aH H' T as w:=
 ⟨h _ _ hT R.top,R.nod,R.nT,R.len,λi a e=>h _ _ (ha a (di e)) (R.row i a e)⟩
theorem aH.at{H:Hp}{T:Addr}{as:List Addr}{w:W}(R:aH H T as w){p:Nat}(hp:p<w.length):∃a,as[p]? =some a∧H a=some (.lst (aR (Wb.row w p))):=by
 have:p<as.length:=by rw [R.len];exact hp
 exact ⟨_,cK this,R.row p _ (cK this)⟩
theorem get_inj{α:Type}{l:List α}(h:l.Nodup){i j:Nat}{a:α}(h1:l[i]? =some a)(h2:l[j]? =some a):i=j:=by
 obtain ⟨a1,b1⟩:=cu.mp h1;obtain ⟨a2,b2⟩:=cu.mp h2;exact (List.getElem_inj h).mp (b1.trans b2.symm)
theorem aH.put{H H':Hp}{T:Addr}{as:List Addr}{w:W}(R:aH H T as w){p:Nat}{a:Addr}{r:List Nat}(ha:as[p]? =some a)(h:∀b,b=T∨b∈as→b≠a→H' b=H b)(e:H' a=some (.lst (aR r))):aH H' T as (w.set p r):=by
 have hp:p<w.length:=by rw [←R.len];exact (cu.mp ha).1
 have am:=di ha;refine ⟨by rw [h T (.inl rfl) (λz=>R.nT (by rw [z];exact am))];exact R.top,R.nod,R.nT,by rw [R.len,fC],λi b hb=>?_⟩
 rw [fz hp]
 by_cases hi:p=i
 ·subst hi
  rw [ha] at hb;cases hb;rw [if_pos rfl];exact e
 ·rw [if_neg hi,h b (.inr (di hb)) (λz=>hi (get_inj R.nod ha (by rw [←z];exact hb)))]
  exact R.row i b hb
theorem aH.snoc{H H':Hp}{T:Addr}{as:List Addr}{w:W}(R:aH H T as w){a:Addr}{r:List Nat}(na:a∉as)(nT:a≠T)(h:∀b,b∈as→H' b=H b)(eT:H' T=some (.lst ((as++ [a]).map V.ref)))(e:H' a=some (.lst (aR r))):aH H' T (as++ [a]) (w++ [r]):=by
 refine ⟨eT,?_,λz=>?_,by simp [R.len],λi b hb=>?_⟩
 ·rw [b7]
  exact ⟨R.nod,by simp,λx hx y hy z=>by
   have:y=a:=by simpa using hy
   rw [this] at z;rw [z] at hx;exact na hx⟩
 ·rcases b9.mp z with z|z
  ·exact R.nT z
  ·have z':T=a:=by simpa using z
   exact nT z'.symm
 ·rw [w4]
  by_cases hi:i<as.length
  ·rw [j2 hi] at hb
   rw [if_neg (by rw [←R.len];omega),h b (di hb)]
   exact R.row i b hb
  ·have eW:i=as.length:=by
    have:=(cu.mp hb).1
    simp at this;omega
   subst eW;rw [jr (aV _)] at hb;simp at hb;rw [if_pos R.len,←hb];exact e
theorem bF(r:List Nat):(aR r).length=r.length:=aP _
theorem m8(r:List Nat)(i n:Nat):aR (ins r i n)=ins (aR r) i (.int (n:Int)):=ins_map _ _ _ _
def LQ:Sp:=λvs H Q _=>∃(l:Addr)(ns:List Int)(m:Nat),vs= [.int (m:Int), .ref l]∧H l=some (.lst (ns.map V.int))∧ns≠ []∧ns.length≤2∧1≤m∧m≤14∧
 ∀(T:Addr)(as:List Addr)(w:W)(ds:List Int)(H':Hp),Off [l] H H'→H T=none→(∀a∈as,H a=none)→aH H' T as w→Good w→w.length=m→H' l=some (.lst (ds.map V.int))→ds≠ []→ds.length≤2→fc w+2=2*m→(2≤w.length→Fc w 1)→Q (.ref T) H'
section
variable {P:Program} {w:World} {K:PySem.W.Frag} {mg:Str→Option Value} {base:Heap}
theorem D2:aJ ["_law_many","_law_left","_law_turns","_law_new","_law_p"] ["_law_many","_law_left"] (ao CD):=⟨rfl,rfl,rfl,by decide+kernel,rfl,by decide+kernel,by decide+kernel⟩
theorem IA(B:vC mg)(Tk:bP K mg "_law_take" qY ["_law_left","_law_many"])(D:bP K mg "_law_tree" CD ["_law_many","_law_left"]):FnOk P w K mg base cw 2 D.f D.fd ["_law_many","_law_left"] LQ:=by
 refine D.F.ok D2 (λvs H Q E h=>?_) (λbr A outer s H vs Q E hr h=>?_)
 ·obtain ⟨a,ns,k,rfl,_⟩:=h
  rfl
 obtain ⟨l,ns,m,rfl,hl,jw,hz,h1,cF,q⟩:=h;have nd:=D2.nd;have gT:=pT (P:=P) (w:=w) (base:=base) B Tk
 refine ⟨_,aD (bC (i:=2) nd rfl (Or.inl rfl) (dN (ae (dN ar) ar)))
  (aD (iB PassesOwn.never rfl (Cp rfl B.range (ae aM (ae (pv 0) ar))) (bI (i:=3) nd rfl (Or.inl rfl))
   (aD (bC (i:=4) nd rfl (Or.inl rfl) (bf gT hr rfl Tk.m Tk.F.kp Tk.b .nil bR (ae (pv 1) (ae (pv 3) ar))))
   (aD (cR (fM PySem.F.plainAttrs_list PySem.F.slot_list_insert PySem.F.type_list_insert kv (bY bp (pv 2) (pv 4) (λ_ _=>rfl))
     (ae (bf gT hr rfl Tk.m Tk.F.kp Tk.b .nil bR (ae (pv 1) (ae (bZ gh (cA bU rfl B.len PySem.boot_len (ae (bY bp (pv 2) (pv 4) (λ_ _=>rfl)) ar)) aM) ar))) (ae (pv 3) ar))))
   (bg (cR (fM PySem.F.plainAttrs_list PySem.F.slot_list_append PySem.F.type_list_append fL (pv 2) (ae (dN (ae (pv 4) ar)) ar)))))))
  (bg (fh (pv 2)))),?_⟩
 refine ⟨by show 0≤sizeLine;decide,λr0 O3=>⟨by show 1≤sizeLine;decide,λT hT=>?_⟩⟩
 have Pu:T≠r0:=λz=>by rw [z,aa] at hT;cases hT
 have Hj:H T=none:=by rw [ab Pu] at hT;exact hT
 have sE:l≠T:=ah hl Hj;have nl0:l≠r0:=ah hl O3;refine ⟨_,rfl,1,(m:Int),rfl,⟨by decide,by decide,by omega,by omega⟩,?_⟩
 refine kg (λi σ H'=>∃as w ds o3 o4,σ= [some (.int (m:Int)),some (.ref l),some (.ref T),o3,o4]∧Off [l] H H'∧(∀a∈as,H a=none)∧aH H' T as w∧Good w∧w.length=i+1∧H' l=some (.lst (ds.map V.int))∧ds≠ []∧ds.length≤2∧fc w=2*i∧(2≤w.length→Fc w 1)) ?_ (λi σ H' hi hP=>?_) (λσ H' hP=>?_)
 ·refine ⟨[r0],[[]],ns,_,_,rfl,(Off.put (.inr O3)).trans (Off.put (.inr hT)),λa ha=>?_,⟨aa,by simp,by simpa using Pu,rfl,λi a e=>?_⟩,EK,rfl,?_,jw,hz,rfl,λz=>absurd z (by decide)⟩
  ·have:a=r0:=by simpa using ha
   rw [this];exact O3
  ·cases i with
   |zero=>
    have:a=r0:=by simpa using e.symm
    rw [this,ab (Ne.symm Pu),aa];rfl
   |succ i=>simp at e
  ·rw [ab sE,ab nl0];exact hl
 ·obtain ⟨as,w',ds,o3,o4,rfl,off,fr,R,g,hlen,BL,Hx,KA,Y2,ON⟩:=hP
  have jO:l∉as:=λz=>by have:=fr l z;rw [hl] at this;cases this
  refine ⟨_,rfl,_,rfl,l,ds,_,rfl,BL,Hx,by omega,by omega,by omega,λd nk d0 d1 nH HI=>?_⟩
  have R1:aH (upd H' l (.lst (nk.map V.int))) T as w':=R.keep λb hb=>by
   refine ab λz=>?_
   rcases hb with hb|hb
   ·exact sE (z.symm.trans hb)
   ·rw [z] at hb;exact jO hb
  obtain ⟨p,rfl⟩:=qo d0;have hp:p<w'.length:=by omega
  obtain ⟨a,ha,gS⟩:=R1.at hp;have K6:l≠a:=λz=>jO (by rw [z];exact di ha)
  have nj:f6 (as.map V.ref) ((p:Nat):Int)=some (.ref a):=bW (by rw [ck,ha];rfl)
  refine ⟨_,rfl,_,rfl,T,_,_,_,rfl,rfl,aG.of R1.top,nj, .inl ⟨rfl,_,aG.of gS⟩,?_⟩;refine ⟨_,rfl,_,rfl,_,rfl,T,_,_,_,rfl,rfl,aG.of R1.top,nj,a,_,rfl, .inl (aG.of gS),_,_,rfl,rfl,?_⟩;have rl:=eY g p;rw [bF];refine ⟨l,nk,_,rfl,aa,nH,by omega,by omega,by omega,λd2 jK e0 e1 rD KC=>?_⟩
  rw [qh]
  have R2:aH (upd H' l (.lst (jK.map V.int))) T as w':=R.keep λb hb=>by
   refine ab λz=>?_
   rcases hb with hb|hb
   ·exact sE (z.symm.trans hb)
   ·rw [z] at hb;exact jO hb
  have BQ:=R2.row p a ha;refine ⟨_,rfl,a,_,d2,_,rfl,rfl,BQ,e0,by rw [bF];omega,mI (by rw [bF];exact rl) (bq (by omega)),?_⟩
  obtain ⟨j,rfl⟩:=qo e0;have ew:(1:Int)+(i:Int)=((w'.length:Nat):Int):=by omega
  rw [ew,kT,←m8];have R3:aH (upd (upd H' l (.lst (jK.map V.int))) a (.lst (aR (ins (row w' p) j w'.length)))) T as (w'.set p (ins (row w' p) j w'.length)):=R2.put ha (λb _ hb=>ab hb) aa;refine ⟨_,rfl, .inl ⟨rfl,_,aG.of R3.top⟩,_,rfl,by show 1≤sizeLine;decide,λr ft=>?_⟩
  have PF:r≠T:=Ne.symm (ah R3.top ft)
  have Il:r∉as:=λz=>by
   obtain ⟨k,hk⟩:=gz z
   have:=R3.row k r hk
   rw [ft] at this;cases this
  have PJ:r≠l:=λz=>by
   rw [z,ab K6,aa] at ft;cases ft
  refine ⟨T,_, .ref r,rfl,rfl,by rw [ab (Ne.symm PF)];exact R3.top,mI (by rw [aP,R3.len,fC];exact aV _) (bq (by omega)),?_⟩
  have TU:H r=none:=by
   cases e:H r with
   |none=>rfl
   |some o=>
    have:=off r o (by simpa using PJ) e
    rw [ab (λz=>Il (by rw [z];exact di ha)),ab PJ] at ft
    rw [ft] at this;cases this
  have YQ:H a=none:=fr a (di ha);refine ⟨as++ [r],leaf w' p j,jK,_,_,rfl,?_,λb hb=>?_,?_,t5 g hp,by rw [mR];omega,?_,rD,by omega,by rw [Ey hp];omega,λ_=>EE g hp (by omega) ON⟩
  ·intro b o hb e
   have YU:b≠l:=by simpa using hb
   rw [ab (λz=>by rw [z,Hj] at e;cases e),ab (λz=>by rw [z,TU] at e;cases e),ab (λz=>by rw [z,YQ] at e;cases e),ab YU]
   exact off b o hb e
  ·rcases b9.mp hb with z|z
   ·exact fr b z
   ·have:b=r:=by simpa using z
    rw [this];exact TU
  ·refine R3.snoc (r:= [p]) Il PF (λb hb=>?_) ?_ ?_
   ·rw [ab (λz=>R3.nT (by rw [←z];exact hb)),ab (λz=>Il (by rw [←z];exact hb))]
   ·rw [aa,dW];rfl
   ·rw [ab PF,aa];rfl
  ·rw [ab sE,ab (Ne.symm PJ),ab K6,aa]
 ·obtain ⟨as,w',ds,o3,o4,rfl,off,fr,R,g,hlen,BL,Hx,KA,Y2,ON⟩:=hP
  exact ⟨_,rfl,q T as w' ds H' off Hj fr R g (by omega) BL Hx KA (by omega) ON⟩
end
abbrev uT:Stmt:=top 30
abbrev sX:Stmt:=top 31
theorem gJ{r:List Nat}{i n:Nat}(h:r[i]? =some n):(aR r)[i]? =some (.int (n:Int)):=by unfold aR;rw [ck,h];rfl
theorem kF(r:List Nat):(aR r).all gb=true:=by
 rw [List.all_eq_true];intro x hx;obtain ⟨n,_,rfl⟩:=bS.mp hx;rfl
theorem qV{r:List Nat}{i:Nat}{z:V}(h:(aR r)[i]? =some z):∃n,r[i]? =some n∧z= .int (n:Int):=by
 unfold aR at h;rw [ck] at h;cases e:r[i]? with
 |none=>rw [e] at h;cases h
 |some n=>rw [e] at h;cases h;exact ⟨n,rfl,rfl⟩
theorem pJ{r:List Nat}{p:Nat}(h:p∈r):r[r.idxOf p]? =some p:=by
 have lt:=nU.mpr h;rw [cK lt,se lt]
theorem KD{r:List Nat}(nd:r.Nodup){p m n:Nat}(h:p∈r)(hm:m<r.idxOf p)(e:r[m]? =some n):n≠p:=λz=>by
 rw [z] at e
 have:=get_inj nd e (pJ h)
 omega
theorem mN(p:Nat):oe (.int (p:Int)) (.int (p:Int))=true:=by simp [oe]
theorem oI{r:List Nat}(nd:r.Nodup){p:Nat}(h:p∈r)(m:Nat)(z:V)(hm:m<r.idxOf p)(hz:(aR r)[m]? =some z):oe z (.int (p:Int))=false:=by
 obtain ⟨n,hn,rfl⟩:=qV hz
 have:=KD nd h hm hn
 simp [oe];omega
def yU:Sp:=λvs H Q _=>∃(T sd:Addr)(as:List Addr)(w:W)(d:Nat×Nat),vs= [.ref T, .ref sd]∧aH H T as w∧Good w∧w.length≤14∧H sd=some (.tup (gk d))∧az w d∧
 ∀t,H t=none→Q (.ref t) (upd H t (.tup (gk (bw w d))))
section
variable {P:Program} {w:World} {K:PySem.W.Frag} {mg:Str→Option Value} {base:Heap}
theorem D0:aJ ["_law_turns","_law_side","_law_p","_law_q"] ["_law_turns","_law_side"] (ao uT):=⟨rfl,rfl,rfl,by decide+kernel,rfl,by decide+kernel,by decide+kernel⟩
theorem Iz(B:vC mg)(D:bP K mg "_law_next" uT ["_law_turns","_law_side"]):FnOk P w K mg base cw 1 D.f D.fd ["_law_turns","_law_side"] yU:=by
 refine D.F.ok D0 (λvs H Q E h=>?_) (λbr A outer s H vs Q E hr h=>?_)
 ·obtain ⟨T,sd,as,w,d,rfl,_⟩:=h
  rfl
 obtain ⟨T,sd,as,w',⟨p,q'⟩,rfl,R,g,cF,z0,hd,q⟩:=h;have nd:=D0.nd
 refine ⟨_,aD (mZ (pv 1) (mY rfl (dZ (bI (i:=2) nd rfl (Or.inl rfl)) (dZ (bI (i:=3) nd rfl (Or.inl rfl)) jU))))
  (bg (fh (sV (ae (pv 3) (ae (bY bp (bY bp (pv 0) (pv 3) (λ_ _=>rfl))
   (bZ mV (bZ gh (fM PySem.F.plainAttrs_list PySem.F.slot_list_index PySem.F.type_list_index mU (bY bp (pv 0) (pv 3) (λ_ _=>rfl)) (ae (pv 2) ar)) aM)
    (cA bU rfl B.len PySem.boot_len (ae (bY bp (pv 0) (pv 3) (λ_ _=>rfl)) ar))) (λ_ _=>rfl)) ar))))),?_⟩
 have Kw:p∈row w' q':=g.sym _ _ hd;have hq:q'<w'.length:=g.rng _ _ hd;obtain ⟨a,ha,gS⟩:=R.at hq;have nj:f6 (as.map V.ref) ((q':Nat):Int)=some (.ref a):=bW (by rw [ck,ha];rfl)
 have hlen:0<(row w' q').length:=rZ Kw;refine ⟨_,rfl,sd,_,rfl,cJ.of z0,rfl,_,_,rfl,_,_,rfl,rfl,?_⟩;refine ⟨_,rfl,_,rfl,_,rfl,T,_,_,_,rfl,rfl,aG.of R.top,nj,?_⟩;refine ⟨_,rfl,_,rfl,T,_,_,_,rfl,rfl,aG.of R.top,nj, .inl ⟨rfl,_,aG.of gS⟩,_,rfl,?_⟩;refine ⟨a,_,_,(row w' q').idxOf p,_,rfl,rfl,gS,rfl,kF _,gJ (pJ Kw),mN p,oI (g.nod _) Kw,?_⟩;refine ⟨_,_,rfl,rfl,_,rfl,_,rfl,T,_,_,_,rfl,rfl,aG.of R.top,nj,a,_,rfl, .inl (aG.of gS),_,_,rfl,rfl,?_⟩;rw [bF];refine ⟨by omega,?_⟩
 have em:((((row w' q').idxOf p:Nat):Int)+1)%((row w' q').length:Int)=((((row w' q').idxOf p+1)%(row w' q').length:Nat):Int):=by rw [Int.natCast_emod,Int.natCast_add];rfl
 have YS:f6 (aR (row w' q')) (((((row w' q').idxOf p:Nat):Int)+1)%((row w' q').length:Int))=some (.int (aK (row w' q') p:Nat)):=by
  rw [em];exact bW (gJ (iW Kw))
 refine ⟨a,_,_,_,rfl,rfl,aG.of gS,YS,by show 2≤sizeLine;decide,λt ht=>?_⟩
 exact q t ht
def u0:Sp:=λvs H Q _=>∃(T sd:Addr)(as:List Addr)(w:W)(d:Nat×Nat),vs= [.ref T, .ref sd]∧aH H T as w∧Good w∧w.length≤14∧H sd=some (.tup (gk d))∧az w d∧
 ∀(F:Addr)(L:List (Addr×(Nat×Nat)))(k:Nat)(H':Hp),aC H H'→H F=none→H' F=some (.lst (L.map λe=>V.ref e.1))→nY H' L→L.map (·.2)=walk w d k→0<k→bo w k d=d→(∀j,0<j→j<k→bo w j d≠d)→Q (.ref F) H'
theorem AE:aJ ["_law_turns","_law_side","_law_found","_law_here"] ["_law_turns","_law_side"] (ao sX):=⟨rfl,rfl,rfl,by decide+kernel,rfl,by decide+kernel,by decide+kernel⟩
theorem zK{K:PySem.W.Frag}{H:Hp}{a:Addr}{d:Nat×Nat}(h:H a=some (.tup (gk d))):Dp K H (.ref a) (kS d):= .tup (cJ.of h) (.cons (.int _) (.cons (.int _) .nil))
theorem Fo(B:vC mg)(Nx:bP K mg "_law_next" uT ["_law_turns","_law_side"])(D:bP K mg "_law_round" sX ["_law_turns","_law_side"]):FnOk P w K mg base cw 2 D.f D.fd ["_law_turns","_law_side"] u0:=by
 refine D.F.ok AE (λvs H Q E h=>?_) (λbr A outer s H vs Q E hr h=>?_)
 ·obtain ⟨T,sd,as,w,d,rfl,_⟩:=h
  rfl
 obtain ⟨T,sd,as,w',d,rfl,R,g,cF,z0,hd,q⟩:=h;have nd:=AE.nd;have gN:=Iz (P:=P) (w:=w) (base:=base) B Nx
 refine ⟨_,aD (bC (i:=2) nd rfl (Or.inl rfl) (dN (ae (pv 1) ar)))
  (aD (bC (i:=3) nd rfl (Or.inl rfl) (bf gN hr rfl Nx.m Nx.F.kp Nx.b .nil bR (ae (pv 0) (ae (pv 1) ar))))
  (aD (wW PassesOwn.never (gU (yN hr.units) (pv 3) (pv 1) (bK _))
   (aD (cR (fM PySem.F.plainAttrs_list PySem.F.slot_list_append PySem.F.type_list_append fL (pv 2) (ae (pv 3) ar)))
    (bg (bC (i:=3) nd rfl (Or.inl rfl) (bf gN hr rfl Nx.m Nx.F.kp Nx.b .nil bR (ae (pv 0) (ae (pv 3) ar)))))))
  (bg (fh (pv 2))))),?_⟩
 refine ⟨_,rfl,by show 1≤sizeLine;decide,λF hF=>?_⟩
 have s1:aC H (upd H F (.lst [.ref sd])):=ay hF _;have R1:aH (upd H F (.lst [.ref sd])) T as w':=R.off (S:= []) (Off.of_same s1) (by simp) (by simp)
 refine ⟨_,rfl,_,rfl,T,sd,as,w',d,rfl,R1,g,cF,s1 _ _ z0,hd,λt ht=>?_⟩;have dl:=gG g;have hw:w'.length*w'.length≤196:=rf cF cF
 refine FP (λσ H'=>∃(k:Nat)(L:List (Addr×(Nat×Nat)))(t:Addr),σ= [some (.ref T),some (.ref sd),some (.ref F),some (.ref t)]∧0<k∧L.map (·.2)=walk w' d k∧(∀j,0<j→j<k→bo w' j d≠d)∧aC H H'∧H' F=some (.lst (L.map λe=>V.ref e.1))∧nY H' L∧H' t=some (.tup (gk (bo w' k d))))
  (λσ H'=>(aE w').length+1-(match H' F with|some (.lst xs)=>xs.length|_=>0)) ?_ (λσ H' hP=>?_) (λσ H Q Q' hq h=>?_)
 ·have nFt:F≠t:=λz=>by rw [←z,aa] at ht;cases ht
  have nsF:sd≠F:=ah z0 hF;refine ⟨1,[(sd,d)],t,rfl,by omega,rfl,λj h1 h2=>by omega,s1.trans (ay ht _),by rw [ab nFt];exact aa,λe he=>?_,aa⟩
  have t6:e=(sd,d):=by simpa using he
  rw [t6];exact (s1.trans (ay ht _)) _ _ z0
 ·obtain ⟨k,L,t,rfl,hk,hL,yb,sm,EM,DD,vP⟩:=hP
  refine ⟨_,rfl,_,rfl,_,_,zK vP,zK (sm _ _ z0),by have:=rp (bo w' k d);omega,_,rfl,?_⟩
  refine rH (λc=>?_) (λc=>?_)
  ·have jw:bo w' k d≠d:=λz=>by
    rw [(wj _ _).mpr z] at c;cases c
   have MQ:∀j,0<j→j<k+1→bo w' j d≠d:=λj h1 h2=>by
    by_cases hj:j=k
    ·rw [hj];exact jw
    ·exact yb j h1 (by omega)
   have Ts:=qi g hd MQ;have lL:L.length=k:=by have:=congrArg List.length hL;rw [aP,eB] at this;exact this
   refine ⟨_,rfl, .inl ⟨rfl,_,aG.of EM⟩,_,rfl,F,_, .ref t,rfl,rfl,EM,mI (by rw [aP,lL];exact aV _) (bq (by omega)),?_⟩
   have nFH:H F=none:=hF;have LL:aC H (upd H' F (.lst ((L.map λe=>V.ref e.1)++ [.ref t]))):=λb o e=>by rw [ab (ah e hF)];exact sm b o e
   have R2:aH (upd H' F (.lst ((L.map λe=>V.ref e.1)++ [.ref t]))) T as w':=R.off (S:= []) (Off.of_same LL) (by simp) (by simp)
   have U5:t≠F:=λz=>by rw [z,EM] at vP;cases vP
   refine ⟨_,rfl,_,rfl,T,t,as,w',bo w' k d,rfl,R2,g,cF,by rw [ab U5];exact vP,dr g hd k,λt2 HF=>?_⟩
   have Im:t2≠F:=λz=>by rw [z,aa] at HF;cases HF
   have K8:H' t2=none:=by rw [ab Im] at HF;exact HF
   refine ⟨⟨k+1,L++ [(t,bo w' k d)],t2,rfl,by omega,?_,MQ,LL.trans (ay HF _),?_,λe he=>?_,aa⟩,?_⟩
   ·rw [dW,hL,oX];rfl
   ·rw [ab (Ne.symm Im),aa,dW];rfl
   ·rcases b9.mp he with z|z
    ·have xT:=DD e z
     rw [ab (ah xT K8),ab (λy=>by rw [y,EM] at xT;cases xT)]
     exact xT
    ·have z':e=(t,bo w' k d):=by simpa using z
     rw [z'];show upd _ t2 _ t=_;rw [ab (ah vP K8),ab U5];exact vP
   ·show (aE w').length+1-_<(aE w').length+1-_
    rw [ab (Ne.symm Im),aa,EM];simp only [dX,aP,List.length_singleton];omega
  ·have heq:bo w' k d=d:=by
    apply Classical.byContradiction;intro z;apply c
    have:PyData.eqv (kS (bo w' k d)) (kS d)=false:=by
     cases y:PyData.eqv (kS (bo w' k d)) (kS d) with
     |false=>rfl
     |true=>exact absurd ((wj _ _).mp y) z
    rw [this];rfl
   exact ⟨_,rfl,q F L k H' sm hF EM DD hL hk heq yb⟩
 ·obtain ⟨v1,e1,v2,e2,d',e',a,b,c,k,ek,q⟩:=h
  exact ⟨v1,e1,v2,e2,d',e',a,b,c,k,ek,hq _ _ q⟩
end
end tq
namespace L2
open PySem
theorem Dq{K:PySem.W.Frag}{H:Hp}:∀{M:List (Addr×(Nat×Nat))},nY H M→eD K H (M.map λe=>V.ref e.1) (M.map λe=>kS e.2)
 | [],_=> .nil
 |e::M,h=> .cons (.tup (cJ.of (h e b8)) (.cons (.int _) (.cons (.int _) .nil))) (Dq λx hx=>h x (cn _ hx))
end L2
namespace tq
open PySem L2 Wb
theorem He{i:Nat}{x:V}{σ:St}{H:Hp}{P R:St→Hp→Prop}(h:P (σ.set i (some x)) H):tZ i x σ H (λcS H4=>Ea cS H4 (λb H5=>if b=true then P cS H5 else R cS H5)):=by
 show (if true=true then P (σ.set i (some x)) H else R (σ.set i (some x)) H);rw [if_pos rfl];exact h
abbrev uU:Stmt:=top 32
theorem LG{w:W}(g:Good w)(h2:2≤w.length){p:Nat}(hp:p<w.length):row w p≠ []:=by
 intro z
 have hq:∃q,q<w.length∧q≠p:=by
  by_cases h:p=0
  ·exact ⟨1,by omega,by omega⟩
  ·exact ⟨0,by omega,λy=>h y.symm⟩
 obtain ⟨q,hq,ne⟩:=hq;have r:=((g.con p hp).symm g.sym).trans (g.con q hq)
 have:∀{a b},Reach w a b→a=p→b=p:=λ {a b} h=>by
  induction h with
  |refl=>exact id
  |step _ hr ih=>
   intro e
   have:=ih e
   rw [this,z] at hr;cases hr
 exact ne (this r rfl)
structure NG (H:Hp) (w:W) (S:Addr) (L:List (Addr×(Nat×Nat))):Prop where
 at':H S=some (.lst (L.map λe=>V.ref e.1))
 prs:nY H L
 dart:∀e∈L,az w e.2
 few:L.length≤196
def Qd:Sp:=λvs H Q _=>∃(T l:Addr)(b:Bool)(as:List Addr)(w:W)(ns:List Int),vs= [.ref T, .ref l, .bl b]∧aH H T as w∧Good w∧2≤w.length∧w.length≤14∧H l=some (.lst (ns.map V.int))∧ns≠ []∧ns.length≤2∧l≠T∧l∉as∧
 ∀(w':W)(ds:List Int)(H':Hp),Off (l::as) H H'→aH H' T as w'→Good w'→w'.length=w.length→H' l=some (.lst (ds.map V.int))→ds≠ []→ds.length≤2→fc w'≤fc w+2→F4 b w w'→Q .aL H'
section
variable {P:Program} {w:World} {K:PySem.W.Frag} {mg:Str→Option Value} {base:Heap}
theorem Jn:aJ ["_law_turns","_law_left","_law_plane","_law_p","_law_r","_law_sides","_law_q","_law_turn","_law_u","_law_v"] ["_law_turns","_law_left","_law_plane"] (ao uU):=⟨rfl,rfl,rfl,by decide+kernel,rfl,by decide+kernel,by decide+kernel⟩
theorem Le(B:vC mg)(Tk:bP K mg "_law_take" qY ["_law_left","_law_many"])(Nx:bP K mg "_law_next" uT ["_law_turns","_law_side"])(Rd:bP K mg "_law_round" sX ["_law_turns","_law_side"])
  (D:bP K mg "_law_tie" uU ["_law_turns","_law_left","_law_plane"]):FnOk P w K mg base cw 3 D.f D.fd ["_law_turns","_law_left","_law_plane"] Qd:=by
 refine D.F.ok Jn (λvs H Q E h=>?_) (λbr A outer s H vs Q E hr h=>?_)
 ·obtain ⟨T,l,b,as,w,ns,rfl,_⟩:=h
  rfl
 obtain ⟨T,l,b,as,w',ns,rfl,R,g,h2,cF,hl,jw,hz,sE,jO,q⟩:=h;have nd:=Jn.nd;have gT:=(pT (P:=P) (w:=w) (base:=base) B Tk).mono (show 1≤2 by decide)
 have gR:=Fo (P:=P) (w:=w) (base:=base) B Nx Rd;have ZH:w'.length*w'.length≤196:=rf cF cF;have nz:(["_law_side","_law_p","_law_turns"]:List Str).Nodup:=by decide+kernel
 obtain ⟨tE,pE,rE⟩:∃t,kY (pj cw P w K mg base ["_law_turns","_law_left","_law_plane","_law_p","_law_r","_law_sides","_law_q","_law_turn","_law_u","_law_v"] "_law_tie" (ao uU) D.f br A outer s H E).ja ((eU uU).drop 4) t∧
   ∀(p r:Nat)(S:Addr)(L:List (Addr×(Nat×Nat)))(ds:List Int)(o6 o7:Option V)(H1:Hp),Off (l::as) H H1→aH H1 T as w'→p<w'.length→r∈row w' p→NG H1 w' S L→(b=true→∃r1,eE w' (p,r) r1∧∀e∈L,e.2∈r1)→H1 l=some (.lst (ds.map V.int))→ds≠ []→ds.length≤2→S≠l→S≠T→S∉as→
    t {nx:=λ_ H'=>Q .aL H',rt:=Q} [some (.ref T),some (.ref l),some (.bl b),some (.int (p:Int)),some (.int (r:Int)),some (.ref S),o6,o7,none,none] H1:=by
  refine ⟨_,aD (jX (i:=5) (NC:= ["_law_side","_law_p","_law_turns"]) (src:= [none,some 3,some 0]) rfl nd rfl (Or.inl rfl) (bH.of (ao uU) rfl rfl (by decide+kernel) (by decide+kernel) (by decide+kernel)) ⟨rfl,rfl,rfl,rfl,trivial⟩ (jV (pv 5))
    (λ_ _ _=>bI (i:=0) nz rfl (Or.inl rfl)) (λ_ _ _=>Av (PW.pt (yQ (gU PR (bY (Aa (K:=K)) (pv 0) aM (λ_ _=>rfl)) (pv 1) (bK _)) (uP (gU (Ck (K:=K)) (bY (Aa (K:=K)) (pv 0) aM (λ_ _=>rfl)) (bY (wF (K:=K)) (pv 2) (pv 1) (λ_ _=>rfl)) rfl))))) (λ_ _ _=>pv 0) rfl)
   (bg (uM (gU (yN hr.units) (pv 5) (dN ar) (bK _))
    (aD (mZ (bY bp (pv 5) (bf gT hr rfl Tk.m Tk.F.kp Tk.b .nil bR (ae (pv 1) (ae (cA bU rfl B.len PySem.boot_len (ae (pv 5) ar)) ar))) (λ_ _=>rfl)) (mY rfl (dZ (bI (i:=8) nd rfl (Or.inl rfl)) (dZ (bI (i:=9) nd rfl (Or.inl rfl)) jU))))
    (aD (cR (fM PySem.F.plainAttrs_list PySem.F.slot_list_insert PySem.F.type_list_insert kv (bY bp (pv 0) (pv 3) (λ_ _=>rfl)) (ae (fM PySem.F.plainAttrs_list PySem.F.slot_list_index PySem.F.type_list_index mU (bY bp (pv 0) (pv 3) (λ_ _=>rfl)) (ae (pv 4) ar)) (ae (pv 8) ar))))
    (bg (cR (fM PySem.F.plainAttrs_list PySem.F.slot_list_insert PySem.F.type_list_insert kv (bY bp (pv 0) (pv 8) (λ_ _=>rfl)) (ae (fM PySem.F.plainAttrs_list PySem.F.slot_list_index PySem.F.type_list_index mU (bY bp (pv 0) (pv 8) (λ_ _=>rfl)) (ae (pv 9) ar)) (ae (pv 3) ar))))))) lV)),?_⟩
  intro p r S L ds o6 o7 H1 off R1 hp vO sd YV E1 nH HI UR UQ M1;obtain ⟨a,ha,gS⟩:=R1.at hp;have nj:f6 (as.map V.ref) ((p:Nat):Int)=some (.ref a):=bW (by rw [ck,ha];rfl)
  refine ⟨_,rfl,S,rfl,⟨_,aG.of sd.at'⟩,λDd hD=>?_⟩;have K4:S≠Dd:=ah sd.at' hD;refine yp (L.map λe=>V.ref e.1).length (λi i6 Hc=>∃(M:List (Addr×(Nat×Nat)))(o:Option V),i6= [o,some (.int (p:Int)),some (.ref T)]∧Hc=upd H1 Dd (.lst (M.map λe=>V.ref e.1))∧(∀e∈M,e∈L∧e.2.1≠p∧e.2.1∉row w' p)∧M.length≤i) ?_ ?_ ?_ ?_ ?_
  ·exact ⟨[],none,rfl,rfl,(λe he=>by cases he),aV _⟩
  ·rintro i i6 Hc hi ⟨M,o,rfl,rfl,_,_⟩
   exact ⟨_,_,aG.of (by rw [ab K4];exact sd.at'),cK hi⟩
  ·rintro i i6 Hc hi ⟨M,o,rfl,rfl,_,_⟩
   exact ⟨_,aG.of (by rw [ab K4];exact sd.at'),hi⟩
  ·rintro i x i6 Hc H3 hi ⟨M,o,rfl,rfl,hM,OD⟩ ⟨rfl,hx⟩
   have vQ:=hx _ (aG.of (by rw [ab K4];exact sd.at'))
   have eW:i<L.length:=by simpa using hi
   rw [ck,cK eW] at vQ;have ex:x= .ref (L[i]).1:=(Option.some.inj vQ).symm;subst ex;have hm:L[i]∈L:=nW eW
   have wB:upd H1 Dd (.lst (M.map λe=>V.ref e.1)) (L[i]).1=some (.tup (gk (L[i]).2)):=by
    have:=sd.prs _ hm
    rw [ab (ah this hD)];exact this
   have UN:T≠Dd:=ah R1.top hD;have nDa:a≠Dd:=ah gS hD;refine ⟨_,rfl,(L[i]).1,_,0,_,rfl,rfl,cJ.of wB,bW (j:=0) rfl,_,rfl,rfl,_,rfl,?_⟩;refine rH (λc=>?_) (λc=>?_)
   ·refine ⟨_,rfl,(L[i]).1,_,0,_,rfl,rfl,cJ.of wB,bW (j:=0) rfl,?_⟩
    refine ⟨_,rfl,_,rfl,T,_,_,_,rfl,rfl,aG.of (by rw [ab UN];exact R1.top),nj,a,_,rfl, .inl (aG.of (by rw [ab nDa];exact gS)),rfl,kF _,_,rfl,?_⟩
    refine rH (λc2=>?_) (λc2=>?_)
    ·refine ⟨_,rfl,_,aa,mI (by rw [aP];exact OD) (bq (by have:=sd.few;omega)),M++ [L[i]],_,rfl,?_,λe he=>?_,by simp;omega⟩
     ·rw [qh,dW];rfl
     ·rcases b9.mp he with z|z
      ·exact hM e z
      ·have z':e=L[i]:=by simpa using z
       rw [z'];refine ⟨hm,λy=>?_,λy=>?_⟩
       ·rw [show V.int ((L[i]).2.1:Int)=V.int (p:Int) by rw [y]] at c
        simp at c
       ·have:BS (V.int ((L[i]).2.1:Int)) (aR (row w' p))=true:=by
         unfold BS;rw [vq];exact ⟨_,bS.mpr ⟨_,y,rfl⟩,mN _⟩
        have c3:(!BS (V.int ((L[i]).2.1:Int)) (aR (row w' p)))=true:=c2;rw [this] at c3;cases c3
    ·exact ⟨M,_,rfl,rfl,hM,by omega⟩
   ·exact dq ⟨M,_,rfl,rfl,hM,by omega⟩
  ·rintro i6 Hc ⟨M,o,rfl,rfl,hM,OD⟩
   have nDl:l≠Dd:=ah E1 hD;have UN:T≠Dd:=ah R1.top hD;have few:=sd.few;rw [aP] at OD
   have VT:nY (upd H1 Dd (.lst (M.map λe=>V.ref e.1))) M:=λe he=>by
    have:=sd.prs e (hM e he).1
    rw [ab (ah this hD)];exact this
   refine ⟨_,rfl,by show 0≤sizeLine;decide,λe1 xT=>?_⟩
   have n1D:e1≠Dd:=λz=>by rw [z,aa] at xT;cases xT
   have CG:aC (upd H1 Dd (.lst (M.map λe=>V.ref e.1))) (upd (upd H1 Dd (.lst (M.map λe=>V.ref e.1))) e1 (.lst [])):=ay xT _;have Nh:nY (upd (upd H1 Dd (.lst (M.map λe=>V.ref e.1))) e1 (.lst [])) M:=λe he=>CG _ _ (VT e he);have Oz:upd (upd H1 Dd (.lst (M.map λe=>V.ref e.1))) e1 (.lst []) Dd=some (.lst (M.map λe=>V.ref e.1)):=CG _ _ aa;have Nc:Off (l::as) H (upd (upd H1 Dd (.lst (M.map λe=>V.ref e.1))) e1 (.lst [])):=off.trans ((Off.put (.inr hD)).trans (Off.put (.inr xT)));have HE:aC H1 (upd (upd H1 Dd (.lst (M.map λe=>V.ref e.1))) e1 (.lst [])):=(ay hD _).trans CG;have R3:aH (upd (upd H1 Dd (.lst (M.map λe=>V.ref e.1))) e1 (.lst [])) T as w':=R1.off (S:= []) (Off.of_same HE) (by simp) (by simp)
   have E2:=HE _ _ E1;refine ⟨_,_, .lst (aG.of Oz) (Dq Nh), .lst (aG.of aa) .nil,?_,_,rfl,?_⟩
   ·rw [PyData.depth]
    have:=nE (f:=λe:Addr×(Nat×Nat)=>kS e.2) (k:=2) (λe=>rp e.2) M
    omega
   generalize SO:upd (upd H1 Dd (.lst (M.map λe=>V.ref e.1))) e1 (.lst [])=H3 at*;refine rH (λc=>?_) (λc=>?_)
   ·have hM0:0<M.length:=by
     cases M with
     |nil=>simp [PyData.eqv,PyData.eqvAll] at c
     |cons _ _=>simp
    refine ⟨_,rfl,_,rfl,_,rfl,Dd,_,rfl, .inl (aG.of Oz),?_⟩;rw [aP];refine ⟨l,ds,_,rfl,E2,nH,by omega,by omega,by omega,λdI jK d0 d1 rD KC=>?_⟩
    obtain ⟨d,rfl⟩:=qo d0;have hd:d<M.length:=by omega
    have nlD:Dd≠l:=λz=>nDl z.symm;have SN:upd H3 l (.lst (jK.map V.int)) Dd=some (.lst (M.map λe=>V.ref e.1)):=by rw [ab nlD];exact Oz
    obtain ⟨Tx,Ky,T3⟩:=hM _ (nW hd);have lH:=sd.dart _ Tx;have wB:=Nh _ (nW hd);have ntl:(M[d]).1≠l:=λz=>by rw [z,E2] at wB;cases wB
    refine ⟨Dd,_,_, .ref (M[d]).1,rfl,rfl,aG.of SN,bW (by rw [ck,cK hd];rfl),?_⟩
    refine ⟨(M[d]).1,_,rfl,cJ.of (by rw [ab ntl];exact wB),rfl,_,_,rfl,_,_,rfl,rfl,?_⟩
    generalize M[d]=me at*;obtain ⟨at0,u,v⟩:=me;dsimp only at*;have hu:u<w'.length:=cf lH
    have R4:aH (upd H3 l (.lst (jK.map V.int))) T as w':=R3.keep λb hb=>by
     refine ab λz=>?_
     rcases hb with hb|hb
     ·exact sE (z.symm.trans hb)
     ·rw [z] at hb;exact jO hb
    have ye:=R4.row p a ha;have rlp:=eY g p;have rlu:=eY g u;have Pl:=nU.mpr vO;have jlt:(row w' u).idxOf v<(row w' u).length:=nU.mpr lH;refine ⟨_,rfl,_,rfl,T,_,_,_,rfl,rfl,aG.of R4.top,nj, .inl ⟨rfl,_,aG.of ye⟩,?_⟩;refine ⟨_,rfl,_,rfl,T,_,_,_,rfl,rfl,aG.of R4.top,nj, .inl ⟨rfl,_,aG.of ye⟩,_,rfl,?_⟩;refine ⟨a,_,_,(row w' p).idxOf r,_,rfl,rfl,ye,rfl,kF _,gJ (pJ vO),mN r,oI (g.nod _) vO,?_⟩;refine ⟨_,rfl,a,_,_,_,rfl,rfl,ye,by omega,by rw [bF];omega,mI (by rw [bF];exact rlp) (bq (by omega)),?_⟩
    rw [kT,←m8];have R5:aH (upd (upd H3 l (.lst (jK.map V.int))) a (.lst (aR (ins (row w' p) ((row w' p).idxOf r) u)))) T as (w'.set p (ins (row w' p) ((row w' p).idxOf r) u)):=R4.put ha (λb _ hb=>ab hb) aa;obtain ⟨a2,Hl,_⟩:=R4.at hu;have lM:=R5.row u a2 Hl;rw [fz hp,if_neg (Ne.symm Ky)] at lM;have at2:f6 (as.map V.ref) ((u:Nat):Int)=some (.ref a2):=bW (by rw [ck,Hl];rfl)
    refine ⟨_,rfl,_,rfl,T,_,_,_,rfl,rfl,aG.of R5.top,at2, .inl ⟨rfl,_,aG.of lM⟩,?_⟩;refine ⟨_,rfl,_,rfl,T,_,_,_,rfl,rfl,aG.of R5.top,at2, .inl ⟨rfl,_,aG.of lM⟩,_,rfl,?_⟩;refine ⟨a2,_,_,(row w' u).idxOf v,_,rfl,rfl,lM,rfl,kF _,gJ (pJ lH),mN v,oI (g.nod _) lH,?_⟩;refine ⟨_,rfl,a2,_,_,_,rfl,rfl,lM,by omega,by rw [bF];omega,mI (by rw [bF];exact rlu) (bq (by omega)),?_⟩
    rw [kT,←m8];have R6:aH (upd (upd (upd H3 l (.lst (jK.map V.int))) a (.lst (aR (ins (row w' p) ((row w' p).idxOf r) u)))) a2 (.lst (aR (ins (row w' u) ((row w' u).idxOf v) p)))) T as (lg w' p ((row w' p).idxOf r) u ((row w' u).idxOf v)):=R5.put Hl (λb _ hb=>ab hb) aa;have K6:l≠a:=λz=>jO (by rw [z];exact di ha)
    have U2:l≠a2:=λz=>jO (by rw [z];exact di Hl)
    refine q _ jK _ ?_ R6 (wz g hp hu Ky T3) (qg _ _ _ _ _) ?_ rD (by omega) (by rw [zI hp hu Ky];exact aV _) (.inr ⟨p,r,u,v,vO,lH,Ky,T3,λhb=>let ⟨r1,NB,hm⟩:=YV hb;⟨r1,NB,hm _ Tx⟩,rfl⟩)
    ·exact Nc.trans ((Off.put (.inl b8)).trans ((Off.put (.inl (cn _ (di ha)))).trans (Off.put (.inl (cn _ (di Hl))))))
    ·rw [ab U2,ab K6,aa]
   ·exact q w' ds _ Nc R3 g rfl E2 nH HI (by omega) (.inl rfl)
 have uz:(["_law_s","_law_q"]:List Str).Nodup:=by decide+kernel
 refine ⟨_,aD (bC (i:=3) nd rfl (Or.inr rfl) (bf gT hr rfl Tk.m Tk.F.kp Tk.b .nil bR (ae (pv 1) (ae (cA bU rfl B.len PySem.boot_len (ae (pv 0) ar)) ar))))
  (aD (bC (i:=4) nd rfl (Or.inl rfl) (bY bp (bY bp (pv 0) (pv 3) (λ_ _=>rfl)) (bf gT hr rfl Tk.m Tk.F.kp Tk.b .nil bR (ae (pv 1) (ae (cA bU rfl B.len PySem.boot_len (ae (bY bp (pv 0) (pv 3) (λ_ _=>rfl)) ar)) ar))) (λ_ _=>rfl)))
  (aD (bC (i:=5) nd rfl (Or.inl rfl) (bf gR hr rfl Rd.m Rd.F.kp Rd.b .nil bR (ae (pv 0) (ae (sV (ae (pv 3) (ae (pv 4) ar))) ar))))
  (aD (uM (DR (Lz (pv 2)))
   (aD (bC (i:=5) nd rfl (Or.inl rfl) (dN ar))
   (bg (iB PassesOwn.never rfl (uK rfl B.enumerate (ae (pv 0) ar)) (mY rfl (dZ (bI (i:=6) nd rfl (Or.inr rfl)) (dZ (bI (i:=7) nd rfl (Or.inl rfl)) jU)))
    (bg (cR (fM PySem.F.plainAttrs_list PySem.F.slot_list_extend PySem.F.type_list_extend B9 (pv 5) (ae (Co (NC:= ["_law_s","_law_q"]) (src:= [none,some 6]) rfl (bH.of (ao uU) rfl rfl (by decide+kernel) (by decide+kernel) (by decide+kernel)) ⟨rfl,rfl,trivial⟩ (jV (pv 7))
     (λ_ _ _=>bI (i:=0) uz rfl (Or.inl rfl)) (λ_ _ _=>lW) (λ_ _ _=>sV (ae (pv 1) (ae (pv 0) ar)))) ar))))))) lV) pE))),?_⟩
 have Hk:H T=_:=R.top;have lmap:(as.map V.ref).length=w'.length:=by rw [aP,R.len]
 refine ⟨_,rfl,_,rfl,T,_,rfl, .inl (aG.of R.top),l,ns,_,rfl,hl,jw,by omega,by omega,by omega,λdI nk d0 d1 nH HI=>?_⟩
 obtain ⟨p,rfl⟩:=qo d0;have hp:p<w'.length:=by omega
 have keep:∀(o:HO),aH (upd H l o) T as w':=λo=>R.keep λb hb=>by
  refine ab λz=>?_
  rcases hb with hb|hb
  ·exact sE (z.symm.trans hb)
  ·rw [z] at hb;exact jO hb
 have R1:=keep (.lst (nk.map V.int));obtain ⟨a,ha,gS⟩:=R1.at hp;have nj:f6 (as.map V.ref) ((p:Nat):Int)=some (.ref a):=bW (by rw [ck,ha];rfl)
 have rne:=LG g h2 hp;have aal:0<(row w' p).length:=A7.mpr rne;have rl:=eY g p;have V2:=bF (row w' p);refine ⟨_,rfl,_,rfl,T,_,_,_,rfl,rfl,aG.of R1.top,nj,?_⟩;refine ⟨_,rfl,_,rfl,_,rfl,T,_,_,_,rfl,rfl,aG.of R1.top,nj,a,_,rfl, .inl (aG.of gS),l,nk,_,rfl,aa,nH,by omega,by omega,by omega,λdI2 jK e0 e1 rD KC=>?_⟩
 rw [qh];obtain ⟨j,rfl⟩:=qo e0;have hj:j<(row w' p).length:=by omega
 have R2:=keep (.lst (jK.map V.int));have BQ:=R2.row p a ha;refine ⟨a,_,_,_,rfl,rfl,aG.of BQ,bW (gJ (cK hj)),?_⟩;have vO:(row w' p)[j]∈row w' p:=nW hj;generalize (row w' p)[j]=r at vO;have Nb:Off (l::as) H (upd H l (.lst (jK.map V.int))):=Off.put (.inl b8);have zT:upd H l (.lst (jK.map V.int)) l=some (.lst (jK.map V.int)):=aa;generalize upd H l (.lst (jK.map V.int))=H2 at R2 Nb zT;refine ⟨_,rfl,_,rfl,_,rfl,by show 2≤sizeLine;decide,λsd z0=>?_⟩
 have ss:=ay z0 (.tup [V.int (p:Int),V.int (r:Int)]);have R3:aH (upd H2 sd (.tup [V.int (p:Int),V.int (r:Int)])) T as w':=R2.off (S:= []) (Off.of_same ss) (by simp) (by simp)
 refine ⟨T,sd,as,w',(p,r),rfl,R3,g,cF,aa,vO,λF L k H4 sm4 EN hF DD hL hk hit yb=>?_⟩;have Jq:aC H2 H4:=ss.trans sm4;have R4:aH H4 T as w':=R2.off (S:= []) (Off.of_same Jq) (by simp) (by simp)
 have OT:=Jq _ _ zT;have Nd:Off (l::as) H H4:=Nb.trans (Off.of_same Jq);have lH:az w' (p,r):=vO;have kd:=qi g lH yb;have dl:=gG g;have Ny:∀e∈L,az w' e.2:=λe he=>oV g lH (k:=k) e.2 (by rw [←hL];exact bS.mpr ⟨e,he,rfl⟩)
 have aaa:L.length=k:=by have:=congrArg List.length hL;rw [aP,eB] at this;exact this
 have nFl:F≠l:=λz=>by rw [z,ss _ _ zT] at EN;cases EN
 have nFT:F≠T:=λz=>by rw [z,R3.top] at EN;cases EN
 have UO:F∉as:=λz=>by
  obtain ⟨i,hi⟩:=gz z;rw [R3.row i F hi] at EN;cases EN
 refine ⟨_,rfl,_,rfl,rH (λcB=>?_) (λ_=>?_)⟩
 ·
  refine ⟨by show 0≤sizeLine;decide,λS hS=>?_⟩
  have UR:S≠l:=λz=>by rw [z,OT] at hS;cases hS
  have UQ:S≠T:=λz=>by rw [z,R4.top] at hS;cases hS
  have M1:S∉as:=λz=>by
   obtain ⟨i,hi⟩:=gz z;rw [R4.row i S hi] at hS;cases hS
  refine ⟨_,rfl,T,rfl,⟨_,(ay hS _) _ _ R4.top⟩,wx (xs:=as.map V.ref) (λi σ H'=>∃(o6 o7:Option V)(L:List (Addr×(Nat×Nat))),σ= [some (.ref T),some (.ref l),some (.bl b),some (.int (p:Int)),some (.int (r:Int)),some (.ref S),o6,o7,none,none]∧aC H4 H'∧H' S=some (.lst (L.map λe=>V.ref e.1))∧nY H' L∧(∀e∈L,az w' e.2)∧L.length≤i*14) ?_ ?_ ?_ ?_⟩
  ·exact ⟨_,_,[],rfl,ay hS _,aa,(λe he=>by cases he),(λe he=>by cases he),cZ _⟩
  ·rintro i σ H' _ ⟨o6,o7,L,rfl,sm,_⟩
   exact aG.of (sm _ _ R4.top)
  ·rintro i x t σ H5 hx ht ⟨o6,o7,L,rfl,FI,OF,BN,OI,Hv⟩
   rw [ck] at hx;obtain ⟨ai,ET,rfl⟩:=Option.map_eq_some_iff.mp hx;have hi:i<w'.length:=by rw [←R4.len];exact (cu.mp ET).1
   refine ⟨t,_,rfl,cJ.of aa,rfl,_,_,rfl,_,_,rfl,rfl,?_⟩;have s6:=ay ht (.tup [V.int (i:Int),V.ref ai]);generalize upd H5 t (.tup [V.int (i:Int),V.ref ai])=H6 at s6;have yf:=s6 _ _ (FI _ _ (R4.row i ai ET));have OG:=s6 _ _ OF;have rli:=eY g i;refine ⟨_,rfl, .inl ⟨rfl,_,aG.of OG⟩,_,rfl,ai,rfl,⟨_,aG.of yf⟩,λDd hD=>?_⟩;have K4:S≠Dd:=ah OG hD;refine yp (aR (row w' i)).length (λj i6 Hc=>∃(o:Option V)(M:List (Addr×(Nat×Nat))),i6= [o,some (.int (i:Int))]∧aC H6 Hc∧Hc Dd=some (.lst (M.map λe=>V.ref e.1))∧nY Hc M∧(∀e∈M,az w' e.2)∧M.length≤j) ?_ ?_ ?_ ?_ ?_
   ·exact ⟨none,[],rfl,ay hD _,aa,(λe he=>by cases he),(λe he=>by cases he),aV _⟩
   ·rintro j i6 Hc hj ⟨o,M,rfl,vW,_⟩
    exact ⟨_,_,aG.of (vW _ _ yf),cK hj⟩
   ·rintro j i6 Hc hj ⟨o,M,rfl,vW,_⟩
    exact ⟨_,aG.of (vW _ _ yf),hj⟩
   ·rintro j x i6 Hc H7 hj ⟨o,M,rfl,vW,hM,BO,OJ,OV⟩ ⟨rfl,hx⟩
    obtain ⟨n,hn,rfl⟩:=qV (hx _ (aG.of (vW _ _ yf)));refine He ?_;refine ⟨_,rfl,_,rfl,by show 2≤sizeLine;decide,λtt vP=>?_⟩
    have s8:=ay vP (.tup [V.int (i:Int),V.int (n:Int)]);have MR:upd H7 tt (.tup [V.int (i:Int),V.int (n:Int)]) tt=some (.tup (gk (i,n))):=aa;generalize upd H7 tt (.tup [V.int (i:Int),V.int (n:Int)])=H8 at s8 MR;have ntD:tt≠Dd:=λz=>by rw [z,hM] at vP;cases vP
    refine ⟨_,s8 _ _ hM,mI (by rw [aP];exact OV) (bq (by rw [bF] at hj;omega)),_,M++ [(tt,(i,n))],rfl,λb u eb=>?_,?_,λe he=>?_,λe he=>?_,by simp;omega⟩
    ·rw [ab (ah eb hD)];exact s8 _ _ (vW _ _ eb)
    ·rw [aa,dW];rfl
    ·rcases b9.mp he with z|z
     ·have:=BO e z
      rw [ab (λy=>by rw [y,hM] at this;cases this)]
      exact s8 _ _ this
     ·have z':e=(tt,(i,n)):=by simpa using z
      rw [z',ab ntD];exact MR
    ·rcases b9.mp he with z|z
     ·exact OJ e z
     ·have z':e=(tt,(i,n)):=by simpa using z
      rw [z'];exact di hn
   ·rintro i6 Hc ⟨o,M,rfl,vW,hM,BO,OJ,OV⟩
    rw [bF] at OV;have SV:=vW _ _ OG;refine ⟨S,Dd,_,_,rfl,rfl,SV,hM,small (by simp;omega),?_⟩
    refine ⟨_,_,L++M,rfl,λb u eb=>?_,?_,λe he=>?_,λe he=>?_,by simp;omega⟩
    ·rw [ab (ah eb hS)];exact vW _ _ (s6 _ _ (FI _ _ eb))
    ·rw [aa,dW]
    ·have hh:Hc e.1=some (.tup (gk e.2)):=by
      rcases b9.mp he with z|z
      ·exact vW _ _ (s6 _ _ (BN e z))
      ·exact BO e z
     rw [ab (λy=>by rw [y,SV] at hh;cases hh)];exact hh
    ·rcases b9.mp he with z|z
     ·exact OI e z
     ·exact OJ e z
  ·rintro σ H5 ⟨o6,o7,L,rfl,FI,OF,BN,OI,Hv⟩
   rw [aP,R4.len] at Hv;exact rE p r S L jK o6 o7 H5 (Nd.trans (Off.of_same FI)) (R4.off (S:= []) (Off.of_same FI) (by simp) (by simp)) hp vO ⟨OF,BN,OI,by omega⟩ (λhb=>by rw [hb] at cB;cases cB) (FI _ _ OT) rD (by omega) UR UQ M1
 ·exact rE p r F L jK none none H4 Nd R4 hp vO ⟨hF,DD,Ny,by omega⟩ (λ_=>⟨_,⟨k,hk,hit,yb,rfl⟩,λe he=>by rw [←hL];exact bS.mpr ⟨e,he,rfl⟩⟩) OT rD (by omega) nFl nFT UO
end
abbrev AB:Stmt:=top 33
theorem aH.V0{H H':Hp}{T:Addr}{as:List Addr}{w:W}(R:aH H T as w){k:Nat}{a:Addr}{r:List Nat}(hk:k<w.length)(na:a∉as)(naT:a≠T)(h:∀b,b∈as→H' b=H b)(eT:H' T=some (.lst ((as.set k a).map V.ref)))
  (e:H' a=some (.lst (aR r))):aH H' T (as.set k a) (w.set k r):=by
 have gd:k<as.length:=by rw [R.len];exact hk
 refine ⟨eT,?_,λz=>?_,by rw [fC,fC];exact R.len,λi b hb=>?_⟩
 ·unfold List.Nodup
  rw [vv];intro i j hi hj lt;rw [fC] at hi hj;rw [List.getElem_set,List.getElem_set];have pw:=vv.mp R.nod
  split
  ·split
   ·omega
   ·intro z;exact na (by rw [z];exact nW hj)
  ·split
   ·intro z;exact na (by rw [←z];exact nW hi)
   ·exact pw i j hi hj lt
 ·rcases C3 z with z|z
  ·exact R.nT z
  ·exact naT z.symm
 ·rw [fz hk]
  rw [qp] at hb
  by_cases hi:k=i
  ·rw [if_pos hi,if_pos gd] at hb
   cases hb;rw [if_pos hi];exact e
  ·rw [if_neg hi] at hb
   rw [if_neg hi,h b (di hb)];exact R.row i b hb
theorem HQ{n k:Nat}(h:k<n):iO n (k:Int)=some k:=by
 unfold iO;rw [if_pos (by omega),if_pos (by omega),kT]
theorem J0(xs:List V)(b:Nat):gy xs (some (b:Int)) none=xs.drop b:=by
 unfold gy;rw [HT.AA,HT.w6]
 by_cases h:b≤xs.length
 ·rw [Nat.min_eq_left h,nV (by rw [sg];exact aV _)]
 ·rw [Nat.min_eq_right (by omega),vw (aV _),vw (by omega)];simp
theorem JZ(xs:List V)(b:Nat):gy xs none (some (b:Int))=xs.take b:=by
 unfold gy;rw [HT.AA,HT.w6,List.drop_zero,Nat.sub_zero]
 by_cases h:b≤xs.length
 ·rw [Nat.min_eq_left h]
 ·rw [Nat.min_eq_right (by omega),nV (aV _),nV (by omega)]
theorem CB(r:List Nat)(b:Nat):(aR r).take b=aR (r.take b):=by unfold aR;rw [List.map_take]
theorem CA(r:List Nat)(b:Nat):(aR r).drop b=aR (r.drop b):=by unfold aR;rw [List.map_drop]
theorem FF(r s:List Nat):aR r++aR s=aR (r++s):=by unfold aR;rw [dW]
theorem FE{α:Type}(l:List α)(b:Nat):(l.drop b++l.take b).Perm l:=by
 have:=(r9 (l₁:=l.drop b) (l₂:=l.take b))
 rwa [iY] at this
structure Ord (ord:List Nat) (n:Nat):Prop where
 pm:ord.Perm (List.range n)
theorem Ord.len{ord:List Nat}{n:Nat}(o:Ord ord n):ord.length=n:=by rw [o.pm.length_eq,vz]
theorem Ord.get{ord:List Nat}{n p:Nat}(o:Ord ord n)(h:p<n):ord[p]? =some (ord.getD p 0):=by
 rw [fW,cK (by rw [o.len];exact h)];rfl
theorem Ord.into{ord:List Nat}{n p:Nat}(o:Ord ord n)(h:p<n):ord.getD p 0<n:=gw.mp (o.pm.mem_iff.mp (di (o.get h)))
theorem Ord.inj{ord:List Nat}{n p q:Nat}(o:Ord ord n)(hp:p<n)(hq:q<n)(e:ord.getD p 0=ord.getD q 0):p=q:=by
 have nd:ord.Nodup:=o.pm.nodup_iff.mpr List.nodup_range;have h1:=o.get hp;rw [e] at h1;exact get_inj nd h1 (o.get hq)
theorem Ord.sur{ord:List Nat}{n y:Nat}(o:Ord ord n)(h:y<n):∃p,p<n∧ord.getD p 0=y:=by
 have:=o.pm.mem_iff.mpr (gw.mpr h)
 obtain ⟨p,hp⟩:=gz this;have lt:=(cu.mp hp).1;rw [o.len] at lt
 have:=o.get lt
 rw [hp] at this;exact ⟨p,lt,(Option.some.inj this).symm⟩
structure NF (H:Hp) (T:Addr) (as:List Addr) (w:W):Prop where
 top:H T=some (.lst (as.map V.ref))
 len:as.length=w.length
 row:∀(i:Nat) a,as[i]? =some a→H a=some (.lst (aR (Wb.row w i)))
def Qc:Sp:=λvs H Q _=>∃(T O l:Addr)(as:List Addr)(w:W)(ord:List Nat)(ns:List Int),vs= [.ref T, .ref O, .ref l]∧NF H T as w∧Good w∧w.length≤14∧H O=some (.lst (aR ord))∧Ord ord w.length∧H l=some (.lst (ns.map V.int))∧ns≠ []∧ns.length≤2∧l≠T∧l∉as∧l≠O∧
 ∀(F:Addr)(fs:List Addr)(w':W)(H':Hp),Off [l] H H'→H F=none→(∀a∈fs,H a=none)→aH H' F fs w'→Good w'→w'.length=w.length→fc w'=fc w→(∀p,p<w.length→∃b,row w' (ord.getD p 0)=((row w p).map λx=>ord.getD x 0).drop b++((row w p).map λx=>ord.getD x 0).take b)→Q (.ref F) H'
section
variable {P:Program} {w:World} {K:PySem.W.Frag} {mg:Str→Option Value} {base:Heap}
theorem Jm:aJ ["_law_turns","_law_order","_law_left","_law_found","_law_p","_law_turn","_law_begin","_law_names"] ["_law_turns","_law_order","_law_left"] (ao AB):=⟨rfl,rfl,rfl,by decide+kernel,rfl,by decide+kernel,by decide+kernel⟩
theorem Ld(B:vC mg)(Tk:bP K mg "_law_take" qY ["_law_left","_law_many"])(D:bP K mg "_law_renamed" AB ["_law_turns","_law_order","_law_left"]):FnOk P w K mg base cw 2 D.f D.fd ["_law_turns","_law_order","_law_left"] Qc:=by
 refine D.F.ok Jm (λvs H Q E h=>?_) (λbr A outer s H vs Q E hr h=>?_)
 ·obtain ⟨T,O,l,as,w,ord,ns,rfl,_⟩:=h
  rfl
 obtain ⟨T,O,l,as,w',ord,ns,rfl,R,g,cF,hO,od,hl,jw,hz,sE,jO,U0,q⟩:=h;have nd:=Jm.nd;have qM:(["_law_turn"]:List Str).Nodup:=by decide+kernel
 have nz:(["_law_q","_law_order"]:List Str).Nodup:=by decide+kernel
 have gT:=pT (P:=P) (w:=w) (base:=base) B Tk
 refine ⟨_,aD (jX (i:=3) (NC:= ["_law_turn"]) (src:= [none]) rfl nd rfl (Or.inl rfl) (bH.of (ao AB) rfl rfl (by decide+kernel) (by decide+kernel) (by decide+kernel)) trivial (jV (pv 0))
    (λ_ _ _=>bI (i:=0) qM rfl (Or.inl rfl)) (λ_ _ _=>lW) (λ_ _ _=>dN ar) rfl)
  (aD (iB PassesOwn.never rfl (uK rfl B.enumerate (ae (pv 0) ar)) (mY rfl (dZ (bI (i:=4) nd rfl (Or.inl rfl)) (dZ (bI (i:=5) nd rfl (Or.inl rfl)) jU)))
   (aD (bC (i:=6) nd rfl (Or.inl rfl) (bf gT hr rfl Tk.m Tk.F.kp Tk.b .nil bR (ae (pv 2) (ae (bZ gh (cA bU rfl B.len PySem.boot_len (ae (pv 5) ar)) aM) ar))))
   (aD (jX (i:=7) (NC:= ["_law_q","_law_order"]) (src:= [none,some 1]) rfl nd rfl (Or.inl rfl) (bH.of (ao AB) rfl rfl (by decide+kernel) (by decide+kernel) (by decide+kernel)) ⟨rfl,rfl,trivial⟩ (jV (pv 5))
    (λ_ _ _=>bI (i:=0) nz rfl (Or.inl rfl)) (λ_ _ _=>lW) (λ_ _ _=>bY (wF (K:=K)) (pv 1) (pv 0) (λ_ _=>rfl)) rfl)
   (bg (mZ (bZ yM (mX qd (pv 7) (lU (pv 6)) uL) (mX qd (pv 7) uL (lU (pv 6)))) (yO (pv 3) (bY bp (pv 1) (pv 4) (λ_ _=>rfl)) set_list))))))
  (bg (fh (pv 3)))),?_⟩
 refine ⟨_,rfl,T,rfl,⟨_,aG.of R.top⟩,λF hF=>?_⟩;refine yp (as.map V.ref).length (λi i6 Hc=>∃(o:Option V)(fs:List Addr),i6= [o]∧aC H Hc∧Hc F=some (.lst (fs.map V.ref))∧fs.Nodup∧F∉fs∧(∀a∈fs,H a=none∧Hc a=some (.lst []))∧fs.length=i) ?_ ?_ ?_ ?_ ?_
 ·exact ⟨none,[],rfl,ay hF _,aa,ju,(by simp),(λa ha=>by cases ha),rfl⟩
 ·rintro i i6 Hc hi ⟨o,fs,rfl,sm,_⟩
  exact ⟨_,_,aG.of (sm _ _ R.top),cK hi⟩
 ·rintro i i6 Hc hi ⟨o,fs,rfl,sm,_⟩
  exact ⟨_,aG.of (sm _ _ R.top),hi⟩
 ·rintro i x i6 Hc H3 hi ⟨o,fs,rfl,sm,hf,nf,nF,fr,hl⟩ ⟨rfl,hx⟩
  rw [aP,R.len] at hi;refine He ?_;refine ⟨by show 0≤sizeLine;decide,λr ft=>?_⟩
  have PD:r≠F:=λz=>by rw [z,hf] at ft;cases ft
  have M9:r∉fs:=λz=>by rw [(fr r z).2] at ft;cases ft
  refine ⟨_,by rw [ab (Ne.symm PD)];exact hf,bq (by simp;omega),_,fs++ [r],rfl,λb u eb=>?_,?_,?_,?_,λa ha=>?_,by simp [hl]⟩
  ·rw [ab (ah eb hF),ab (ah (sm _ _ eb) ft)];exact sm _ _ eb
  ·rw [aa,dW];rfl
  ·rw [b7]
   exact ⟨nf,by simp,λx hx y hy z=>by
    have:y=r:=by simpa using hy
    rw [this] at z;rw [z] at hx;exact M9 hx⟩
  ·intro z
   rcases b9.mp z with z|z
   ·exact nF z
   ·have:F=r:=by simpa using z
    exact PD this.symm
  ·rcases b9.mp ha with z|z
   ·refine ⟨(fr a z).1,?_⟩
    rw [ab (λy=>nF (by rw [←y];exact z)),ab (λy=>M9 (by rw [←y];exact z))]
    exact (fr a z).2
   ·have:a=r:=by simpa using z
    rw [this];exact ⟨sm.free ft,by rw [ab PD,aa]⟩
 rintro i6 H1 ⟨o,SD,rfl,CG,YI,nf0,nF0,Hb,EZ⟩;rw [aP,R.len] at EZ;have E1:=CG _ _ hl;have PB:l≠F:=λz=>by rw [z,hF] at hl;cases hl
 have R1:aH H1 F SD (List.replicate w'.length []):=by
  refine ⟨YI,nf0,nF0,by rw [EZ,r6],λi a e=>?_⟩
  have hz:row (List.replicate w'.length []) i= []:=by
   unfold row;rw [fW,A4]
   split<;>rfl
  rw [hz];exact (Hb a (di e)).2
 refine ⟨_,rfl,T,rfl,⟨_,CG _ _ R.top⟩,wx (xs:=as.map V.ref) (λi σ H'=>∃(o4 o5 o6 o7:Option V)(fs:List Addr)(w1:W)(ds:List Int),σ= [some (.ref T),some (.ref O),some (.ref l),some (.ref F),o4,o5,o6,o7]∧Off [l] H H'∧aH H' F fs w1∧(∀a∈fs,H a=none)∧w1.length=w'.length∧
   (∀p,p<i→∃b,row w1 (ord.getD p 0)=((row w' p).map λx=>ord.getD x 0).drop b++((row w' p).map λx=>ord.getD x 0).take b)∧H' l=some (.lst (ds.map V.int))∧ds≠ []∧ds.length≤2) ?_ ?_ ?_ ?_⟩
 ·exact ⟨_,_,_,_,SD,_,ns,rfl,Off.of_same CG,R1,λa ha=>(Hb a ha).1,r6,(λp hp=>by omega),E1,jw,hz⟩
 ·rintro i σ H' _ ⟨o4,o5,o6,o7,fs,w1,ds,rfl,off,_⟩
  exact aG.of (off _ _ (by simpa using Ne.symm sE) R.top)
 ·rintro i x t σ H5 hx ht ⟨o4,o5,o6,o7,fs,w1,ds,rfl,off,R5,oh,iP,uQ,Hv,MO,ZO⟩
  rw [ck] at hx;obtain ⟨ai,ET,rfl⟩:=Option.map_eq_some_iff.mp hx;have hi:i<w'.length:=by rw [←R.len];exact (cu.mp ET).1
  have M6:l≠ai:=λz=>jO (by rw [z];exact di ET)
  have lM:H5 ai=_:=off _ _ (by simpa using Ne.symm M6) (R.row i ai ET)
  have BC:H5 O=_:=off _ _ (by simpa using Ne.symm U0) hO
  refine ⟨t,_,rfl,cJ.of aa,rfl,_,_,rfl,_,_,rfl,rfl,?_⟩;have s6:=ay ht (.tup [V.int (i:Int),V.ref ai]);generalize upd H5 t (.tup [V.int (i:Int),V.ref ai])=H6 at s6;have rli:=eY g i;have V2:=bF (row w' i);refine ⟨_,rfl,_,rfl,ai,_,rfl, .inl (aG.of (s6 _ _ lM)),_,_,rfl,rfl,l,ds,_,rfl,s6 _ _ Hv,MO,by omega,by omega,by omega,λdI nk d0 d1 nH HI=>?_⟩
  obtain ⟨b,rfl⟩:=qo d0;have Iv:Off [l] H (upd H6 l (.lst (nk.map V.int))):=(off.trans (Off.of_same s6)).trans (Off.put (.inl b8));have t8:upd H6 l (.lst (nk.map V.int)) l=some (.lst (nk.map V.int)):=aa;have U3:l∉fs:=λz=>by rw [oh l z] at hl;cases hl
  have R7:aH (upd H6 l (.lst (nk.map V.int))) F fs w1:=(R5.off (S:= []) (Off.of_same s6) (by simp) (by simp)).keep λb hb=>by
   refine ab λz=>?_
   rcases hb with hb|hb
   ·exact PB (z.symm.trans hb)
   ·rw [z] at hb;exact U3 hb
  have uc:upd H6 l (.lst (nk.map V.int)) ai=some (.lst (aR (row w' i))):=by rw [ab (Ne.symm M6)];exact s6 _ _ lM
  have ER:upd H6 l (.lst (nk.map V.int)) O=some (.lst (aR ord)):=by rw [ab (Ne.symm U0)];exact s6 _ _ BC
  generalize upd H6 l (.lst (nk.map V.int))=H7 at Iv t8 R7 uc ER;refine ⟨_,rfl,ai,rfl,⟨_,aG.of uc⟩,λNm SU=>?_⟩;refine yp (aR (row w' i)).length (λj i6 Hc=>∃(o:Option V),i6= [o,some (.ref O)]∧aC H7 Hc∧Hc Nm=some (.lst (aR (((row w' i).take j).map λx=>ord.getD x 0)))) ?_ ?_ ?_ ?_ ?_
  ·exact ⟨none,rfl,ay SU _,aa⟩
  ·rintro j i6 Hc hj ⟨o,rfl,sm,_⟩
   exact ⟨_,_,aG.of (sm _ _ uc),cK hj⟩
  ·rintro j i6 Hc hj ⟨o,rfl,sm,_⟩
   exact ⟨_,aG.of (sm _ _ uc),hj⟩
  ·rintro j x i6 Hc H8 hj ⟨o,rfl,sm,hN⟩ ⟨rfl,hx⟩
   obtain ⟨n,hn,rfl⟩:=qV (hx _ (aG.of (sm _ _ uc)));have O1:n<w'.length:=g.rng _ _ (di hn);refine He ?_;refine ⟨_,rfl,_,rfl,O,_,_,_,rfl,rfl,aG.of (sm _ _ ER),bW (gJ (od.get O1)),?_⟩;refine ⟨_,hN,mI (by rw [bF,aP,jt];exact Nat.min_le_right _ _) (bq (by omega)),_,rfl,λb u eb=>?_,?_⟩
   ·rw [ab (ah eb SU)];exact sm _ _ eb
   ·obtain ⟨bx,hg⟩:=cu.mp hn
    rw [aa,JK bx,hg,dW];unfold aR;rw [dW];rfl
  rintro i6 H8 ⟨o,rfl,Wq,Kn⟩;rw [V2,List.take_length] at Kn;generalize TJ:((row w' i).map λx=>ord.getD x 0)=nm at Kn;have nml:nm.length≤14:=by rw [←TJ,aP];omega
  refine ⟨_,rfl,_,rfl,_,rfl,Nm,_,rfl,aG.of Kn,λc1 YW=>?_⟩;rw [J0,CA];have s9:=ay YW (.lst (aR (nm.drop b)));have e9:upd H8 c1 (.lst (aR (nm.drop b))) c1=_:=aa;generalize upd H8 c1 (.lst (aR (nm.drop b)))=H9 at s9 e9;refine ⟨_,rfl,_,rfl,_,rfl,Nm,_,rfl,aG.of (s9 _ _ Kn),λc2 BG=>?_⟩;rw [JZ,CB];have yS:=ay BG (.lst (aR (nm.take b)));have Sn:upd H9 c2 (.lst (aR (nm.take b))) c2=_:=aa;generalize upd H9 c2 (.lst (aR (nm.take b)))=xB at yS Sn;refine ⟨c1,c2,_,_,rfl,rfl,yS _ _ e9,Sn,small (by rw [bF,bF,sg,jt];omega),λc3 SX=>?_⟩
  rw [FF];have CC:=ay SX (.lst (aR (nm.drop b++nm.take b)));have So:upd xB c3 (.lst (aR (nm.drop b++nm.take b))) c3=_:=aa;have rA:xB c3=none:=SX;generalize upd xB c3 (.lst (aR (nm.drop b++nm.take b)))=Ei at CC So;have DZ:aC H7 Ei:=Wq.trans (s9.trans (yS.trans CC));have DY:aC H7 xB:=Wq.trans (s9.trans yS);have ND:aH Ei F fs w1:=R7.off (S:= []) (Off.of_same DZ) (by simp) (by simp)
  have O2:=od.into hi;have lfs:(fs.map V.ref).length=w'.length:=by rw [aP,R7.len,iP]
  refine ⟨_,rfl,_,rfl,_,rfl,O,_,_,_,rfl,rfl,aG.of (DZ _ _ ER),bW (gJ (od.get hi)),F,_,_,ord.getD i 0,rfl,rfl,ND.top,by rw [lfs];exact HQ O2,?_⟩
  have M3:c3≠F:=λz=>by rw [z,DY _ _ R7.top] at rA;cases rA
  have Pz:c3∉fs:=λz=>by
   obtain ⟨k,hk⟩:=gz z;rw [DY _ _ (R7.row k c3 hk)] at rA;cases rA
  have SY:H c3=none:=by
   cases e:H c3 with
   |none=>rfl
   |some u=>
    by_cases z:c3=l
    ·rw [z,DY _ _ t8] at rA;cases rA
    ·rw [DY _ _ (Iv _ _ (by simpa using z) e)] at rA;cases rA
  have aak:l≠F:=PB;refine ⟨_,_,_,_,fs.set (ord.getD i 0) c3,w1.set (ord.getD i 0) (nm.drop b++nm.take b),nk,rfl,?_,?_,λa ha=>?_,by rw [fC];exact iP,λp hp=>?_,?_,nH,by omega⟩
  ·exact λb u hb eb=>by rw [ab (ah eb hF)];exact DZ _ _ (Iv b u hb eb)
  ·refine ND.V0 (by rw [iP];exact O2) Pz M3 (λb hb=>ab λz=>ND.nT (by rw [←z];exact hb)) ?_ ?_
   ·rw [aa,List.map_set]
   ·rw [ab M3];exact So
  ·rcases C3 ha with z|z
   ·exact oh a z
   ·rw [z];exact SY
  ·rw [fz (by rw [iP];exact O2)]
   by_cases e:p=i
   ·subst e
    rw [if_pos rfl,TJ];exact ⟨b,rfl⟩
   ·rw [if_neg (λz=>e (od.inj (by omega) hi z.symm))]
    exact uQ p (by omega)
  ·rw [ab PB];exact DZ _ _ t8
 ·rintro σ H5 ⟨o4,o5,o6,o7,fs,w1,ds,rfl,off,R5,oh,iP,uQ,Hv,MO,ZO⟩
  rw [aP,R.len] at uQ
  have Lu:∀p,p<w'.length→(row w1 (ord.getD p 0)).Perm ((row w' p).map λx=>ord.getD x 0):=λp hp=>by
   obtain ⟨b,e⟩:=uQ p hp;rw [e];exact FE _ b
  exact ⟨_,rfl,q F fs w1 H5 off hF oh R5 (EL g iP (λp hp=>od.into hp) (λp q hp hq e=>od.inj hp hq e) (λy hy=>od.sur hy) λp hp=>Lu p hp) iP (Gy iP od.pm λp hp=>Lu p hp) uQ⟩
end
abbrev Jl:Stmt:=top 34
theorem boot_int:bootBuiltins "int"=some (.type "int"):=by decide+kernel
def LS(K:PySem.W.Frag):Sp:=λvs H Q _=>∃(a:Addr)(ns:List Int)(m:Int)(b:Bool),vs= [.ref a, .int m, .bl b]∧aG K H a (ns.map V.int)∧ns.length≤63∧1≤m∧m≤14∧
 ∀(F:Addr)(fs:List Addr)(w':W)(H':Hp),aC H H'→H F=none→(∀a∈fs,H a=none)→aH H' F fs w'→Good w'→1≤w'.length→(w'.length:Int)≤m→fc w'≤102→Eu b w'→Q (.ref F) H'
section
variable {P:Program} {w:World} {K:PySem.W.Frag} {mg:Str→Option Value} {base:Heap}
theorem D3:aJ ["_law_script","_law_most","_law_plane","_law_left","_law_many","_law_turns","_law_order","_law_k","_law_at"] ["_law_script","_law_most","_law_plane"] (ao Jl):=⟨rfl,rfl,rfl,by decide+kernel,rfl,by decide+kernel,by decide+kernel⟩
theorem IB(B:vC mg)(Ce:bP K mg "_law_cell" uR ["_law_script","_law_k"])(Mi:bP K mg "_law_mixed" sW ["_law_script","_law_turn"])(Di:bP K mg "_law_digits" uS ["_law_script","_law_at"])(Tk:bP K mg "_law_take" qY ["_law_left","_law_many"])
  (Tr:bP K mg "_law_tree" CD ["_law_many","_law_left"]) (Nx:bP K mg "_law_next" uT ["_law_turns","_law_side"]) (Rd:bP K mg "_law_round" sX ["_law_turns","_law_side"]) (Ti:bP K mg "_law_tie" uU ["_law_turns","_law_left","_law_plane"]) (Re:bP K mg "_law_renamed" AB ["_law_turns","_law_order","_law_left"])
  (D:bP K mg "_law_web" Jl ["_law_script","_law_most","_law_plane"]):FnOk P w K mg base cw 4 D.f D.fd ["_law_script","_law_most","_law_plane"] (LS K):=by
 refine D.F.ok D3 (λvs H Q E h=>?_) (λbr A outer s H vs Q E hr h=>?_)
 ·obtain ⟨a,ns,m,b,rfl,_⟩:=h
  rfl
 obtain ⟨a,ns,m,b,rfl,hS,oj,m1,m14,q⟩:=h;have nd:=D3.nd;have gD:=Cg (P:=P) (w:=w) (base:=base) B Ce Mi Di;have gT:=(pT (P:=P) (w:=w) (base:=base) B Tk).mono (show 1≤3 by decide)
 have Yz:=(IA (P:=P) (w:=w) (base:=base) B Tk Tr).mono (show 2≤3 by decide)
 have Yy:=Le (P:=P) (w:=w) (base:=base) B Tk Nx Rd Ti;have Yx:=(Ld (P:=P) (w:=w) (base:=base) B Tk Re).mono (show 2≤3 by decide)
 refine ⟨_,aD (bC (i:=3) nd rfl (Or.inl rfl) (bf gD hr rfl Di.m Di.F.kp Di.b .nil bR (ae (pv 0) (ae aM ar))))
  (aD (bC (i:=4) nd rfl (Or.inl rfl) (bZ gh aM (bf gT hr rfl Tk.m Tk.F.kp Tk.b .nil bR (ae (pv 3) (ae (pv 1) ar)))))
  (aD (bC (i:=5) nd rfl (Or.inl rfl) (bf Yz hr rfl Tr.m Tr.F.kp Tr.b .nil bR (ae (pv 4) (ae (pv 3) ar))))
  (aD (bC (i:=6) nd rfl (Or.inl rfl) (dN ar))
  (aD (iB PassesOwn.never rfl (kD rfl B.range (ae (pv 4) ar)) (bI (i:=7) nd rfl (Or.inl rfl))
   (bg (cR (fM PySem.F.plainAttrs_list PySem.F.slot_list_insert PySem.F.type_list_insert kv (pv 6) (ae (bf gT hr rfl Tk.m Tk.F.kp Tk.b .nil bR (ae (pv 3) (ae (bZ gh (pv 7) aM) ar))) (ae (pv 7) ar))))))
  (aD (iB PassesOwn.never rfl (jV (dN (ae aM (ae aM ar)))) (bI (i:=8) nd rfl (Or.inl rfl))
   (aD (bC (i:=3) nd rfl (Or.inl rfl) (bf gD hr rfl Di.m Di.F.kp Di.b .nil bR (ae (pv 0) (ae (pv 8) ar))))
   (bg (iB PassesOwn.never rfl (kD rfl B.range (ae (bZ mW (bf gT hr rfl Tk.m Tk.F.kp Tk.b .nil bR (ae (pv 3) (ae aM ar))) (uJ Bj rfl B.int boot_int (ae (As IE (pv 4) aM (bK _)) ar))) ar)) (bI (i:=7) nd rfl (Or.inl rfl))
    (bg (cR (bf Yy hr rfl Ti.m Ti.F.kp Ti.b .nil bR (ae (pv 5) (ae (pv 3) (ae (pv 2) ar))))))))))
  (bg (fh (bf Yx hr rfl Re.m Re.F.kp Re.b .nil bR (ae (pv 5) (ae (pv 6) (ae (bf gD hr rfl Di.m Di.F.kp Di.b .nil bR (ae (pv 0) (ae aM ar))) ar))))))))))),?_⟩
 refine ⟨_,rfl,a,ns,1,rfl,hS,oj,by decide,by decide,λl ds H1 s1 EZ E1 jw hz=>?_⟩
 refine ⟨_,rfl,_,rfl,l,ds,m,rfl,E1,jw,by omega,by omega,by omega,λdI nk d0 d1 nH HI=>?_⟩
 refine ⟨_,_,rfl,rfl,?_⟩;obtain ⟨d,rfl⟩:=qo d0;have em:(1:Int)+(d:Int)=((d+1:Nat):Int):=by omega
 show tZ 4 (V.int (1+(d:Int))) _ _ _;rw [em];have hm:((d+1:Nat):Int)≤m:=by omega
 generalize d+1=n at hm em;have Ks:1≤n:=by omega
 refine ⟨_,rfl,_,rfl,l,nk,n,rfl,aa,nH,by omega,Ks,by omega,λT as w0 jK H2 off Hk Hb R2 g0 len0 zT rD KC dg0 Yq=>?_⟩
 have sE:l≠T:=λz=>by rw [←z,aa] at Hk;cases Hk
 have jO:l∉as:=λz=>by have:=Hb l z;rw [aa] at this;cases this
 have s2:aC H H2:=λb u eb=>off b u (by simpa using ah eb EZ) (by rw [ab (ah eb EZ)];exact s1 b u eb)
 have hTH:H T=none:=by
  cases e:H T with
  |none=>rfl
  |some u=>rw [ab (Ne.symm sE),s1 _ _ e] at Hk;cases Hk
 have Yu:∀x∈as,H x=none:=λx hx=>by
  cases e:H x with
  |none=>rfl
  |some u=>
   have:=Hb x hx
   rw [ab (λz=>jO (by rw [←z];exact hx)),s1 _ _ e] at this;cases this
 refine ⟨by show 0≤sizeLine;decide,λO hO=>?_⟩
 have Pt:l≠O:=ah zT hO;have nOT:T≠O:=ah R2.top hO
 have M0:O∉as:=λz=>by
  obtain ⟨k,hk⟩:=gz z;rw [R2.row k O hk] at hO;cases hO
 have YM:H O=none:=s2.free hO;refine ⟨_,rfl,(n:Int),rfl,by omega,by omega,kg (n:=((n:Int)).toNat) (λi σ H'=>∃(ord:List Nat)(ds:List Int)(o7:Option V),σ= [some (.ref a),some (.int m),some (.bl b),some (.ref l),some (.int (n:Int)),some (.ref T),some (.ref O),o7,none]∧aC H H'∧aH H' T as w0∧H' O=some (.lst (aR ord))∧ord.Perm (List.range i)∧H' l=some (.lst (ds.map V.int))∧ds≠ []∧ds.length≤2) ?_ ?_ ?_⟩
 ·refine ⟨[],jK,none,rfl,s2.trans (ay hO _),R2.off (S:= []) (Off.of_same (ay hO _)) (by simp) (by simp),aa,List.Perm.refl _,?_,rD,KC⟩
  rw [ab Pt];exact zT
 ·rintro i σ H3 hi ⟨ord,Sj,o7,rfl,s3,R3,Hh,Cr,E2,MN,ZN⟩
  rw [kT] at hi;have lo:ord.length=i:=by rw [Cr.length_eq,vz]
  have KA:(0:Int)+(i:Int)=(i:Int):=by omega
  refine ⟨_,rfl, .inl ⟨rfl,_,aG.of Hh⟩,_,rfl,_,rfl,_,_,rfl,rfl,l,Sj,_,rfl,E2,MN,by omega,by omega,by omega,λeI Sk e0 e1 TC hz4=>?_⟩
  obtain ⟨e,rfl⟩:=qo e0;have YL:upd H3 l (.lst (Sk.map V.int)) O=some (.lst (aR ord)):=by rw [ab (Ne.symm Pt)];exact Hh
  refine ⟨_,rfl,O,_,_,_,rfl,rfl,YL,by omega,by rw [bF];omega,mI (by rw [bF];exact Nat.le_of_eq lo) (bq (by omega)),?_⟩
  rw [KA,kT,←m8];refine ⟨ins ord e i,Sk,_,rfl,λb u eb=>?_,?_,aa,?_,?_,TC,by omega⟩
  ·rw [ab (ah eb YM),ab (ah eb EZ)];exact s3 b u eb
  ·refine R3.keep λb hb=>?_
   rw [ab (λz=>?_),ab (λz=>?_)]
   ·rcases hb with hb|hb
    ·exact sE (z.symm.trans hb)
    ·rw [z] at hb;exact jO hb
   ·rcases hb with hb|hb
    ·exact nOT (hb.symm.trans z)
    ·rw [z] at hb;exact M0 hb
  ·refine (mQ ord e i).trans ?_
   rw [List.range_succ];refine (List.Perm.cons i Cr).trans ?_;exact (List.perm_append_singleton i (List.range i)).symm
  ·rw [ab Pt,aa]
 rintro σ H3 ⟨ord,Sj,o7,rfl,s3,R3,Hh,Cr,E2,MN,ZN⟩;rw [kT] at Cr;have od:Ord ord n:=⟨Cr⟩;refine ⟨by show 2≤sizeLine;decide,λLx EO=>?_⟩
 have s4:=ay EO (.lst [V.int 2,V.int 3]);have e4:upd H3 Lx (.lst [V.int 2,V.int 3]) Lx=some (.lst [V.int 2,V.int 3]):=aa;have nLT:Lx≠T:=Ne.symm (ah R3.top EO);have nLO:Lx≠O:=Ne.symm (ah Hh EO)
 have UP:Lx∉as:=λz=>by
  obtain ⟨k,hk⟩:=gz z;rw [R3.row k Lx hk] at EO;cases EO
 have hLH:H Lx=none:=s3.free EO;generalize upd H3 Lx (.lst [V.int 2,V.int 3])=H4 at s4 e4;have R4:aH H4 T as w0:=R3.off (S:= []) (Off.of_same s4) (by simp) (by simp)
 refine ⟨Lx,rfl,⟨_,aG.of e4⟩,EH (K:=K) (a:=Lx) (xs:= [V.int 2,V.int 3]) (λi σ H'=>∃(l':Addr)(w1:W)(o7 o8:Option V),σ= [some (.ref a),some (.int m),some (.bl b),some (.ref l'),some (.int (n:Int)),some (.ref T),some (.ref O),o7,o8]∧aC H H'∧aH H' T as w1∧Good w1∧w1.length=n∧H' O=some (.lst (aR ord))∧H' Lx=some (.lst [V.int 2,V.int 3])∧fc w1≤26+38*i∧Eu b w1) ?_ ?_ ?_ ?_⟩
 ·exact ⟨l,w0,o7,none,rfl,s3.trans s4,R4,g0,len0,s4 _ _ Hh,e4,by omega,GV Yq (by omega)⟩
 ·rintro i σ H' _ ⟨l',w1,o7,o8,rfl,_,_,_,_,_,hL,_⟩
  exact aG.of hL
 ·rintro i x σ H5 hx ⟨l',w1,o7,o8,rfl,s5,R5,g5,iP,BC,OB,Sf,Oj⟩
  obtain ⟨k,sv,vL,rfl⟩:∃k:Int,0≤k∧k≤100∧x= .int k:=by
   match i,hx with
   |0,hx=>cases hx;exact ⟨2,by decide,by decide,rfl⟩
   |1,hx=>cases hx;exact ⟨3,by decide,by decide,rfl⟩
   |n+2,hx=>simp at hx
  refine ⟨_,rfl,_,rfl,a,ns,k,rfl,s5.seq hS,oj,sv,vL,λl2 Od H6 s6 gQ OU Hy T7=>?_⟩;have UL:l2≠T:=λz=>by rw [z,R5.top] at gQ;cases gQ
  have MZ:l2∉as:=λz=>by
   obtain ⟨k,hk⟩:=gz z;rw [R5.row k l2 hk] at gQ;cases gQ
  have UK:l2≠O:=λz=>by rw [z,BC] at gQ;cases gQ
  have UJ:l2≠Lx:=λz=>by rw [z,OB] at gQ;cases gQ
  have SJ:H l2=none:=s5.free gQ;refine ⟨_,rfl,l2,Od,20,rfl,OU,Hy,by omega,by decide,by decide,λcI zL c0 c1 TF hz7=>?_⟩
  refine ⟨_,rfl,_,_,rfl,rfl, .inr ⟨_,rfl,?_⟩⟩;obtain ⟨c,rfl⟩:=qo c0
  have R7:aH (upd H6 l2 (.lst (zL.map V.int))) T as w1:=(R5.off (S:= []) (Off.of_same s6) (by simp) (by simp)).keep λb hb=>by
   refine ab λz=>?_
   rcases hb with hb|hb
   ·exact UL (z.symm.trans hb)
   ·rw [z] at hb;exact MZ hb
  have s7:aC H (upd H6 l2 (.lst (zL.map V.int))):=λb u eb=>by rw [ab (ah eb SJ)];exact s6 _ _ (s5 b u eb)
  have ER:upd H6 l2 (.lst (zL.map V.int)) O=some (.lst (aR ord)):=by rw [ab (Ne.symm UK)];exact s6 _ _ BC
  have SS:upd H6 l2 (.lst (zL.map V.int)) Lx=some (.lst [V.int 2,V.int 3]):=by rw [ab (Ne.symm UJ)];exact s6 _ _ OB
  have t8:upd H6 l2 (.lst (zL.map V.int)) l2=some (.lst (zL.map V.int)):=aa;generalize upd H6 l2 (.lst (zL.map V.int))=H7 at R7 s7 ER SS t8;refine ⟨_,_,rfl,rfl, .inl ⟨by omega,by omega⟩,?_⟩
  have Ta:∃N:Nat,(c:Int)*(if decide ((1:Int)<(n:Int))=true then 1 else 0)=(N:Int)∧N<20∧(0<N→2≤n):=by
   by_cases hn:(1:Int)<(n:Int)
   ·rw [decide_eq_true hn,if_pos rfl]
    exact ⟨c,by omega,by omega,λ_=>by omega⟩
   ·rw [decide_eq_false hn,if_neg (by decide)]
    exact ⟨0,by omega,by omega,λh=>by omega⟩
  obtain ⟨N,eN,N20,N2⟩:=Ta;refine ⟨(N:Int),congrArg (λz=> [V.int z]) eN,by omega,by omega,kg (n:=((N:Int)).toNat) (λj σ H'=>∃(w2:W)(ds:List Int)(o7 o8:Option V),σ= [some (.ref a),some (.int m),some (.bl b),some (.ref l2),some (.int (n:Int)),some (.ref T),some (.ref O),o7,o8]∧aC H H'∧aH H' T as w2∧Good w2∧w2.length=n∧H' O=some (.lst (aR ord))∧H' Lx=some (.lst [V.int 2,V.int 3])∧H' l2=some (.lst (ds.map V.int))∧ds≠ []∧ds.length≤2∧fc w2≤fc w1+2*j∧Eu b w2) ?_ ?_ ?_⟩
  ·exact ⟨w1,zL,_,_,rfl,s7,R7,g5,iP,ER,SS,t8,TF,by omega,by omega,Oj⟩
  ·rintro j σ H8 hj ⟨w2,Sl,o7,o8,rfl,s8,R8,g8,MU,OE,OC,Tu,MP,T8,Sg,Ol⟩
   rw [kT] at hj;have n2:=N2 (by omega)
   refine ⟨_,rfl,_,rfl,_,rfl,T,l2,b,as,w2,Sl,rfl,R8,g8,by omega,by omega,Tu,MP,T8,UL,MZ,λw3 Yf H9 Iw R9 g9 aaj Zh TH ZP dg9 ti9=>?_⟩
   refine ⟨w3,Yf,_,_,rfl,λb u eb=>Iw b u (λz=>?_) (s8 b u eb),R9,g9,by omega,Iw _ _ (λz=>?_) OE,Iw _ _ (λz=>?_) OC,Zh,TH,ZP,by omega,Ol.lg g8 ti9⟩
   ·rcases bE.mp z with z|z
    ·rw [z,SJ] at eb;cases eb
    ·rw [Yu b z] at eb;cases eb
   ·rcases bE.mp z with z|z
    ·exact UK z.symm
    ·exact M0 z
   ·rcases bE.mp z with z|z
    ·exact UJ z.symm
    ·exact UP z
  ·rintro σ H8 ⟨w2,Sl,o7,o8,rfl,s8,R8,g8,MU,OE,OC,Tu,MP,T8,Sg,Ol⟩
   rw [kT] at Sg;exact ⟨l2,w2,o7,o8,rfl,s8,R8,g8,MU,OE,OC,by omega,Ol⟩
 ·rintro σ H5 ⟨l',w1,o7,o8,rfl,s5,R5,g5,iP,BC,OB,Sf,Oj⟩
  refine ⟨_,rfl,_,rfl,_,rfl,a,ns,4,rfl,s5.seq hS,oj,by decide,by decide,λl4 Od H6 s6 gQ OU Hy T7=>?_⟩
  have n4T:l4≠T:=λz=>by rw [z,R5.top] at gQ;cases gQ
  have UM:l4∉as:=λz=>by
   obtain ⟨k,hk⟩:=gz z;rw [R5.row k l4 hk] at gQ;cases gQ
  have n4O:l4≠O:=λz=>by rw [z,BC] at gQ;cases gQ
  have YE:H l4=none:=s5.free gQ;have P9:=s5.trans s6;refine ⟨T,O,l4,as,w1,ord,Od,rfl,(let Q5:=R5.off (S:= []) (Off.of_same s6) (by simp) (by simp);⟨Q5.top,Q5.len,Q5.row⟩),g5,by omega,s6 _ _ BC,by rw [iP];exact od,OU,Hy,T7,n4T,UM,n4O,λF fs w' H' off hF fr R' g' UE Se oQ=>?_⟩
  refine q F fs w' H' (λb u eb=>off b u (by simpa using ah eb YE) (P9 b u eb)) (P9.free hF) (λx hx=>P9.free (fr x hx)) R' g' (by omega) (by omega) (by rw [Se];simp at Sf;omega) (Oj.nam g5 g' (φ:=λx=>ord.getD x 0) ⟨UE,λp hp=>by rw [iP] at hp ⊢;exact od.into hp,λp q hp hq e=>by rw [iP] at hp hq;exact od.inj hp hq e,λy hy=>by rw [iP] at hy ⊢;exact od.sur hy,oQ⟩ Se)
end
end tq
namespace Bb
open PySem L2 Wb
variable {P:Program} {w:World} {mg:Str→Option Value} {base:Heap} {Z:DC} (T:Txt Z mg)
theorem DV{Z:DC}{G:Hp}:∀(fs:List Addr)(w:W),fs.length=w.length→(∀(i:Nat) a,fs[i]? =some a→G a=some (.lst (tq.aR (row w i))))→aq Z G (fs.map V.ref) (w.map aZ)
 | [],[],_,_=> .nil
 | [],_::_,h,_=>by cases h
 |_::_,[],h,_=>by cases h
 |a::fs,r::w,h,k=>by
  refine .cons ?_ (DV fs w (by simpa using h) λi b hb=>k (i+1) b (by simpa using hb))
  have h0:G a=some (.lst (tq.aR r)):=k 0 a rfl;refine Dv.lst h0 ?_;unfold tq.aR;clear h0 k h
  induction r with
  |nil=>exact .nil
  |cons x r ih=>exact .cons (.int _) ih
def LR:fm:=λds P=>∃(ns:List Int)(m:Nat)(b:Bool),ds= [.jb ns,aI m, .bl b]∧1≤m∧m≤14∧∀w,Good w→1≤w.length→w.length≤m→Eu b w→P (bJ w)
theorem QZ{Z:DC}{mg:Str→Option Value}(T:Txt Z mg):tq.vC mg:=⟨T.B.len,T.B.range,T.B.max,T.B.min,T.B.enumerate,T.B.zip,T.B.sorted,T.B.all,T.B.isinstance,T.B.int,T.B.bool,T.B.list,T.B.tuple⟩
theorem yJ:FnOk P w Z.K mg base cw 4 T.d__law_web.f T.d__law_web.fd ["_law_script","_law_most","_law_plane"] (aX Z LR):=by
 refine (tq.IB (QZ T) T.d__law_cell T.d__law_mixed T.d__law_digits T.d__law_take T.d__law_tree T.d__law_next T.d__law_round T.d__law_tie T.d__law_renamed T.d__law_web).imp ?_;rintro vs H Q E ⟨G,ds,P,s,dv,⟨ns,m,b,rfl,m1,m14,hp⟩,q⟩;obtain ⟨v1,us,rfl,d1,dv⟩:=dv.yG;obtain ⟨v2,v3,rfl,d2,d3⟩:=dv.yI;obtain ⟨a,rfl,hs,oj⟩:=d1.yH;obtain rfl:=d2.ofInt;obtain rfl:=d3.Na;refine ⟨a,ns,m,b,rfl,hs.mono s,oj,by omega,by omega,λF fs w' H' sm hF Y7 R g l1 lm _ eu=>?_⟩
 let Fc:Addr→Prop:=λb=>b=F∨b∈fs
 have F1:∀b,Fc b→H b=none:=λb hb=>by
  rcases hb with rfl|hb
  ·exact hF
  ·exact Y7 b hb
 have nF:∀b o,H b=some o→¬Fc b:=λb o e z=>by rw [F1 b z] at e;cases e
 have x2:Ext G H (plus G H' Fc) H':=⟨λb o e=>by rw [dD (nF b o (s _ _ e))];exact e,λb o e=>by
  by_cases z:Fc b
  ·rw [eX z] at e;exact e
  ·rw [dD z] at e;exact sm _ _ (s _ _ e),sm,λb hb hg=>by
  rw [dD (λz=>hb (F1 b z))];exact hg⟩
 refine q _ (hp w' g l1 (by omega) eu) _ _ _ x2 (Dv.lst (xs:=fs.map V.ref) (by rw [eX (.inl rfl)];exact R.top) (DV fs w' R.len λi a ha=>?_))
 rw [eX (.inr (di ha))];exact R.row i a ha
def Js:fm:=λds P=>∃(ns:List Int)(k:Nat),ds= [.jb ns,aI k]∧k≤100∧∀v:Int,P (.int v)
theorem vU:FnOk P w Z.K mg base cw 1 T.d__law_cell.f T.d__law_cell.fd ["_law_script","_law_k"] (aX Z Js):=by
 refine (tq.uE T.d__law_cell).imp ?_;rintro vs H Q E ⟨G,ds,P,s,dv,⟨ns,k,rfl,hk,hp⟩,q⟩;obtain ⟨v1,v2,rfl,d1,d2⟩:=dv.yI;obtain ⟨a,rfl,hs,oj⟩:=d1.yH;obtain rfl:=d2.ofInt;refine ⟨a,ns,k,rfl,hs.mono s,oj,by omega,by omega,λv H' sm=>?_⟩
 exact q _ (hp v) _ G H' ⟨.refl _,s.trans sm,sm,λ_ _ z=>z⟩ (.int v)
variable {P:Program} {w:World} {mg:Str→Option Value} {base:Heap} {Z:DC} (T:Txt Z mg)
theorem C8{t u:dh}{E:fY}{aF:DN}(ρ:DN)(e:aF=ρ)(h:dSeq t u E ρ):dSeq t u E aF:=by rw [e];exact h
theorem KH{n p:Nat}(h:p<n):iO n (p:Int)=some p:=by
 unfold iO;rw [if_pos (by omega),if_pos (by omega)]
 exact congrArg some (by omega)
theorem B2{w:W}(h:jz w≠ []):(jz w).Pairwise jR:=by
 unfold jz at h ⊢
 split
 ·next z=>exact z.choose_spec.2
 ·next z=>rw [dif_neg z] at h;exact absurd rfl h
variable {P:Program} {w:World} {mg:Str→Option Value} {base:Heap} {Z:DC} (T:Txt Z mg)
def Rs(w:W)(rs:List (List (Nat×Nat))):Prop:=(w.length=1∧rs= [[(0,0)]])∨(2≤w.length∧bT w rs)
theorem B3{w:W}{P:D→Prop}(g:Good w)(h:∀rs,Rs w rs→(h8 rs).Pairwise jR→P (.lst ((h8 rs).map aZ))):(w.length=1→P (.lst [aZ [0]]))∧(2≤w.length→∀rs,bT w rs→jz w=h8 rs→P (.lst ((jz w).map aZ))):=by
 refine ⟨λh1=>h [[(0,0)]] (.inl ⟨h1,rfl⟩) (List.pairwise_singleton _ _),λh2 rs R e=>?_⟩
 have ne:jz w≠ []:=λz=>by
  rw [z] at e
  have rs0:rs= []:=by
   cases rs with
   |nil=>rfl
   |cons a l=>cases e
  have Sx:=R.perm.length_eq;rw [rs0] at Sx;have d0:(aE w).length=0:=Sx.symm
  obtain ⟨x,hx⟩:∃x,x∈aE w:=by
   cases g.con 1 (by omega) with
   |step h1 h2=>exact ⟨_,aB.mpr (show az w (_,1) from h2)⟩
  have:=rZ hx
  omega
 have s:=B2 ne;rw [e] at s ⊢;exact h rs (.inr ⟨h2,R⟩) s
def tc(w:W):Nat:=(iC (row w) w.length).length
theorem Eb{w:W}(g:Good w):2*tc w=(aE w).length:=by
 have:=(tM g (.refl _)).length_eq
 rw [dX,aP] at this;unfold tc;omega
def Jt:fm:=λds P=>∃(w:W),ds= [.fV w]∧Good w∧1≤w.length∧w.length≤14∧∀rs,Rs w rs→(h8 rs).Pairwise jR→P (.tup [.int (w.length:Int), .int (tc w:Int), .int (rs.length:Int)])
theorem wU:FnOk P w Z.K mg base cw 4 T.d_count.f T.d_count.fd ["web"] (aX Z Jt):=by
 have nd:=w9.nd;refine bM T.d_count.F w9 [0] (by decide) (λds R h=>by obtain ⟨_,rfl,_⟩:=h;rfl) (λbr A outer s H E ds R hr h=>?_)
 have hu:=hr.units;refine ⟨_,(aw (bA (eH (af (jJ T.W (U 0) T.m_many.m (pS T) (hr.mono (by decide)) T.m_many.b) (af (cc ix rfl T.B.len iw (af (jJ T.W (U 0) T.m_ties.m (kA T) (hr.mono (by decide)) T.m_ties.b) ax)) (af (cc ix rfl T.B.len iw (af (bu T.d_lands ((Cf T).imp Ws) hr (af (U 0) ax)) ax)) ax)))))),?_⟩
 obtain ⟨w',rfl,g,l1,uj,q⟩:=h;refine ⟨_,rfl,w',rfl,w',rfl,_,rfl,w',rfl,w',rfl,g,uj,λts pm yW=>?_⟩
 obtain ⟨u1,u2⟩:=B3 (P:=λd=>F7 [d] λx=>([.int (w'.length:Int), .int ((ts.map pairD).length:Int),x]:List D).length≤sizeLine∧R (.tup [.int (w'.length:Int), .int ((ts.map pairD).length:Int),x])) g λrs Rr s=>by
  refine ⟨by show 3≤sizeLine;decide,?_⟩
  have:=q rs Rr s
  have e1:(ts.map pairD).length=tc w':=by rw [aP,pm.length_eq];rfl
  have e2:((h8 rs).map aZ).length=rs.length:=by rw [aP,aP]
  rw [e1,e2];exact this
 exact ⟨_,rfl,w',rfl,g,l1,uj,u1,u2⟩
def Jw:fm:=λds P=>∃(w:W),ds= [.fV w]∧Good w∧1≤w.length∧w.length≤14∧∀rs,Rs w rs→(h8 rs).Pairwise jR→P (.bl (decide ((w.length:Int)+(rs.length:Int)=(tc w:Int)+2)))
theorem yL:FnOk P w Z.K mg base cw 5 T.d_is_plane.f T.d_is_plane.fd ["web"] (aX Z Jw):=by
 have nd:=qb.nd;refine bM T.d_is_plane.F qb [0,0,0,0] (by decide) (λds R h=>by obtain ⟨_,rfl,_⟩:=h;rfl) (λbr A outer s H E ds R hr h=>?_)
 have hu:=hr.units
 refine ⟨_,(au (xP (bu T.d_count (wU T) hr (af (U 0) ax)) (gL 3 rfl (aY (aO 1 nd) (aY (aO 2 nd) (aY (aO 3 nd) dY)))))
   (aw (bA (sR (yB hu) (f7 gO (U 1) (U 3)) (f7 gO (U 2) aU) (bK _))))),?_⟩
 obtain ⟨w',rfl,g,l1,uj,q⟩:=h;refine ⟨_,rfl,w',rfl,g,l1,uj,λrs Rr s=>?_⟩;refine ⟨rfl,rfl,?_⟩;refine ⟨_,rfl,_,rfl,_,rfl,?_⟩;exact tS (q rs Rr s)
variable {P:Program} {w:World} {mg:Str→Option Value} {base:Heap} {Z:DC} (T:Txt Z mg)
def yU:fm:=λds P=>∃(w:W)(d:Nat×Nat),ds= [bJ w,pairD d]∧Good w∧az w d∧P (pairD (bw w d))
theorem nJ:FnOk P w Z.K mg base cw 1 T.d__law_next.f T.d__law_next.fd ["_law_turns","_law_side"] (aX Z yU):=by
 have nd:=nN.nd;refine bM T.d__law_next.F nN [0,0,0,0] (by decide) (λds R h=>by obtain ⟨_,_,rfl,_⟩:=h;rfl) (λbr A outer s H E ds R hr h=>?_)
 have hu:=hr.units
 refine ⟨_,(au (xP (U 1) (gL 2 rfl (aY (aO 2 nd) (aY (aO 3 nd) dY))))
   (aw (bA (eH (af (U 3) (af (fG (fG (U 0) (U 3)) (f7 yE (f7 gO (wa (fG (U 0) (U 3)) (U 2)) aU) (cc ix rfl T.B.len iw (af (fG (U 0) (U 3)) ax)))) ax)))))),?_⟩
 obtain ⟨w',d,rfl,g,hd,q⟩:=h;have d2:=g.rng _ _ hd;have hm:d.1∈row w' d.2:=g.sym _ _ hd;have lr:((row w' d.2).map aI).length=(row w' d.2).length:=aP _;have pos:0<(row w' d.2).length:=rZ hm;have e0:(0:Int)<(((row w' d.2).map aI).length:Int):=by rw [lr];omega
 have fx:=iz hm;refine ⟨_,rfl,rfl,rfl,?_⟩;have em:(((row w' d.2).idxOf d.1:Nat):Int)+1=(((row w' d.2).idxOf d.1+1:Nat):Int):=by omega
 have et:((((row w' d.2).idxOf d.1:Nat):Int)+1)%(((row w' d.2).map aI).length:Int)=((((row w' d.2).idxOf d.1+1)%(row w' d.2).length:Nat):Int):=by rw [lr,em,Int.natCast_emod]
 have at_:f6 ((row w' d.2).map aI) (((((row w' d.2).idxOf d.1:Nat):Int)+1)%(((row w' d.2).map aI).length:Int))=some (aI (aK (row w' d.2) d.1)):=by
  rw [et];exact Al (Nat.mod_lt _ pos)
 refine ⟨_,rfl,_,rfl,_,rfl,_,pZ d2,_,rfl,_,rfl,_,pZ d2,?_⟩;exact ⟨_,rfl,_,rfl,rfl,iE _,_,_,fx.1,fx.2.1,fx.2.2,_,rfl,_,rfl,_,pZ d2,e0,_,at_,by show 2≤sizeLine;decide,q⟩
def FL:fm:=λds P=>∃(w:W)(d:Nat×Nat),ds= [bJ w,pairD d]∧Good w∧w.length≤14∧az w d∧∀r,eE w d r→P (.lst (r.map pairD))
theorem uD:FnOk P w Z.K mg base cw 2 T.d__law_round.f T.d__law_round.fd ["_law_turns","_law_side"] (aX Z FL):=by
 have nd:=mm.nd;refine bM T.d__law_round.F mm [0,0,1,0] (by decide) (λds R h=>by obtain ⟨_,_,rfl,_⟩:=h;rfl) (λbr A outer s H E ds R hr h=>?_)
 have hu:=hr.units
 refine ⟨_,(au (sS 2 nd (pA (af (U 1) ax)))
   (au (cP false 3 nd (bu T.d__law_next (nJ T) hr (af (U 0) (af (U 1) ax))))
   (au (qB PassesOwn.never (dj (yF hu) (U 3) (U 1) (bK _)) (au (xO false 2 (U 3))
   (aw (cP false 3 nd (bu T.d__law_next (nJ T) hr (af (U 0) (af (U 3) ax)))))))
   (aw (bA (U 2)))))),?_⟩
 obtain ⟨w',d,rfl,g,cF,hd,q⟩:=h;have c1:=gG g;have c2:w'.length*w'.length≤14*14:=rf cF cF;refine ⟨_,rfl,by show 1≤sizeLine;decide,?_⟩
 refine ⟨_,rfl,_,rfl,w',d,rfl,g,hd,trivial,?_⟩;refine oY (λm ρ=>∃k,0<k∧m+k=(aE w').length+1∧(∀j,0<j→j<k→bo w' j d≠d)∧ρ= [some (bJ w'),some (pairD d),some (.lst ((walk w' d k).map pairD)),some (pairD (bo w' k d))]) (aE w').length ⟨1,by omega,rfl,λj h1 h2=>by omega,rfl⟩ ?_
 rintro m _ ⟨k,k0,hm,hk,rfl⟩;have OK:=dr g hd k;refine ⟨_,rfl,_,rfl,?_⟩;refine v9 ⟨_,rfl,kh (λe=>?_) (λe=>?_)⟩
 ·have ne:bo w' k d≠d:=by simpa using e
  have lt:k<(aE w').length:=by
   have:=qi g hd (k:=k+1) λj h1 h2=>by
    by_cases c:j=k
    ·subst c;exact ne
    ·exact hk j h1 (by omega)
   omega
  refine ⟨_,rfl,_,rfl,trivial,bq (by rw [aP,eB];omega),?_⟩
  refine ⟨_,rfl,_,rfl,w',bo w' k d,rfl,g,OK,trivial,?_⟩;refine ⟨m-1,by omega,k+1,by omega,by omega,λj h1 h2=>?_,?_⟩
  ·by_cases c:j=k
   ·subst c;exact ne
   ·exact hk j h1 (by omega)
  ·rw [oX,dW];rfl
 ·have e:bo w' k d=d:=by simpa using e
  exact ⟨_,rfl,q _ ⟨k,k0,e,hk,rfl⟩⟩
theorem eQ.off{w:W}{rs:List (List (Nat×Nat))}(h:eQ w rs){d:Nat×Nat}{r:List (Nat×Nat)}(R:eE w d r)(nd:d∉rs.flatten):∀x∈r,x∉rs.flatten:=λx hx z=>by
 obtain ⟨r',ft,Pe⟩:=kX.mp z;obtain ⟨e,R',_⟩:=h r' ft;obtain ⟨n,hn⟩:=R.back hx;exact nd (kX.mpr ⟨r',ft,hn▸R'.iter Pe n⟩)
def FN:fm:=λds P=>∃(w:W),ds= [bJ w]∧Good w∧w.length≤14∧∀rs,eQ w rs→rs.flatten.Perm (aE w)→P (.int (if (rs.length:Int)>1 then (rs.length:Int) else 1))
theorem sF:FnOk P w Z.K mg base cw 3 T.d__law_rounds.f T.d__law_rounds.fd ["_law_turns"] (aX Z FN):=by
 have nd:=kN.nd;refine bM T.d__law_rounds.F kN [0,98,0,0,0,0,0] (by decide) (λds R h=>by obtain ⟨_,rfl,_⟩:=h;rfl) (λbr A outer s H E ds R hr h=>?_)
 have hu:=hr.units
 refine ⟨_,(au (GI 1 nd)
   (au (cP false 2 nd aU)
   (au (eJ rfl PassesOwn.never (gP rfl T.B.enumerate (af (U 0) ax)) (gL 2 rfl (aY (aO 3 nd) (aY (aO 4 nd) dY))) (aw (eJ rfl PassesOwn.never (cO (U 4)) (aO 5 nd) (aw (eF (dj (Cb hu) (eH (af (U 3) (af (U 5) ax))) (U 1) (by with_unfolding_all rfl)) (au (cP false 2 nd (f7 gO (U 2) aU))
   (aw (eJ rfl PassesOwn.never (cO (bu T.d__law_round (uD T) hr (af (U 0) (af (eH (af (U 3) (af (U 5) ax))) ax)))) (aO 6 nd) (aw (GN 1 hu (U 6) n5))))) bL)))))
   (aw (bA (cc (Gd rfl) rfl T.B.max JV (af aU (af (U 2) ax)))))))),?_⟩
 obtain ⟨w',rfl,g,cF,q⟩:=h;have lw:(w'.map aZ).length=w'.length:=aP _;have c1:=gG g;have c2:w'.length*w'.length≤14*14:=rf cF cF;refine ⟨trivial,?_⟩;refine ⟨_,rfl,?_⟩;refine (?_:ji _ _ _ (f9 (w'.map aZ)) _)
 refine cE (λi ρ=>∃(rs:List (List (Nat×Nat)))(vs:List FV)(o3 o4 o5 o6:Option D),ρ= [some (bJ w'),some (.x (.pV (rs.flatten.map zz) vs)),some (.int (rs.length:Int)),o3,o4,o5,o6]∧eQ w' rs∧rs.flatten.Nodup∧∀p,p<i→∀q∈row w' p,(p,q)∈rs.flatten)
  ⟨[],[],none,none,none,none,rfl,(λr hr=>nomatch hr),ju,λp hp=>absurd hp (by omega)⟩ ?_ ?_
 ·rintro i _ _ hd ⟨rs,vs,o3,o4,o5,o6,rfl,hA,nd,all⟩ A YG
  obtain ⟨x,hx,rfl⟩:=kc hd;obtain ⟨t,ht,rfl⟩:=dA hx;have er:row w' i=t:=by unfold row;rw [fW,ht];rfl
  refine ⟨rfl,rfl,?_⟩;refine ⟨_,rfl,?_⟩;refine (?_:ji _ _ _ (t.map aI) _)
  refine cE (λk ρ=>∃(rs:List (List (Nat×Nat)))(vs:List FV)(o5 o6:Option D),ρ= [some (bJ w'),some (.x (.pV (rs.flatten.map zz) vs)),some (.int (rs.length:Int)),some (.int (i:Int)),some (aZ t),o5,o6]∧eQ w' rs∧rs.flatten.Nodup∧(∀p,p<i→∀q∈row w' p,(p,q)∈rs.flatten)∧∀q∈t.take k,(i,q)∈rs.flatten)
   ⟨rs,vs,o5,o6,rfl,hA,nd,all,λq hq=>by simp at hq⟩ ?_ ?_
  ·rintro k _ _ hd2 ⟨rs,vs,o5,o6,rfl,hA,nd,all,tk⟩ A2 Hg
   obtain ⟨y,hy,rfl⟩:=dA hd2;have ym:y∈row w' i:=by rw [er];exact di hy
   have dy:az w' (i,y):=ym;have WN:t.take (k+1)=t.take k++ [y]:=by rw [List.take_succ,hy];rfl
   refine ⟨_,rfl,_,rfl,by show 2≤sizeLine;decide,_,rfl,zz (i,y),_,vs,rfl,rfl,_,rfl,?_⟩
   refine (?_:if (if true=true then !decide (zz (i,y)∈rs.flatten.map zz) else _)=true then _ else _);rw [if_pos rfl,show decide (zz (i,y)∈rs.flatten.map zz)=decide ((i,y)∈rs.flatten) from decide_eq_decide.mpr sZ];refine kh (λc=>?_) (λc=>?_)
   ·have c:(i,y)∉rs.flatten:=by simpa using c
    refine ⟨_,rfl,trivial,?_⟩;refine ⟨_,rfl,_,rfl,_,rfl,by show 2≤sizeLine;decide,w',(i,y),rfl,g,cF,dy,λr R=>?_⟩
    have VB:=eQ.off hA R c;have rd:∀x∈r,x∈aE w':=λx hx=>aB.mpr (R.aE g dy x hx);have fd:∀x∈rs.flatten,x∈aE w':=λx hx=>aB.mpr (eQ.dart g hA x hx);have rnd:=R.nodup g dy;have n2:(rs.flatten++r).Nodup:=b7.mpr ⟨nd,rnd,λa ha b hb z=>VB b hb (z▸ha)⟩;have Oq:(rs.flatten++r).length≤(aE w').length:=aT n2 λx hx=>(b9.mp hx).elim (fd x) (rd x);rw [dX] at Oq;refine (?_:ji _ _ _ (r.map pairD) _);refine cE (λj ρ=>∃(vs:List FV)(o6:Option D),ρ= [some (bJ w'),some (.x (.pV ((rs.flatten++r.take j).map zz) vs)),some (.int ((rs.length:Int)+1)),some (.int (i:Int)),some (aZ t),some (aI y),o6]) ⟨vs,o6,by rw [xy,j4];rfl⟩ ?_ ?_
    ·rintro j _ _ YZ ⟨vs,o6,rfl⟩ A3 Km
     obtain ⟨f,hf,rfl⟩:=dA YZ;have tk2:r.take (j+1)=r.take j++ [f]:=by rw [List.take_succ,hf];rfl
     have nin:f∉rs.flatten++r.take j:=λz=>by
      have sp:rs.flatten++r=(rs.flatten++r.take j)++(f::r.drop (j+1)):=by
       rw [kU,←cu.mp hf|>.2,List.getElem_cons_drop,iY]
      rw [sp] at n2;exact (b7.mp n2).2.2 f z f (b8 ..) rfl
     refine ⟨.bl true,_,vs,rfl,rfl,_,rfl,zz f,rfl,λz=>nin (sZ.mp z),by rw [aP,dX,jt];omega,Km _ ⟨vs++ [.bl true],some (pairD f),?_⟩⟩
     rw [tk2,←kU,dW (l₂:= [f])];rfl
    ·rintro _ ⟨vs,o6,rfl⟩
     rw [aP,List.take_length];have ef:(rs++ [r]).flatten=rs.flatten++r:=by rw [vy];simp
     refine Hg _ ⟨rs++ [r],vs,some (aI y),o6,?_,λa ha=>?_,by rw [ef];exact n2,λp hp q hq=>by rw [ef];exact fj _ (all p hp q hq),λq hq=>?_⟩
     ·rw [ef,show ((rs++ [r]).length:Int)=(rs.length:Int)+1 by rw [dX];rfl]
     ·rcases b9.mp ha with ha|ha
      ·exact hA a ha
      ·rw [bN] at ha
       subst ha;exact ⟨_,R,dy⟩
     ·rw [ef]
      rw [WN] at hq
      rcases b9.mp hq with hq|hq
      ·exact fj _ (tk q hq)
      ·rw [bN] at hq
       subst hq;exact cL _ R.first
   ·have c:(i,y)∈rs.flatten:=by simpa using c
    refine Hg _ ⟨rs,vs,some (aI y),o6,rfl,hA,nd,all,λq hq=>?_⟩;rw [WN] at hq
    rcases b9.mp hq with hq|hq
    ·exact tk q hq
    ·rw [bN] at hq
     subst hq;exact c
  ·rintro _ ⟨rs,vs,o5,o6,rfl,hA,nd,all,tk⟩
   rw [aP,List.take_length] at tk;refine YG _ ⟨rs,vs,_,_,_,_,rfl,hA,nd,λp hp q hq=>?_⟩
   by_cases z:p=i
   ·subst z
    exact tk q (by rw [←er];exact hq)
   ·exact all p (by omega) q hq
 ·rintro _ ⟨rs,vs,o3,o4,o5,o6,rfl,hA,nd,all⟩
  rw [n9,lw] at all
  have pm:rs.flatten.Perm (aE w'):=(mG nd (bb g)).mpr λd=>⟨λh=>aB.mpr (eQ.dart g hA d h),λh=>by
   have h:=aB.mp h;exact all d.1 (cf h) d.2 h⟩
  exact ⟨_,rfl,1,(rs.length:Int),rfl,q rs hA pm⟩
variable {P:Program} {w:World} {mg:Str→Option Value} {base:Heap} {Z:DC} (T:Txt Z mg)
def o9(b:Nat)(eG:List D):Prop:=0<eG.length∧eG.length≤400∧∀d∈eG,∃l:List D,d= .lst l∧l.length≤b
theorem o9.at_{b:Nat}{eG:List D}(h:o9 b eG){j:Nat}(hj:j<eG.length):∃l:List D,eG[j]? =some (.lst l)∧l.length≤b:=by
 obtain ⟨l,e,hl⟩:=h.2.2 eG[j] (nW hj);exact ⟨l,by rw [cK hj,e],hl⟩
theorem o9.set{b c:Nat}{eG:List D}(h:o9 b eG)(bc:b≤c){j:Nat}{l:List D}(hl:l.length≤c):o9 c (eG.set j (.lst l)):=by
 refine ⟨by rw [fC];exact h.1,by rw [fC];exact h.2.1,λd hd=>?_⟩
 rcases C3 hd with hd|rfl
 ·obtain ⟨l,e,hl⟩:=h.2.2 d hd
  exact ⟨l,e,j5 hl bc⟩
 ·exact ⟨l,rfl,hl⟩
theorem HR{n:Nat}(h:0<n):iO n (-1)=some (n-1):=by
 unfold iO;rw [if_neg (by omega),if_pos (by omega)]
 exact congrArg some (by omega)
theorem Bh{L:List (List Nat)}(h0:0<L.length)(h1:L.length≤300)(h2:∀r∈L,r.length≤300):o9 300 (L.map aZ):=by
 refine ⟨by rw [aP];exact h0,by rw [aP];omega,λd hd=>?_⟩
 obtain ⟨r,hr,rfl⟩:=bS.mp hd;exact ⟨_,rfl,by rw [aP];exact h2 r hr⟩
theorem Er{a b c d e f:Int}{P:D→Prop}(h:P (.bl (!decide (a=d∧b=e∧c=f)))):Gk (.tup [.int a, .int b, .int c]) (.tup [.int d, .int e, .int f]) P:=by
 have py:∀x y z:Int,(D.tup [.int x, .int y, .int z]).py=some (.tuple [.int x, .int y, .int z]):=λx y z=>by rw [D.py,gm,gm,gm,gm];rfl
 refine ⟨_,_,py a b c,py d e f,by simp [PyData.depth,PyData.depthAll],?_⟩
 rw [if_pos rfl,show PyData.eqv (.tuple [.int a, .int b, .int c]) (.tuple [.int d, .int e, .int f])=decide (a=d∧b=e∧c=f) by
  rw [xt,decide_eq_true_iff];simp [PyData.eqv,PyData.eqvAll]]
 exact h
theorem Rs.len{w:W}(g:Good w){rs eZ:List (List (Nat×Nat))}(h:Rs w rs)(h':Rs w eZ):rs.length=eZ.length:=by
 rcases h with ⟨h1,rfl⟩ | ⟨h1,R⟩
 ·rcases h' with ⟨_,rfl⟩ | ⟨h2,_⟩
  ·rfl
  ·omega
 ·rcases h' with ⟨h2,_⟩ | ⟨_,R'⟩
  ·omega
  ·exact ((mG (R.nodup g) (R'.nodup g)).mpr λr=>⟨R.sub R' r,R'.sub R r⟩).length_eq
theorem AK:∀w:W,(w.map λr=>(r.length:Int)).sum=((fc w:Nat):Int)
 | []=>rfl
 |r::w=>by
  have:=AK w
  unfold fc at this ⊢;simp only [fD,List.sum_cons] at this ⊢;omega
theorem J4{a b:Bool}{P:D→Prop}(h:P (.bl (!decide (a=b)))):Gk (.bl a) (.bl b) P:=by
 refine ⟨.bool a, .bool b,rfl,rfl,by simp [PyData.depth],?_⟩
 rw [if_pos rfl,show PyData.eqv (.bool a) (.bool b)=decide (a=b) by cases a<;>cases b<;>rfl]
 exact h
theorem tail3{E:fY}{u:dh}{a b c e f g h i:Option D}{fs:List D}(A:o9 300 fs)(hE:∀Ov,u E [a,b,c,some (.lst Ov),e,f,g,h,i]):
  dSeq (Gh [0,0,0,2,0,0,0,0,0] false 3 (MA (dC (.int 1))) (dC (.int 0))) (dSeq (Gr 3 (dC (.int 0))) (dSeq (Df [0,0,0,2,0,0,0,0,0] 3 (GX (Gi (dC (.int 0)) zE))) u)) E [a,b,c,some (.lst fs),e,f,g,h,i]:=by
 obtain ⟨x0,h0,l0⟩:=A.at_ (j:=fs.length-1) (by have:=A.1;omega)
 refine ⟨fs,rfl,_,fs.length-1,x0,rfl,HR A.1,h0,trivial,bq (by omega),?_⟩
 have A1:o9 301 (fs.set (fs.length-1) (.lst (x0++ [.int 0]))):=A.set (by omega) (by rw [dX];show x0.length+1≤301;omega)
 refine Io [a,b,c,some (.lst (fs.set (fs.length-1) (.lst (x0++ [.int 0])))),e,f,g,h,i] rfl ?_;generalize fs.set (fs.length-1) (.lst (x0++ [.int 0]))=f1 at A1;obtain ⟨x1,h1,l1⟩:=A1.at_ A1.1;refine ⟨f1,rfl,_,0,x1,rfl,KH (p:=0) A1.1,h1,?_⟩;refine Io [a,b,c,some (.lst (f1.set 0 (.lst x1.reverse))),e,f,g,h,i] rfl ?_;refine ⟨_,rfl,by show 1≤sizeLine;decide,bq (by rw [fC];have:=A1.2.1;omega),?_⟩
 exact hE _
theorem eQ.rounds{w:W}(g:Good w){rs:List (List (Nat×Nat))}(h:eQ w rs)(pm:rs.flatten.Perm (aE w)):bT w (rs.map zv):=by
 refine ⟨λr' ft=>?_,(nG tG rs).trans pm⟩;obtain ⟨r,hr,rfl⟩:=bS.mp ft;obtain ⟨d,R,dd⟩:=h r hr;obtain ⟨e,h1,h2,h3⟩:=En g R dd;exact ⟨e,h1,h2,h3⟩
theorem Bv{w:W}{b:Bool}(g:Good w)(l1:1≤w.length)(eu:Eu b w){rs:List (List (Nat×Nat))}(hA:eQ w rs)(pm:rs.flatten.Perm (aE w)):
  ∃C:Nat,(if (rs.length:Int)>1 then (rs.length:Int) else 1)=(C:Int)∧(∀eZ,Rs w eZ→eZ.length=C)∧w.length+C≤tc w+2∧(b=true→w.length+C=tc w+2):=by
 have t2:=Eb g;have dg:=j8 w
 by_cases c:w.length=1
 ·have d0:aE w= []:=List.eq_nil_iff_forall_not_mem.mpr λd hd=>by
   have hd:=aB.mp hd;have h1:=cf hd;have h2:=g.rng _ _ hd;exact zF g hd (by omega)
  have r0:rs= []:=by
   cases rs with
   |nil=>rfl
   |cons r rs=>
    obtain ⟨d,R,dd⟩:=hA r (b8 ..)
    have:=pm.mem_iff.mp (kX.mpr ⟨r,b8 ..,R.first⟩)
    rw [d0] at this;cases this
  subst r0;rw [d0] at t2;have t2:2*tc w=0:=t2;refine ⟨1,rfl,λeZ h=>?_,by omega,λ_=>by omega⟩
  rcases h with ⟨_,rfl⟩ | ⟨h,_⟩
  ·rfl
  ·omega
 ·have l2:2≤w.length:=by omega
  have key:∀{a},eQ w a→a.flatten.Perm (aE w)→a.length=rs.length:=λ {a} h p=>by
   have:=Rs.len g (.inr ⟨l2,eQ.rounds g h p⟩) (.inr ⟨l2,eQ.rounds g hA pm⟩)
   rw [aP,aP] at this;exact this
  have pos:1≤rs.length:=by
   cases rs with
   |nil=>
    have h0:(aE w).length=0:=pm.length_eq.symm
    obtain ⟨x,hx⟩:∃x,x∈aE w:=by
     cases g.con 1 (by omega) with
     |step h1 h2=>exact ⟨_,aB.mpr (show az w (_,1) from h2)⟩
    have:=rZ hx
    omega
   |cons r rs=>show 1≤rs.length+1;omega
  obtain ⟨c',⟨a,BB,PZ,hl⟩,e1,e2⟩:=eu l2
  have:=key BB PZ
  refine ⟨rs.length,by split<;>omega,λeZ h=>?_,by omega,λhb=>by have:=e2 hb;omega⟩
  have:=Rs.len g h (.inr ⟨l2,eQ.rounds g hA pm⟩)
  rw [aP] at this;exact this
theorem Lc:FnOk P w Z.K mg base cw 6 T.d_law.f T.d_law.fd ["_law_script"] (aX Z D5):=by
 have nd:=D4.nd;refine bM T.d_law.F D4 [0,0,0,2,0,0,0,0,0] (by decide) (λds R h=>by obtain ⟨_,rfl,_⟩:=h;rfl) (λbr A outer s H E ds R hr h=>?_)
 have hu:=hr.units
 refine ⟨_,(au (cP false 1 nd (sR (yB hu) (f7 yE (bu T.d__law_cell (vU T) hr (af (U 0) (af aU ax))) aU) aU (bK _)))
   (au (cP false 2 nd (bu T.d__law_web (yJ T) hr (af (U 0) (af aU (af (U 1) ax)))))
   (au (tV 3 (NC:= ["_law_turn"]) (src:= [none]) rfl nd (zC (ao qZ)) trivial (cO (U 2)) (λ_ _ _=>(dP 0 (show (["_law_turn"]:List Str).Nodup from by decide+kernel))) (λ_ _ _=>(zJ rfl rfl T.B.list zu (U 0))))
   (au (Bt 4 nd T.mkW (Iy T) (hr.mono (by decide)) rfl T.mC T.m___init__b (af (U 3) ax))
   (au (GH false 3 (J8 aU) aU)
   (au (GL 3 aU)
   (au (wb 3 (pA (af aU ax)))
   (au (cP false 5 nd (eH (af (cc ix rfl T.B.len iw (af (U 2) ax)) (af (f7 Lb (cc (JY rfl) rfl T.B.sum JW (af (Bp (NC:= ["_law_turn"]) (src:= [none]) rfl (zC (ao qZ)) trivial (cO (U 2)) (λ_ _ _=>(dP 0 (show (["_law_turn"]:List Str).Nodup from by decide+kernel))) (λ_ _ _=>jL) (λ_ _ _=>(cc ix rfl T.B.len iw (af (U 0) ax)))) ax)) aU) (af (bu T.d__law_rounds (sF T) hr (af (U 2) ax)) ax)))))
   (au (GJ rfl PassesOwn.never (Bq rfl T.B.range (af aU ax)) (aO 6 nd) (au (cP false 7 nd (bu T.d_count (wU T) hr (af (U 4) ax)))
   (au (eF (DW.dt (Bu (j9 (iy (pk "tuple" (U 7) rfl T.B.isinstance rfl T.B.tuple Em))) (Bu (dj (yF hu) (U 7) (U 5) (bK _)) (Du (iy (cc JX rfl T.x_any JT (af (Bp (NC:= ["_law_one"]) (src:= [none]) rfl (zC (ao qZ)) trivial (Ke (U 7)) (λ_ _ _=>(dP 0 (show (["_law_one"]:List Str).Nodup from by decide+kernel))) (λ_ _ _=>jL) (λ_ _ _=>(pk "bool" (U 0) rfl T.B.isinstance rfl T.B.bool tF))) ax))))))) (aw (bA n5)) bL)
   (au (cP false 8 nd (bu T.d_is_plane (yL T) hr (af (U 4) ax)))
   (au (eF (DW.dt (Bu (j9 (iy (pk "bool" (U 8) rfl T.B.isinstance rfl T.B.bool tF))) (Du (dj (yF hu) (U 8) (sR (yB hu) (f7 gO (fG (U 5) aU) (fG (U 5) aU)) (f7 gO (fG (U 5) aU) aU) (bK _)) (bK _))))) (aw (bA n5)) bL)
   (aw (eF (DW.dt (Kg (iy (U 1)) (GQ (j9 (iy (U 8)))))) (aw (bA n5)) bL)))))))
   (aw (bA (sR yD (f7 gO (fG (U 7) aU) (fG (U 7) aU)) (f7 gO (fG (U 7) aU) aU) (bK _))))))))))))),?_⟩
 obtain ⟨ns,rfl,yc,q⟩:=h;refine ⟨_,rfl,ns,5,rfl,by omega,λv=>⟨(by show (0:Int)<2;decide),Ss ⟨trivial,?_⟩⟩⟩
 generalize decide (v%2=0)=b;refine ⟨_,rfl,_,rfl,ns,14,b,rfl,by omega,by omega,λw' g l1 uj eu=>⟨trivial,?_⟩⟩
 have lw:(w'.map aZ).length=w'.length:=aP _;refine ⟨_,rfl,qG w' none [] _ (by rw [xw,qr];exact small (by omega)) ?_⟩
 rw [xv];refine ⟨_,rfl,w',rfl,g,l1,uj,?_⟩
 have wA:o9 300 (w'.map aZ):=Bh (by omega) (by omega) λr hr=>by
  obtain ⟨p,hp,e⟩:=zg.mp hr
  have:=eY g p
  unfold row at this;rw [fW,cK hp] at this;have this:r.length≤w'.length:=by rw [←e];exact this
  omega
 dsimp only;refine C8 [some (.jb ns),some (.bl b),some (bJ w'),some (.lst (w'.map aZ)),some (.fV w'),none,none,none,none] rfl ?_;refine tail3 wA λh3=>?_;refine ⟨_,rfl,_,rfl,yo (ρ:= [none]) aZ (λr=> .int (r.length:Int)) w' _ (λx hx Y hY=>?_) rfl (small (by omega)) λaF=>?_⟩
 ·refine ⟨_,rfl,?_⟩
  refine (?_:Y (.int ((x.map aI).length:Int)));rw [aP];exact hY
 refine ⟨w'.map λr=>(r.length:Int),by rw [fE];rfl,⟨by decide,by decide⟩,_,rfl,w',rfl,g,uj,λrs hA pm=>?_⟩
 refine ⟨by show 3≤sizeLine;decide,trivial,?_⟩
 obtain ⟨C,eC,hC,le,eq⟩:=Bv g l1 eu hA pm
 have es:(w'.map λr=>(r.length:Int)).sum / 2=((tc w':Nat):Int):=by
  have t2:=Eb g;have dg:=j8 w';rw [AK];omega
 have ed:D.tup [.int ((w'.map aZ).length:Int), .int ((w'.map λr=>(r.length:Int)).sum / 2), .int (if (rs.length:Int)>1 then (rs.length:Int) else 1)]= .tup [.int (w'.length:Int), .int (tc w':Int), .int (C:Int)]:=by rw [lw,es,eC]
 dsimp only;refine C8 [some (.jb ns),some (.bl b),some (bJ w'),some (.lst h3),some (.fV w'),some (.tup [.int (w'.length:Int), .int (tc w':Int), .int (C:Int)]),none,none,none] (by rw [←ed];rfl) ?_
 refine ⟨⟨by decide,by decide⟩,?_⟩
 refine (?_:ji _ _ _ (gn 0 2) _);refine EI (λj ρ=>∃o6 o7 o8,ρ= [some (.jb ns),some (.bl b),some (bJ w'),some (.lst h3),some (.fV w'),some (.tup [.int (w'.length:Int), .int (tc w':Int), .int (C:Int)]),o6,o7,o8]∧(0<j→o7=some (.tup [.int (w'.length:Int), .int (tc w':Int), .int (C:Int)]))) ⟨_,_,_,rfl,λz=>absurd z (by omega)⟩ ?_ ?_
 ·rintro j _ hj ⟨o6,o7,o8,rfl,_⟩ A hA
  refine ⟨_,rfl,w',rfl,g,l1,uj,λeZ Rr _=>⟨trivial,?_⟩⟩;rw [hC eZ Rr];refine ⟨_,rfl,rfl,rfl,dq ?_⟩;refine ⟨_,rfl,_,rfl,Er ⟨_,rfl,MS (by simp) ?_⟩⟩
  refine ⟨_,rfl,?_⟩;refine (?_:lcW (mM 0) rm (My "bool" (Dh 0)) (([(w'.length:Int),(tc w':Int),(C:Int)]:List Int).map D.int) [none] [] _);refine yo (i:=0) (ρ:= [none]) D.int (λ_=> .bl false) [(w'.length:Int),(tc w':Int),(C:Int)] _ (λx hx Y hY=>⟨_,rfl,rfl,hY⟩) rfl (by show 3≤sizeLine;decide) λaF=>?_
  refine ⟨[false,false,false],rfl,rfl,dq ?_⟩;refine ⟨_,rfl,w',rfl,g,l1,uj,λrs2 R2 _=>⟨trivial,?_⟩⟩;rw [hC rs2 R2];refine ⟨_,rfl,rfl,rfl,dq ?_⟩;refine ⟨_,rfl,_,rfl,_,rfl,_,rfl,_,rfl,_,rfl,_,rfl,?_⟩;dsimp only [dC,Gg];refine tS ?_;refine J4 ⟨_,rfl,MS (by simp) ?_⟩
  refine ⟨_,rfl,rfl,?_⟩;have fin:A [some (.jb ns),some (.bl b),some (bJ w'),some (.lst h3),some (.fV w'),some (.tup [.int (w'.length:Int), .int (tc w':Int), .int (C:Int)]),some (aI j),some (.tup [.int (w'.length:Int), .int (tc w':Int), .int (C:Int)]),some (.bl (decide ((w'.length:Int)+(C:Int)=(tc w':Int)+2)))]:=hA _ ⟨_,_,_,rfl,λ_=>rfl⟩;cases b with
  |false=>exact dq (dq fin)
  |true=>
   refine fQ ⟨_,rfl,rfl,?_⟩
   have:AN (.bl (decide ((w'.length:Int)+(C:Int)=(tc w':Int)+2)))=true:=decide_eq_true (by have:=eq rfl;omega)
   rw [this];exact dq fin
 ·rintro _ ⟨o6,o7,o8,rfl,h7⟩
  rw [h7 (by omega)]
  refine ⟨_,rfl,_,rfl,_,rfl,_,rfl,_,rfl,_,rfl,?_⟩
  have:decide ((w'.length:Int)+(C:Int)≤(tc w':Int)+2)=true:=decide_eq_true (by omega)
  refine (?_:R (.bl (decide ((w'.length:Int)+(C:Int)≤(tc w':Int)+2))));rw [this];exact q
theorem all_mk{l:PySem.W.OpenLaw}{w:World}{K:PySem.W.Frag}{h:Heap}{mg:Str→Option Value}{fa C:Addr}{WM:Tok}(X:K.In h)(G:h.Ns mainGlobals mg)(Y6:mg "law"=some (.ref fa))
  {d0:Addr} {od0 Xi:Option Addr} {sl0:Array (Option Value)} {oc0 kV0 X4 pm0 Q0 XO:Value}
  {d1:Addr} {od1 Xj:Option Addr} {sl1:Array (Option Value)} {oc1 kV1 X5 IT Q2 XQ:Value}
  {d2:Addr} {od2 Xk:Option Addr} {uW:Array (Option Value)} {oc2 kV2 X6 Ls Q3 XR:Value}
  {d3:Addr} {od3 Xl:Option Addr} {sl3:Array (Option Value)} {oc3 kV3 X7 Cr Q4 XS:Value}
  {d4:Addr} {od4 Xm:Option Addr} {sl4:Array (Option Value)} {oc4 kV4 X8 pm4 Q6 XT:Value}
  {d5:Addr} {od5 Xn:Option Addr} {sl5:Array (Option Value)} {oc5 kV5 X9 Lu Q7 XU:Value}
  {d6:Addr} {od6 Xo:Option Addr} {sl6:Array (Option Value)} {oc6 kV6 Ya pm6 Q8 XW:Value}
  {d7:Addr} {od7 Xp:Option Addr} {sl7:Array (Option Value)} {oc7 kV7 Yb pm7 Q9 XX:Value}
  {d8:Addr} {od8 Xq:Option Addr} {sl8:Array (Option Value)} {oc8 kV8 Yc pm8 Rc XY:Value}
  {d9:Addr} {od9 Xr:Option Addr} {sl9:Array (Option Value)} {oc9 kV9 Yd pm9 Rf XZ:Value}
  {NK:Addr} {Vl QJ:Option Addr} {V9:Array (Option Value)} {U7 Uo RP VE Me Ri:Value}
  {NL:Addr} {Vm QK:Option Addr} {Wa:Array (Option Value)} {U8 Up RQ VF Mf Rj:Value}
  {NM:Addr} {Vn QL:Option Addr} {Wc:Array (Option Value)} {U9 Uq RS VG Mg Rk:Value}
  {NN:Addr} {Vo QM:Option Addr} {Wd:Array (Option Value)} {Va Ur RT VH Mh Rl:Value}
  {NO:Addr} {Vp QN:Option Addr} {We:Array (Option Value)} {Vb Us RU VI Mj Rm:Value}
  {NP:Addr} {Vq QO:Option Addr} {Wf:Array (Option Value)} {Vc Ut RV VJ Ml Rn:Value}
  {NQ:Addr} {Vr QP:Option Addr} {Wg:Array (Option Value)} {Vd Uu RW VL Mm Ro:Value}
  {NR:Addr} {Vs QQ:Option Addr} {Wh:Array (Option Value)} {Ve Uv RX VM Mn Rp:Value}
  {NS:Addr} {Vt QR:Option Addr} {Wi:Array (Option Value)} {Vf Uw RY VN Mo Rq:Value}
  {NT:Addr} {Vu QS:Option Addr} {Wj:Array (Option Value)} {Vg Ux RZ VO Mp Rt:Value}
  {NU:Addr} {Vv QT:Option Addr} {Wl:Array (Option Value)} {Vh Uy R0 VP Mq Ru:Value}
  {NV:Addr} {Vw QU:Option Addr} {Wm:Array (Option Value)} {Vi Uz Sa VQ Mr Rv:Value}
  {NW:Addr} {Vx QV:Option Addr} {Wn:Array (Option Value)} {Vj UA Sb VR Ms Rw:Value}
  {NX:Addr} {Vy QW:Option Addr} {Wo:Array (Option Value)} {Vk UB Sd VS Mu Rx:Value}
  {i0:Addr} {Z0 jn0:Option Addr} {js0:Array (Option Value)} {ZU Z6 jo0 jp0 Uh jt0:Value}
  {i1:Addr} {Z1 jn1:Option Addr} {js1:Array (Option Value)} {ZV Z7 jo1 jp1 Ui jt1:Value}
  {i2:Addr} {Z2 jn2:Option Addr} {js2:Array (Option Value)} {ZW Z8 jo2 jp2 Uj jt2:Value}
  {i3:Addr} {Z3 jn3:Option Addr} {js3:Array (Option Value)} {ZX Z9 jo3 jp3 Uk jt3:Value}
  {i4:Addr} {Z4 jn4:Option Addr} {js4:Array (Option Value)} {ZY jk4 jo4 jp4 Ul jt4:Value}
  {i5:Addr} {Z5 jn5:Option Addr} {js5:Array (Option Value)} {ZZ jk5 jo5 jp5 Um jt5:Value}
  (gC:PySem.W.nsIn K mainGlobals "Web"=some (some (.ref C)))
  (a0:gZ K "round_from" d0)
  (l0:fo K "round_from" "round_from" jE d0 od0 Xi sl0 oc0 kV0 X4 pm0 Q0 XO)
  (c0:PySem.W.codeIn K Q0 "round_from"=true)
  (k0:PySem.W.keepIn K (.ref d0)=true)
  (a1:gZ K "lands" d1)
  (l1:fo K "lands" "lands" mj d1 od1 Xj sl1 oc1 kV1 X5 IT Q2 XQ)
  (c1:PySem.W.codeIn K Q2 "lands"=true)
  (k1:PySem.W.keepIn K (.ref d1)=true)
  (a2:gZ K "count" d2)
  (l2:fo K "count" "count" uV d2 od2 Xk uW oc2 kV2 X6 Ls Q3 XR)
  (c2:PySem.W.codeIn K Q3 "count"=true)
  (k2:PySem.W.keepIn K (.ref d2)=true)
  (a3:gZ K "is_plane" d3)
  (l3:fo K "is_plane" "is_plane" mh d3 od3 Xl sl3 oc3 kV3 X7 Cr Q4 XS)
  (c3:PySem.W.codeIn K Q4 "is_plane"=true)
  (k3:PySem.W.keepIn K (.ref d3)=true)
  (a4:gZ K "is_among" d4)
  (l4:fo K "is_among" "is_among" lZ d4 od4 Xm sl4 oc4 kV4 X8 pm4 Q6 XT)
  (c4:PySem.W.codeIn K Q6 "is_among"=true)
  (k4:PySem.W.keepIn K (.ref d4)=true)
  (a5:gZ K "alien_fault" d5)
  (l5:fo K "alien_fault" "alien_fault" iS d5 od5 Xn sl5 oc5 kV5 X9 Lu Q7 XU)
  (c5:PySem.W.codeIn K Q7 "alien_fault"=true)
  (k5:PySem.W.keepIn K (.ref d5)=true)
  (a6:gZ K "self_fault" d6)
  (l6:fo K "self_fault" "self_fault" jF d6 od6 Xo sl6 oc6 kV6 Ya pm6 Q8 XW)
  (c6:PySem.W.codeIn K Q8 "self_fault"=true)
  (k6:PySem.W.keepIn K (.ref d6)=true)
  (a7:gZ K "twice_fault" d7)
  (l7:fo K "twice_fault" "twice_fault" iV d7 od7 Xp sl7 oc7 kV7 Yb pm7 Q9 XX)
  (c7:PySem.W.codeIn K Q9 "twice_fault"=true)
  (k7:PySem.W.keepIn K (.ref d7)=true)
  (a8:gZ K "lone_fault" d8)
  (l8:fo K "lone_fault" "lone_fault" jD d8 od8 Xq sl8 oc8 kV8 Yc pm8 Rc XY)
  (c8:PySem.W.codeIn K Rc "lone_fault"=true)
  (k8:PySem.W.keepIn K (.ref d8)=true)
  (a9:gZ K "reached_from_first" d9)
  (l9:fo K "reached_from_first" "reached_from_first" cH d9 od9 Xr sl9 oc9 kV9 Yd pm9 Rf XZ)
  (c9:PySem.W.codeIn K Rf "reached_from_first"=true)
  (k9:PySem.W.keepIn K (.ref d9)=true)
  (W5:gZ K "apart_fault" NK)
  (l10:fo K "apart_fault" "apart_fault" iT NK Vl QJ V9 U7 Uo RP VE Me Ri)
  (Xt:PySem.W.codeIn K Me "apart_fault"=true)
  (k10:PySem.W.keepIn K (.ref NK)=true)
  (W6:gZ K "first_fault" NL)
  (l11:fo K "first_fault" "first_fault" iU NL Vm QK Wa U8 Up RQ VF Mf Rj)
  (Xu:PySem.W.codeIn K Mf "first_fault"=true)
  (k11:PySem.W.keepIn K (.ref NL)=true)
  (W7:gZ K "_law_cell" NM)
  (l12:fo K "_law_cell" "_law_cell" p5 NM Vn QL Wc U9 Uq RS VG Mg Rk)
  (Xv:PySem.W.codeIn K Mg "_law_cell"=true)
  (k12:PySem.W.keepIn K (.ref NM)=true)
  (W8:gZ K "_law_mixed" NN)
  (l13:fo K "_law_mixed" "_law_mixed" nM NN Vo QM Wd Va Ur RT VH Mh Rl)
  (Xw:PySem.W.codeIn K Mh "_law_mixed"=true)
  (k13:PySem.W.keepIn K (.ref NN)=true)
  (W9:gZ K "_law_digits" NO)
  (uj:fo K "_law_digits" "_law_digits" lY NO Vp QN We Vb Us RU VI Mj Rm)
  (Xx:PySem.W.codeIn K Mj "_law_digits"=true)
  (k14:PySem.W.keepIn K (.ref NO)=true)
  (Xa:gZ K "_law_take" NP)
  (l15:fo K "_law_take" "_law_take" p6 NP Vq QO Wf Vc Ut RV VJ Ml Rn)
  (Xy:PySem.W.codeIn K Ml "_law_take"=true)
  (k15:PySem.W.keepIn K (.ref NP)=true)
  (Xb:gZ K "_law_tree" NQ)
  (l16:fo K "_law_tree" "_law_tree" p7 NQ Vr QP Wg Vd Uu RW VL Mm Ro)
  (Xz:PySem.W.codeIn K Mm "_law_tree"=true)
  (k16:PySem.W.keepIn K (.ref NQ)=true)
  (Xc:gZ K "_law_next" NR)
  (l17:fo K "_law_next" "_law_next" kG NR Vs QQ Wh Ve Uv RX VM Mn Rp)
  (XA:PySem.W.codeIn K Mn "_law_next"=true)
  (k17:PySem.W.keepIn K (.ref NR)=true)
  (Xd:gZ K "_law_round" NS)
  (l18:fo K "_law_round" "_law_round" jC NS Vt QR Wi Vf Uw RY VN Mo Rq)
  (XB:PySem.W.codeIn K Mo "_law_round"=true)
  (k18:PySem.W.keepIn K (.ref NS)=true)
  (Xe:gZ K "_law_tie" NT)
  (l19:fo K "_law_tie" "_law_tie" rO NT Vu QS Wj Vg Ux RZ VO Mp Rt)
  (XE:PySem.W.codeIn K Mp "_law_tie"=true)
  (k19:PySem.W.keepIn K (.ref NT)=true)
  (Xf:gZ K "_law_renamed" NU)
  (l20:fo K "_law_renamed" "_law_renamed" kM NU Vv QT Wl Vh Uy R0 VP Mq Ru)
  (XF:PySem.W.codeIn K Mq "_law_renamed"=true)
  (k20:PySem.W.keepIn K (.ref NU)=true)
  (Xg:gZ K "_law_web" NV)
  (l21:fo K "_law_web" "_law_web" rP NV Vw QU Wm Vi Uz Sa VQ Mr Rv)
  (XG:PySem.W.codeIn K Mr "_law_web"=true)
  (k21:PySem.W.keepIn K (.ref NV)=true)
  (Xh:gZ K "_law_rounds" NW)
  (l22:fo K "_law_rounds" "_law_rounds" iR NW Vx QV Wn Vj UA Sb VR Ms Rw)
  (XH:PySem.W.codeIn K Ms "_law_rounds"=true)
  (k22:PySem.W.keepIn K (.ref NW)=true)
  (QH:gZ K "law" NX)
  (l23:fo K "law" "law" qZ NX Vy QW Wo Vk UB Sd VS Mu Rx)
  (XI:PySem.W.codeIn K Mu "law"=true)
  (k23:PySem.W.keepIn K (.ref NX)=true)
  (m0:PySem.W.findIn K (.ref C) "__init__"=some (some (.ref i0)))
  (f0:PySem.W.isFn K (.ref i0)=true)
  (ml0:fo K "__init__" "Web.__init__" dU i0 Z0 jn0 js0 ZU Z6 jo0 jp0 Uh jt0)
  (mc0:PySem.W.codeIn K Uh "Web.__init__"=true)
  (mk0:PySem.W.keepIn K (.ref i0)=true)
  (m1:PySem.W.findIn K (.ref C) "many"=some (some (.ref i1)))
  (f1:PySem.W.isFn K (.ref i1)=true)
  (ml1:fo K "many" "Web.many" lX i1 Z1 jn1 js1 ZV Z7 jo1 jp1 Ui jt1)
  (mc1:PySem.W.codeIn K Ui "Web.many"=true)
  (mk1:PySem.W.keepIn K (.ref i1)=true)
  (m2:PySem.W.findIn K (.ref C) "turns"=some (some (.ref i2)))
  (f2:PySem.W.isFn K (.ref i2)=true)
  (ml2:fo K "turns" "Web.turns" p4 i2 Z2 jn2 js2 ZW Z8 jo2 jp2 Uj jt2)
  (mc2:PySem.W.codeIn K Uj "Web.turns"=true)
  (mk2:PySem.W.keepIn K (.ref i2)=true)
  (m3:PySem.W.findIn K (.ref C) "ties"=some (some (.ref i3)))
  (f3:PySem.W.isFn K (.ref i3)=true)
  (ml3:fo K "ties" "Web.ties" jn i3 Z3 jn3 js3 ZX Z9 jo3 jp3 Uk jt3)
  (mc3:PySem.W.codeIn K Uk "Web.ties"=true)
  (mk3:PySem.W.keepIn K (.ref i3)=true)
  (m4:PySem.W.findIn K (.ref C) "tied"=some (some (.ref i4)))
  (f4:PySem.W.isFn K (.ref i4)=true)
  (ml4:fo K "tied" "Web.tied" rN i4 Z4 jn4 js4 ZY jk4 jo4 jp4 Ul jt4)
  (mc4:PySem.W.codeIn K Ul "Web.tied"=true)
  (mk4:PySem.W.keepIn K (.ref i4)=true)
  (m5:PySem.W.findIn K (.ref C) "behind"=some (some (.ref i5)))
  (f5:PySem.W.isFn K (.ref i5)=true)
  (ml5:fo K "behind" "Web.behind" jB i5 Z5 jn5 js5 ZZ jk5 jo5 jp5 Um jt5)
  (mc5:PySem.W.codeIn K Um "Web.behind"=true)
  (mk5:PySem.W.keepIn K (.ref i5)=true)
  (pgC:PySem.W.plainGet K C Str.empty=true)
  (Ko:PySem.W.hasDictIn K C=true)
  (poC:PySem.W.plainOver K C=true)
  (saC:PySem.W.findIn K (.ref C) "__setattr__"=some (some (.builtin "object.__setattr__")))
  (mkC:PySem.W.makesIn K C=true)
  (kpC:PySem.W.keepIn K (.ref C)=true)
  (nR:PySem.W.findIn K (.ref C) "rows"=some none)
  (XJ:PySem.W.nsIn K mainGlobals "MOST_POINTS"=some (some (.int 14 WM)))
  (WW:PySem.W.nsIn K mainGlobals "len"=some none)
  (L6:PySem.W.nsIn K mainGlobals "range"=some none)
  (WX:PySem.W.nsIn K mainGlobals "max"=some none)
  (WY:PySem.W.nsIn K mainGlobals "min"=some none)
  (AX:PySem.W.nsIn K mainGlobals "enumerate"=some none)
  (W2:PySem.W.nsIn K mainGlobals "zip"=some none)
  (JL:PySem.W.nsIn K mainGlobals "sorted"=some none)
  (WT:PySem.W.nsIn K mainGlobals "all"=some none)
  (zf:PySem.W.nsIn K mainGlobals "isinstance"=some none)
  (WV:PySem.W.nsIn K mainGlobals "int"=some none)
  (Qt:PySem.W.nsIn K mainGlobals "bool"=some none)
  (Qu:PySem.W.nsIn K mainGlobals "list"=some none)
  (L7:PySem.W.nsIn K mainGlobals "tuple"=some none)
  (W0:PySem.W.nsIn K mainGlobals "sum"=some none)
  (C4:PySem.W.nsIn K mainGlobals "reversed"=some none)
  (WZ:PySem.W.nsIn K mainGlobals "set"=some none)
  (WU:PySem.W.nsIn K mainGlobals "any"=some none)
  :∃fd:FuncData,(∀(s:Shared)(v:Value),BindsTo s fd ⟨[v],[]⟩ [("_law_script",v)])∧∀base:Heap,K.In base→base.Ns mainGlobals mg→FnOk l.prog w K mg base cw 40 fa fd ["_law_script"] (L2.qf K):=by
 have e:=Y6.symm.trans (PySem.W.mg_of X G QH);cases e;have E0:=pF (st:=dU) ml0 mc0 mk0;have e0:=E0.binds (ps:= ["self","turns"]) (λ_ _ _ _ _ _ _ hl=>by obtain ⟨_,_,rfl⟩:=L2.lN hl;rfl)
 let Z:DC:=⟨K,C⟩
 let T:Txt Z mg:=⟨⟨PySem.W.mg_none_of X G WW,PySem.W.mg_none_of X G L6,PySem.W.mg_none_of X G WX,PySem.W.mg_none_of X G WY,PySem.W.mg_none_of X G AX,PySem.W.mg_none_of X G W2,PySem.W.mg_none_of X G JL,PySem.W.mg_none_of X G WT,PySem.W.mg_none_of X G zf,PySem.W.mg_none_of X G WV,PySem.W.mg_none_of X G Qt,PySem.W.mg_none_of X G Qu,PySem.W.mg_none_of X G L7,PySem.W.mg_none_of X G W0,PySem.W.mg_none_of X G C4⟩,PySem.W.mg_none_of X G WZ,PySem.W.mg_none_of X G WU, .of X G a0 l0 c0 k0 (λ_ _ _ _ _ _ _ hl=>by obtain ⟨_,_,rfl⟩:=L2.lN hl;rfl), .of X G a1 l1 c1 k1 (λ_ _ _ _ _ _ _ hl=>by obtain ⟨_,rfl⟩:=L2.ig hl;rfl), .of X G a2 l2 c2 k2 (λ_ _ _ _ _ _ _ hl=>by obtain ⟨_,rfl⟩:=L2.ig hl;rfl), .of X G a3 l3 c3 k3 (λ_ _ _ _ _ _ _ hl=>by obtain ⟨_,rfl⟩:=L2.ig hl;rfl), .of X G a4 l4 c4 k4 (λ_ _ _ _ _ _ _ hl=>by obtain ⟨_,_,rfl⟩:=L2.lN hl;rfl), .of X G a5 l5 c5 k5 (λ_ _ _ _ _ _ _ hl=>by obtain ⟨_,rfl⟩:=L2.ig hl;rfl), .of X G a6 l6 c6 k6 (λ_ _ _ _ _ _ _ hl=>by obtain ⟨_,rfl⟩:=L2.ig hl;rfl), .of X G a7 l7 c7 k7 (λ_ _ _ _ _ _ _ hl=>by obtain ⟨_,rfl⟩:=L2.ig hl;rfl), .of X G a8 l8 c8 k8 (λ_ _ _ _ _ _ _ hl=>by obtain ⟨_,rfl⟩:=L2.ig hl;rfl), .of X G a9 l9 c9 k9 (λ_ _ _ _ _ _ _ hl=>by obtain ⟨_,rfl⟩:=L2.ig hl;rfl), .of X G W5 l10 Xt k10 (λ_ _ _ _ _ _ _ hl=>by obtain ⟨_,rfl⟩:=L2.ig hl;rfl), .of X G W6 l11 Xu k11 (λ_ _ _ _ _ _ _ hl=>by obtain ⟨_,rfl⟩:=L2.ig hl;rfl), .of X G W7 l12 Xv k12 (λ_ _ _ _ _ _ _ hl=>by obtain ⟨_,_,rfl⟩:=L2.lN hl;rfl), .of X G W8 l13 Xw k13 (λ_ _ _ _ _ _ _ hl=>by obtain ⟨_,_,rfl⟩:=L2.lN hl;rfl), .of X G W9 uj Xx k14 (λ_ _ _ _ _ _ _ hl=>by obtain ⟨_,_,rfl⟩:=L2.lN hl;rfl), .of X G Xa l15 Xy k15 (λ_ _ _ _ _ _ _ hl=>by obtain ⟨_,_,rfl⟩:=L2.lN hl;rfl), .of X G Xb l16 Xz k16 (λ_ _ _ _ _ _ _ hl=>by obtain ⟨_,_,rfl⟩:=L2.lN hl;rfl), .of X G Xc l17 XA k17 (λ_ _ _ _ _ _ _ hl=>by obtain ⟨_,_,rfl⟩:=L2.lN hl;rfl), .of X G Xd l18 XB k18 (λ_ _ _ _ _ _ _ hl=>by obtain ⟨_,_,rfl⟩:=L2.lN hl;rfl), .of X G Xe l19 XE k19 (λ_ _ _ _ _ _ _ hl=>by obtain ⟨_,_,_,rfl⟩:=L2.Ab hl;rfl), .of X G Xf l20 XF k20 (λ_ _ _ _ _ _ _ hl=>by obtain ⟨_,_,_,rfl⟩:=L2.Ab hl;rfl), .of X G Xg l21 XG k21 (λ_ _ _ _ _ _ _ hl=>by obtain ⟨_,_,_,rfl⟩:=L2.Ab hl;rfl), .of X G Xh l22 XH k22 (λ_ _ _ _ _ _ _ hl=>by obtain ⟨_,rfl⟩:=L2.ig hl;rfl), .of X G QH l23 XI k23 (λ_ _ _ _ _ _ _ hl=>by obtain ⟨_,rfl⟩:=L2.ig hl;rfl),⟨⟨pgC,Ko,poC,saC⟩,nR⟩,PySem.W.mg_of X G gC,i0,_,E0,⟨mkC,m0,f0,kpC⟩,e0, .of m1 f1 ml1 mc1 mk1 (λ_ _ _ _ _ _ _ hl=>by obtain ⟨_,rfl⟩:=L2.ig hl;rfl), .of m2 f2 ml2 mc2 mk2 (λ_ _ _ _ _ _ _ hl=>by obtain ⟨_,rfl⟩:=L2.ig hl;rfl), .of m3 f3 ml3 mc3 mk3 (λ_ _ _ _ _ _ _ hl=>by obtain ⟨_,rfl⟩:=L2.ig hl;rfl), .of m4 f4 ml4 mc4 mk4 (λ_ _ _ _ _ _ _ hl=>by obtain ⟨_,_,_,rfl⟩:=L2.Ab hl;rfl), .of m5 f5 ml5 mc5 mk5 (λ_ _ _ _ _ _ _ hl=>by obtain ⟨_,_,_,rfl⟩:=L2.Ab hl;rfl),⟨WM,PySem.W.mg_of X G XJ⟩⟩
 exact ⟨_,λs v=> .of_eq rfl,λbase _ _=>(((Lc (P:=l.prog) (w:=w) (base:=base) T).mono (by decide)).imp (L2.KU (Z:=Z)))⟩
theorem walk{l:PySem.W.OpenLaw}{q:Program}{loose:List Str}{XP:(Str→Option Value)→Heap→Prop}{YP:World→Heap→Prop}{d:DefRec}{K:Params→PySem.W.Frag}(hn:l.most=some 63)(BH:d.params.defaults= [])
  (hY:∀(w:World)(h:Heap),YP w h→(K w.params).In h)
  (F:∀(w:World)(mg:Str→Option Value)(fa:Addr)(h:Heap),(K w.params).In h→h.Ns mainGlobals mg→mg d.name=some (.ref fa)→
   ∃fd:FuncData,(∀(s:Shared)(u:Value),BindsTo s fd ⟨[u],[]⟩ [("_law_script",u)])∧∀base:Heap,(K w.params).In base→base.Ns mainGlobals mg→FnOk l.prog w (K w.params) mg base cw 40 fa fd ["_law_script"] (qf (K w.params))):
  PySem.W.WalkO q loose XP YP l.row.toRowW d [] (λf vs=>PySem.call f vs):=L2.Qq 40 (by decide) hn BH hY F
end Bb
def PySem.W.Fast.tw15375683761689019892:Nat:=0
def PySem.W.Fast.tw15101882970254640849:Nat:=0
def PySem.W.Fast.tw13193686862092797518:Nat:=0
def PySem.W.Fast.tw9914628811548434066:Nat:=0
def PySem.W.Fast.tw12680957690137072514:Nat:=0
def PySem.W.Fast.tw17003262871686328584:Nat:=0
def PySem.W.Fast.tw13720611538345455752:Nat:=0
def PySem.W.Fast.tw17356735996720502164:Nat:=0
def PySem.W.Fast.tw15580497893174471411:Nat:=0
def PySem.W.Fast.tw2044608706028040756:Nat:=0
def PySem.W.Fast.tw8551841866386060488:Nat:=0
def PySem.W.Fast.tw1773082037511768143:Nat:=0
def PySem.W.Fast.tw8318496936197538032:Nat:=0
def PySem.W.Fast.tw3898916995518812301:Nat:=0
def PySem.W.Fast.tw5106882843588365515:Nat:=0
def PySem.W.Fast.tw11462337553148615536:Nat:=0
def PySem.W.Fast.tw3829964786451057652:Nat:=0
def PySem.W.Fast.tw1703371306425298288:Nat:=0
def PySem.W.Fast.tw16320465410437196552:Nat:=0
def PySem.W.Fast.tw15249206639643520587:Nat:=0
def PySem.W.Fast.tw3415635103916157486:Nat:=0
def PySem.W.Fast.tw11619145437699467133:Nat:=0
def PySem.W.Fast.tw14304006479774878777:Nat:=0
def PySem.W.Fast.tw4619363009663474448:Nat:=0
def PySem.W.Fast.tw16174366746748843069:Nat:=0
def PySem.W.Fast.tw9299399510664800186:Nat:=0
def PySem.W.Fast.tw7717274855588059644:Nat:=0
def PySem.W.Fast.tw14401403533216097834:Nat:=0
def PySem.W.Fast.tw11684668558417861416:Nat:=0
def PySem.W.Fast.tw17851264379232380183:Nat:=0
def PySem.W.Fast.tw6726570724779826178:Nat:=0
def PySem.W.Fast.tw15079412446624720044:Nat:=0
def PySem.W.Fast.tw17842716876303528107:Nat:=0
def PySem.W.Fast.tw16222085334770473456:Nat:=0
def PySem.W.Fast.tw3149859035752416385:Nat:=0
def PySem.W.Fast.tw8370000024837251315:Nat:=0
def PySem.W.Fast.tw6186444449440898382:Nat:=0
def PySem.W.Fast.tw9338089482156820750:Nat:=0
def PySem.W.Fast.tw342677999089617265:Nat:=0
def PySem.W.Fast.tw4686861178216374744:Nat:=0
def PySem.W.Fast.tw9573330137979623837:Nat:=0
def PySem.W.Fast.tw6755371928261712765:Nat:=0
def PySem.W.Fast.tw6975912584136293502:Nat:=0
def PySem.W.Fast.tw14156709065083754641:Nat:=0
def PySem.W.Fast.tw8663896066560647988:Nat:=0
def PySem.W.Fast.tw7815517728284076610:Nat:=0
def PySem.W.Fast.tw3333891259392452635:Nat:=0
def PySem.W.Fast.tw14129525532057303148:Nat:=0
def PySem.W.Fast.tw17978097394401687987:Nat:=0
def PySem.W.Fast.tw312403817857202585:Nat:=0
def PySem.W.Fast.tw9320273926250213472:Nat:=0
def PySem.W.Fast.tw10588968170007881256:Nat:=0
def PySem.W.Fast.tw14919578641093808248:Nat:=0
def PySem.W.Fast.tw6990246654979401336:Nat:=0
def PySem.W.Fast.tw15583601880900609436:Nat:=0
def PySem.W.Fast.tw15482526031237895227:Nat:=0
def PySem.W.Fast.tw3234888015859259304:Nat:=0
def PySem.W.Fast.tw10018572585584688345:Nat:=0
def PySem.W.Fast.tw2054700797647897418:Nat:=0
def PySem.W.Fast.tw2071447693052599107:Nat:=0
def PySem.W.Fast.tw13477794323345386231:Nat:=0
def PySem.W.Fast.tw10765842529953844672:Nat:=0
def PySem.W.Fast.tw1402121564045666575:Nat:=0
def PySem.W.Fast.tw10565035093953936055:Nat:=0
def PySem.W.Fast.tw3260072478690692409:Nat:=0
def PySem.W.Fast.tw600741549098034033:Nat:=0
open PySem PySem.W PyProof.Rows
set_option maxRecDepth 100000 in
set_option maxHeartbeats 0 in
theorem PySem.Challenge.cw_mapdye_k14_counted_holds : PySem.Challenge.rw_mapdye_k14_counted.Holds := by
 w_on;o_law;k_head;(case hw=>w_witness2)
 k_fill
 refine Bb.walk (l:=PySem.Challenge.rw_mapdye_k14_counted) rfl rfl (λw h Y=>PySem.W.kIn_of Y) ?F
 case F=>
  intro w mg fa h KX G t9
  refine' Bb.all_mk KX G t9 ?_ ?_ ?_ ?_ ?_ ?_ ?_ ?_ ?_ ?_ ?_ ?_ ?_ ?_ ?_ ?_ ?_ ?_ ?_ ?_ ?_ ?_ ?_ ?_ ?_ ?_ ?_ ?_ ?_ ?_ ?_ ?_ ?_ ?_ ?_ ?_ ?_ ?_ ?_ ?_ ?_ ?_ ?_ ?_ ?_ ?_ ?_ ?_ ?_ ?_ ?_ ?_ ?_ ?_ ?_ ?_ ?_ ?_ ?_ ?_ ?_ ?_ ?_ ?_ ?_ ?_ ?_ ?_ ?_ ?_ ?_ ?_ ?_ ?_ ?_ ?_ ?_ ?_ ?_ ?_ ?_ ?_ ?_ ?_ ?_ ?_ ?_ ?_ ?_ ?_ ?_ ?_ ?_ ?_ ?_ ?_ ?_ ?_ ?_ ?_ ?_ ?_ ?_ ?_ ?_ ?_ ?_ ?_ ?_ ?_ ?_ ?_ ?_ ?_ ?_ ?_ ?_ ?_ ?_ ?_ ?_ ?_ ?_ ?_ ?_ ?_ ?_ ?_ ?_ ?_ ?_ ?_ ?_ ?_ ?_ ?_ ?_ ?_ ?_ ?_ ?_ ?_ ?_ ?_ ?_ ?_ ?_ ?_ ?_ ?_ ?_ ?_
  all_goals (try (show _=_;k_is))
